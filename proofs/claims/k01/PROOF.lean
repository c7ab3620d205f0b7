import PyProof.Rows.All
import Wide.All
import OpenK.AllK
import Wide.FinOn
import HandS.Base
import HandS.Call
import HandS.List
import HandS.Comp
import HandS.Ends
import HandS.Dict
import HandS.Iter
import HandS.Words
import HandS.Evl
import HandS.Strs
import HandS.SetBool
import HandS.Wide
import HandS.Zip
import HandS.Conv
import KE.KSortedM
import HandS.Style
import HandS.Lambda
import HandS.SortKw
import KE.KDictCopyH
import KE.KDictSum
import KE.KSortKey
import HandS.Slots
import KE.GoesNew
import HandS.IsInst
import HandS.EndTab
import PySem.Challenge.RW_needleroll_k01_needles_through_turns
set_option Elab.async false
set_option linter.all false
set_option maxRecDepth 100000
set_option maxHeartbeats 4000000

namespace Nr
open PySem PySem.Spec PyProof.Rows L2 Evl

abbrev prg : Program := PySem.Challenge.pw_needleroll_k01_needles_through_turns
def topS (i : Nat) : Stmt := prg.main.body.getD i (.Pass ⟨0, 0, 0, 0⟩)

/-- a def that can be called: where it stands, what it keeps -/
structure Can (P : Program) (w : World) (K : PySem.W.Frag) (mg : Str → Option Value) (base : Heap) (x : Str) (k : Nat) (f : Addr) (fd : FuncData) (ps : List Str) (sp : Sp) : Prop where
  ok : FnOk P w K mg base CX0 k f fd ps sp
  at_ : mg x = some (.ref f)
  kp : PySem.W.keepIn K (.ref f) = true
  bd : Binds K fd ps []

section
variable {X : Cx} {x : Str} {k j : Nat} {f : Addr} {fd : FuncData} {ps : List Str} {sp : Sp} {e : Expr} {es : List Expr} {t : TA} {p pos : Pos}
theorem pcall (F : Can X.prog X.w X.K X.mg X.base x k f fd ps sp) (hr : Room j X.A) (ha : PA X (e :: es) t) (hk : k ≤ j := by decide) (hg : Gl X x := by rfl)
    (hdb : (x == ("__debug__" : Str)) = false := by decide) (he : starEach (e :: es) X.env = (false, eval e X.env) :: starEach es X.env := by rfl) (hpl : (backTo pos (starEach es X.env)).any (·.1) = false := by rfl) :
    PE X (.Call (.Name x p) (e :: es) [] pos) (tCall sp [] E0 t) :=
  pe_call F.ok (hr.mono hk) hg F.at_ F.kp F.bd .nil pass0 ha hdb he hpl
end

section
variable {P : Program} {w : World} {K : PySem.W.Frag} {mg : Str → Option Value} {base : Heap}
/-! common_divisor -/
abbrev sGcd : Stmt := topS 2
theorem scGcd : FnScope ["first", "second"] ["first", "second"] (defScope sGcd) := ⟨rfl, rfl, rfl, by decide +kernel, rfl, by decide +kernel, by decide +kernel⟩
def spGcd : Sp := fun vs H Q _ => ∃ a b : Nat, vs = [.int a, .int b] ∧ RetV (.int (Nat.gcd a b : Nat)) H Q
theorem ok_gcd {f : Addr} {fd : FuncData} {k : Nat} (F : Fun K "common_divisor" "common_divisor" sGcd f fd) : FnOk P w K mg base CX0 (k + 1) f fd ["first", "second"] spGcd := by
  refine F.ok scGcd (fun vs H Q E h => ?_) (fun cdv A outer s H vs Q E hr h => ?_)
  · obtain ⟨a, b, rfl, _⟩ := h
    rfl
  obtain ⟨a, b, rfl, q⟩ := h
  refine ⟨_, pss_cons (ps_while PassesOwn.never (pt_cmpR op_ne (pv 1) pe_int (nomark _))
    (pss_one (ps_par (i := 0) (j := 1) (by rfl) scGcd.nd rfl rfl (by decide) rfl rfl (pa_cons (pv 1) (pa_cons (pe_op op_mod (pv 0) (pv 1)) pa_nil)) (by rfl))))
    (pss_one (ps_ret (pv 0))), ?_⟩
  refine q_while (fun m σ' H' => ∃ c d : Nat, σ' = [some (.int c), some (.int d)] ∧ Nat.gcd c d = Nat.gcd a b ∧ m = d ∧ Ex H H') b ⟨a, b, rfl, rfl, rfl, Ex.refl H⟩ ?_
  rintro m σ' H' ⟨c, d, rfl, hg, rfl, hx⟩
  refine ⟨_, et_test (ev_op (ev_var rfl) ev_c (rv_ne rfl)), fun hb H1 e1 => ?_, fun hb H1 e1 => ?_⟩
  · have hd : m ≠ 0 := by
      rintro rfl
      simp at hb
    refine ⟨fun σ2 H2 => ∃ c d : Nat, σ2 = [some (.int c), some (.int d)] ∧ Nat.gcd c d = Nat.gcd a b ∧ d < m ∧ Ex H H2, ?_, ?_⟩
    · rintro σ2 H2 ⟨c2, d2, rfl, g2, l2, x2⟩
      exact ⟨d2, l2, c2, d2, rfl, g2, rfl, x2⟩
    · refine ⟨.int m, rfl, .int c, rfl, .int m, rfl, c, m, rfl, rfl, by omega, .int m, .int ((c : Int) % (m : Int)), rfl, m, c % m, rfl, ?_, Nat.mod_lt _ (by omega), hx.trans e1⟩
      rw [← hg, Nat.gcd_comm c m, Nat.gcd_rec m c, Nat.gcd_comm]
  · have hd : m = 0 := by
      simp at hb
      omega
    subst hd
    refine ⟨.int c, rfl, ?_⟩
    have : c = Nat.gcd a b := by rw [← hg]; simp
    rw [this]
    exact q H1 (hx.trans e1)
end
end Nr
namespace Nr
open PySem PySem.Spec PyProof.Rows L2 Evl

/-! data -/
abbrev di (n : Nat) : PyData := .int (n : Int)
abbrev vi (n : Nat) : V := .int (n : Int)
mutual
def noL : PyData → Bool
  | .list _ => false
  | .tuple ds => noLs ds
  | .dict _ => false
  | .none => true
  | .bool _ => true
  | .int _ => true
  | .str _ => true
def noLs : List PyData → Bool
  | [] => true
  | d :: ds => noL d && noLs ds
end
theorem noLs_map {α : Type} {f : α → PyData} (h : ∀ x, noL (f x) = true) : ∀ l : List α, noLs (l.map f) = true
  | [] => by rw [List.map_nil, noLs]
  | x :: l => by rw [List.map_cons, noLs, h x, noLs_map h l]; rfl
theorem noLs_append : ∀ a b : List PyData, noLs (a ++ b) = (noLs a && noLs b)
  | [], b => by rw [List.nil_append, noLs, Bool.true_and]
  | d :: a, b => by rw [List.cons_append, noLs, noLs, noLs_append a b, Bool.and_assoc]

section
variable {K : PySem.W.Frag} {H H' : Hp}
mutual
theorem dp_ex (e : Ex H H') : ∀ (d : PyData) (v : V), Dp K H v d → Dp K H' v d
  | .none, _, h => by cases h; exact .non
  | .bool b, _, h => by cases h; exact .bl b
  | .int i, _, h => by cases h; exact .int i
  | .str x, _, h => by cases h; exact .str x
  | .list ds, _, h => by
    cases h with
    | lst hs ha => exact .lst (ex_l e hs) (dpa_ex e ds _ ha)
  | .tuple ds, _, h => by
    cases h with
    | tup hs ha => exact .tup (ex_t e hs) (dpa_ex e ds _ ha)
  | .dict _, _, h => by cases h
theorem dpa_ex (e : Ex H H') : ∀ (ds : List PyData) (vs : List V), DpAll K H vs ds → DpAll K H' vs ds
  | [], _, h => by cases h; exact .nil
  | d :: ds, _, h => by
    cases h with
    | cons h1 h2 => exact .cons (dp_ex e d _ h1) (dpa_ex e ds _ h2)
end
/-- no tuple stands at p -/
def NoT (H : Hp) (p : Addr) : Prop := ∀ xs, ¬ Rd H p (.tup xs)
theorem noT_none {p : Addr} (h : H p = none) : NoT H p := fun xs r => by
  rcases r with r | ⟨o, r⟩
  · rw [h] at r; cases r
  · rw [h] at r; cases r
theorem noT_lst {p : Addr} {ys : List V} (h : H p = some (.lst ys)) : NoT H p := fun xs r => by
  rcases r with r | ⟨o, r⟩
  · rw [h] at r; cases r
  · rw [h] at r; cases r
theorem noT_ext {p : Addr} {φ : Heap → Prop} (h : H p = some (.ext φ)) : NoT H p := fun xs r => by
  rcases r with r | ⟨o, r⟩
  · rw [h] at r; cases r
  · rw [h] at r; cases r
theorem noT_dT {p : Addr} {kvs : List (List Key × V)} (h : H p = some (.dT kvs)) : NoT H p := fun xs r => by
  rcases r with r | ⟨o, r⟩
  · rw [h] at r; cases r
  · rw [h] at r; cases r
theorem sqt_mut {p a : Addr} {o : HO} {xs : List V} (n : NoT H p) (h : SqT K H a xs) : SqT K (upd H p o) a xs := by
  rcases h with h | h
  · have hne : a ≠ p := fun z => n xs (z ▸ h)
    refine .inl ?_
    rcases h with h | ⟨u, h⟩
    · exact .inl (by rw [upd_ne hne]; exact h)
    · exact .inr ⟨u, by rw [upd_ne hne]; exact h⟩
  · exact .inr h
mutual
theorem dp_mut {p : Addr} {o : HO} (n : NoT H p) : ∀ (d : PyData) (v : V), noL d = true → Dp K H v d → Dp K (upd H p o) v d
  | .none, _, _, h => by cases h; exact .non
  | .bool b, _, _, h => by cases h; exact .bl b
  | .int i, _, _, h => by cases h; exact .int i
  | .str x, _, _, h => by cases h; exact .str x
  | .list ds, _, z, h => by rw [noL] at z; cases z
  | .tuple ds, _, z, h => by
    rw [noL] at z
    cases h with
    | tup hs ha => exact .tup (sqt_mut n hs) (dpa_mut n ds _ z ha)
  | .dict _, _, _, h => by cases h
theorem dpa_mut {p : Addr} {o : HO} (n : NoT H p) : ∀ (ds : List PyData) (vs : List V), noLs ds = true → DpAll K H vs ds → DpAll K (upd H p o) vs ds
  | [], _, _, h => by cases h; exact .nil
  | d :: ds, _, z, h => by
    rw [noLs, Bool.and_eq_true] at z
    cases h with
    | cons h1 h2 => exact .cons (dp_mut n d _ z.1 h1) (dpa_mut n ds _ z.2 h2)
end
theorem dp_int {v : V} {i : Int} (h : Dp K H v (.int i)) : v = .int i := by cases h; rfl
theorem dp_tup {v : V} {ds : List PyData} (h : Dp K H v (.tuple ds)) : ∃ a xs, v = .ref a ∧ SqT K H a xs ∧ DpAll K H xs ds := by
  cases h with
  | tup hs ha => exact ⟨_, _, rfl, hs, ha⟩
theorem dpa_append : ∀ {as : List V} {ds : List PyData} {bs : List V} {es : List PyData}, DpAll K H as ds → DpAll K H bs es → DpAll K H (as ++ bs) (ds ++ es)
  | [], _, _, _, h, k => by cases h; exact k
  | _ :: _, _, _, _, h, k => by
    cases h with
    | cons h1 h2 => exact .cons h1 (dpa_append h2 k)
theorem dpa_len : ∀ {as : List V} {ds : List PyData}, DpAll K H as ds → as.length = ds.length
  | [], _, h => by cases h; rfl
  | _ :: _, _, h => by
    cases h with
    | cons h1 h2 => rw [List.length_cons, List.length_cons, dpa_len h2]
theorem dpa_get : ∀ {as : List V} {ds : List PyData} {i : Nat} {v : V}, DpAll K H as ds → as[i]? = some v → ∃ d, ds[i]? = some d ∧ Dp K H v d
  | [], _, _, _, h, e => by simp at e
  | _ :: _, _, 0, _, h, e => by
    cases h with
    | cons h1 h2 => simp at e; subst e; exact ⟨_, rfl, h1⟩
  | _ :: _, _, i + 1, _, h, e => by
    cases h with
    | cons h1 h2 =>
      obtain ⟨d, k1, k2⟩ := dpa_get (i := i) h2 (by simpa using e)
      exact ⟨d, by simpa using k1, k2⟩
theorem dpa_ints : ∀ {as : List V} {ns : List Int}, DpAll K H as (ns.map PyData.int) → as = ns.map V.int
  | [], [], h => rfl
  | [], _ :: _, h => by cases h
  | _ :: _, [], h => by cases h
  | _ :: _, _ :: _, h => by
    cases h with
    | cons h1 h2 => rw [dp_int h1, dpa_ints h2]; rfl
theorem dpa_ints_of : ∀ (ns : List Int), DpAll K H (ns.map V.int) (ns.map PyData.int)
  | [] => .nil
  | n :: ns => .cons (.int n) (dpa_ints_of ns)
theorem dp_itup {v : V} {ns : List Int} (h : Dp K H v (.tuple (ns.map PyData.int))) : ∃ a, v = .ref a ∧ SqT K H a (ns.map V.int) := by
  obtain ⟨a, xs, rfl, hs, ha⟩ := dp_tup h
  rw [dpa_ints ha] at hs
  exact ⟨a, rfl, hs⟩
theorem dp_itup_of {a : Addr} {ns : List Int} (h : SqT K H a (ns.map V.int)) : Dp K H (.ref a) (.tuple (ns.map PyData.int)) := .tup h (dpa_ints_of ns)
end
/-- what is handed back: any data; a new list -/
def RetD (K : PySem.W.Frag) (d : PyData) (H : Hp) (Q : VK) : Prop := ∀ v H2, Ex H H2 → Dp K H2 v d → Q v H2
def RetFL (K : PySem.W.Frag) (ds : List PyData) (H : Hp) (Q : VK) : Prop := ∀ p xs H2, H p = none → Ex H H2 → H2 p = some (.lst xs) → DpAll K H2 xs ds → Q (.ref p) H2

section
variable {P : Program} {w : World} {K : PySem.W.Frag} {mg : Str → Option Value} {base : Heap}
/-! lowest -/
abbrev sLowest : Stmt := topS 4
theorem scLowest : FnScope ["top", "bottom", "shared"] ["top", "bottom"] (defScope sLowest) := ⟨rfl, rfl, rfl, by decide +kernel, rfl, by decide +kernel, by decide +kernel⟩
def lowD (a b : Nat) : PyData := .tuple [di (a / Nat.gcd a b), di (b / Nat.gcd a b)]
def spLowest (K : PySem.W.Frag) : Sp := fun vs H Q _ => ∃ a b : Nat, vs = [.int a, .int b] ∧ 0 < b ∧ b < 1073741824 ∧ RetD K (lowD a b) H Q
theorem gcd_lt {a b : Nat} (h : 0 < b) (h2 : b < 1073741824) : 0 < Nat.gcd a b ∧ Nat.gcd a b < 1073741824 :=
  ⟨Nat.gcd_pos_of_pos_right _ h, Nat.lt_of_le_of_lt (Nat.gcd_le_right _ h) h2⟩
theorem ok_lowest {f : Addr} {fd : FuncData} (F : Fun K "lowest" "lowest" sLowest f fd) {fg : Addr} {fdg : FuncData} (G : Can P w K mg base "common_divisor" 1 fg fdg ["first", "second"] spGcd) :
    FnOk P w K mg base CX0 2 f fd ["top", "bottom"] (spLowest K) := by
  refine F.ok scLowest (fun vs H Q E h => ?_) (fun cdv A outer s H vs Q E hr h => ?_)
  · obtain ⟨a, b, rfl, _⟩ := h
    rfl
  obtain ⟨a, b, rfl, hb, hb2, q⟩ := h
  have hg := gcd_lt (a := a) hb hb2
  refine ⟨_, pss_cons (ps_set (i := 2) scLowest.nd rfl (.inl rfl) (pcall G hr (pa_cons (pv 0) (pa_cons (pv 1) pa_nil))))
    (pss_one (ps_ret (pe_tup (pa_cons (pe_op op_fdiv (pv 0) (pv 2)) (pa_cons (pe_op op_fdiv (pv 1) (pv 2)) pa_nil))))), ?_⟩
  refine ⟨.int a, rfl, .int b, rfl, a, b, rfl, fun H1 e1 => ?_⟩
  refine ⟨.int a, rfl, .int (Nat.gcd a b : Nat), rfl, _, _, rfl, rfl, ⟨by omega, by omega⟩, .int b, rfl, .int (Nat.gcd a b : Nat), rfl, _, _, rfl, rfl, ⟨by omega, by omega⟩, by show 2 ≤ sizeLine; decide, fun t ht => ?_⟩
  refine q _ _ (e1.trans (Ex.new ht)) (.tup (st_of upd_same) (.cons (.int _) (.cons (.int _) .nil)))

/-! common_multiple -/
abbrev sLcm : Stmt := topS 3
theorem scLcm : FnScope ["numbers", "multiple", "number"] ["numbers"] (defScope sLcm) := ⟨rfl, rfl, rfl, by decide +kernel, rfl, by decide +kernel, by decide +kernel⟩
def lcmL (l : List Nat) : Nat := l.foldl (fun m n => m * n / Nat.gcd m n) 1
theorem lcm_step (m n : Nat) : m * n / Nat.gcd m n = Nat.lcm m n := rfl
theorem lcm_pos : ∀ (l : List Nat) (m : Nat), 0 < m → (∀ x ∈ l, 0 < x) → 0 < l.foldl (fun m n => m * n / Nat.gcd m n) m
  | [], m, h, _ => h
  | x :: l, m, h, k => lcm_pos l _ (by show 0 < Nat.lcm m x; exact Nat.lcm_pos h (k x (List.mem_cons_self))) fun y hy => k y (List.mem_cons_of_mem _ hy)
/-- numbers all of whose multiples on the way stay small -/
def spLcm (K : PySem.W.Frag) : Sp := fun vs H Q _ => ∃ (a : Addr) (ns : List Nat), vs = [.ref a] ∧ SqL K H a (ns.map vi) ∧ (∀ n ∈ ns, 0 < n ∧ n < 1073741824) ∧ RetV (.int (lcmL ns : Nat)) H Q
theorem ok_lcm {f : Addr} {fd : FuncData} (F : Fun K "common_multiple" "common_multiple" sLcm f fd) {fg : Addr} {fdg : FuncData} (G : Can P w K mg base "common_divisor" 1 fg fdg ["first", "second"] spGcd) :
    FnOk P w K mg base CX0 2 f fd ["numbers"] (spLcm K) := by
  refine F.ok scLcm (fun vs H Q E h => ?_) (fun cdv A outer s H vs Q E hr h => ?_)
  · obtain ⟨a, b, rfl, _⟩ := h
    rfl
  obtain ⟨a, ns, rfl, hs, hb, q⟩ := h
  refine ⟨_, pss_cons (ps_set (i := 1) scLcm.nd rfl (.inl rfl) pe_int)
    (pss_cons (ps_for PassesOwn.never rfl (pi_list (pv 0)) (pg_name (i := 2) scLcm.nd rfl (.inl rfl))
      (pss_one (ps_set (i := 1) scLcm.nd rfl (.inl rfl) (pe_op op_fdiv (pe_op op_mul (pv 1) (pv 2)) (pcall G hr (pa_cons (pv 1) (pa_cons (pv 2) pa_nil)))))))
    (pss_one (ps_ret (pv 1)))), ?_⟩
  refine q_asg ev_c fun H1 e1 => ?_
  refine q_forLn (ev_var rfl) (ex_l e1 hs) (fun i σ' H' => Ex H H' ∧ ∃ y, σ' = [some (.ref a), some (.int ((ns.take i).foldl (fun m n => m * n / Nat.gcd m n) 1 : Nat)), y]) (fun H2 e2 => ⟨e1.trans e2, none, rfl⟩) (fun i σ' H' _ h => ex_l h.1 hs) ?_ ?_
  · rintro i x σ' H' hx ⟨e2, y, rfl⟩
    rw [List.getElem?_map] at hx
    obtain ⟨n, hn, rfl⟩ := Option.map_eq_some_iff.mp hx
    have hm := hb n (List.mem_of_getElem? hn)
    have hg := gcd_lt (a := (ns.take i).foldl (fun m n => m * n / Nat.gcd m n) 1) hm.1 hm.2
    have et : (ns.take (i + 1)).foldl (fun m n => m * n / Nat.gcd m n) 1 = (ns.take i).foldl (fun m n => m * n / Nat.gcd m n) 1 * n / Nat.gcd ((ns.take i).foldl (fun m n => m * n / Nat.gcd m n) 1) n := by
      rw [List.take_add_one, hn, List.foldl_append]; rfl
    rw [et]
    generalize (ns.take i).foldl (fun m n => m * n / Nat.gcd m n) 1 = m at hg ⊢
    refine ⟨.int m, rfl, .int n, rfl, _, _, rfl, rfl, .inr ⟨by omega, by omega⟩, .int m, rfl, .int n, rfl, m, n, rfl, fun H2 e3 => ⟨_, _, rfl, rfl, ⟨by omega, by omega⟩, e2.trans e3, some (.int n), rfl⟩⟩
  · rintro σ' H' ⟨e2, y, rfl⟩
    refine ⟨_, rfl, ?_⟩
    rw [List.length_map, List.take_length]
    exact q _ e2
end
end Nr
namespace Nr
open PySem PySem.Spec PyProof.Rows L2 Evl

/-! turns -/
def turnsF : Nat → Nat → Nat → Nat → Nat → List (Nat × Nat)
  | 0, _, _, _, _ => []
  | f + 1, M, b, l, h => if b < M then (b, l) :: turnsF f M (b + l) (l + h) h else []
def turnsM (n g h : Nat) : List (Nat × Nat) := turnsF (2 * n) (2 * n) 0 g h
abbrev td (p : Nat × Nat) : PyData := .tuple [di p.1, di p.2]
abbrev wD (g h e : Nat) : PyData := .tuple [di g, di h, di e]
theorem noL_td (p : Nat × Nat) : noL (td p) = true := by simp [noL, noLs]
theorem turnsF_done : ∀ (f M b l h : Nat), ¬ b < M → turnsF f M b l h = []
  | 0, _, _, _, _, _ => rfl
  | f + 1, M, b, l, h, z => by rw [turnsF, if_neg z]
theorem turnsF_len : ∀ (f M b l h : Nat), (turnsF f M b l h).length ≤ f
  | 0, _, _, _, _ => Nat.le_refl _
  | f + 1, M, b, l, h => by
    rw [turnsF]
    split
    · rw [List.length_cons]; have := turnsF_len f M (b + l) (l + h) h; omega
    · exact Nat.zero_le _
theorem wd_get {K : PySem.W.Frag} {H : Hp} {v : V} {g h e : Nat} (d : Dp K H v (wD g h e)) : ∃ a, v = .ref a ∧ SqT K H a [vi g, vi h, vi e] := dp_itup (ns := [(g : Int), (h : Int), (e : Int)]) d
theorem td_get {K : PySem.W.Frag} {H : Hp} {v : V} {p : Nat × Nat} (d : Dp K H v (td p)) : ∃ a, v = .ref a ∧ SqT K H a [vi p.1, vi p.2] := dp_itup (ns := [(p.1 : Int), (p.2 : Int)]) d
section
variable {P : Program} {w : World} {K : PySem.W.Frag} {mg : Str → Option Value} {base : Heap}
abbrev sTurns : Stmt := topS 10
theorem scTurns : FnScope ["many", "winding", "girth", "growth", "end", "begin", "length", "rows"] ["many", "winding"] (defScope sTurns) := ⟨rfl, rfl, rfl, by decide +kernel, rfl, by decide +kernel, by decide +kernel⟩
def spTurns (K : PySem.W.Frag) : Sp := fun vs H Q _ => ∃ (n g h e : Nat) (v : V), vs = [.int n, v] ∧ Dp K H v (wD g h e) ∧ 0 < g ∧ n ≤ 1000 ∧ RetFL K ((turnsM n g h).map td) H Q
theorem ok_turns {f : Addr} {fd : FuncData} {k : Nat} {tc : Tok} (F : Fun K "turns" "turns" sTurns f fd) (gC : mg "CELL" = some (.int 2 tc)) :
    FnOk P w K mg base CX0 (k + 1) f fd ["many", "winding"] (spTurns K) := by
  refine F.ok scTurns (fun vs H Q E h => ?_) (fun cdv A outer s H vs Q E hr h => ?_)
  · obtain ⟨n, g, h, e, v, rfl, _⟩ := h
    rfl
  obtain ⟨n, g, h, e, v, rfl, hw, hg0, hn, q⟩ := h
  obtain ⟨wa, rfl, hq⟩ := wd_get hw
  refine ⟨_, pss_cons (ps_asg (pv 1) (pg_tup rfl (pgs_cons (pg_name (i := 2) scTurns.nd rfl (.inl rfl)) (pgs_cons (pg_name (i := 3) scTurns.nd rfl (.inl rfl)) (pgs_cons (pg_name (i := 4) scTurns.nd rfl (.inl rfl)) pgs_nil)))))
    (pss_cons (ps_set (i := 5) scTurns.nd rfl (.inl rfl) pe_int)
    (pss_cons (ps_set (i := 6) scTurns.nd rfl (.inl rfl) (pv 2))
    (pss_cons (ps_set (i := 7) scTurns.nd rfl (.inl rfl) (pe_lst pa_nil))
    (pss_cons (ps_while PassesOwn.never (PW.pt (pw_and (pt_cmpR op_lt (pv 5) (pe_op op_mul (pe_glob (v := .int 2) (by rfl) gC ⟨_, rfl⟩) (pv 0)) (nomark _)) (pw_and1 (pt_cmpR op_gt (pv 6) pe_int (nomark _)))))
      (pss_cons (ps_expr (pe_bm PySem.F.plainAttrs_list PySem.F.slot_list_append PySem.F.type_list_append mt_append (pv 7) (pa_cons (pe_tup (pa_cons (pv 5) (pa_cons (pv 6) pa_nil))) pa_nil)))
      (pss_cons (ps_aug (i := 5) scTurns.nd rfl (.inl rfl) (pv 6) ip_add)
      (pss_one (ps_aug (i := 6) scTurns.nd rfl (.inl rfl) (pv 3) ip_add)))))
    (pss_one (ps_ret (pv 7))))))), ?_⟩
  refine ⟨_, rfl, wa, _, rfl, hq, rfl, vi g, _, rfl, vi h, _, rfl, vi e, _, rfl, rfl, ?_⟩
  refine ⟨_, rfl, ?_⟩
  refine ⟨Nat.zero_le _, fun p hp => ?_⟩
  refine q_while (fun m σ' H' => ∃ (b l fu : Nat) (pre : List (Nat × Nat)) (xs : List V), σ' = [some (vi n), some (.ref wa), some (vi g), some (vi h), some (vi e), some (vi b), some (vi l), some (.ref p)] ∧ 0 < l ∧
    turnsM n g h = pre ++ turnsF fu (2 * n) b l h ∧ 2 * n - b ≤ fu ∧ m = 2 * n - b ∧ Ex H H' ∧ H' p = some (.lst xs) ∧ DpAll K H' xs (pre.map td)) (2 * n)
    ⟨0, g, 2 * n, [], [], rfl, hg0, rfl, by omega, by omega, Ex.new hp, upd_same, .nil⟩ ?_
  rintro m σ' H' ⟨b, l, fu, pre, xs, rfl, hl0, ht, hfu, rfl, ex, hpx, hd⟩
  refine ⟨_, et_and (et_test (ev_op (ev_var rfl) (ev_op ev_c (ev_var rfl) (rv_I (.inl ⟨by decide, by decide⟩))) rv_I0)) (fun _ => et_test (ev_op (ev_var rfl) ev_c rv_I0)), fun hb H1 e1 => ?_, fun hb H1 e1 => ?_⟩
  · have hb1 : b < 2 * n := by
      simp at hb
      omega
    obtain ⟨fu, rfl⟩ : ∃ k, fu = k + 1 := ⟨fu - 1, by omega⟩
    rw [turnsF, if_pos hb1] at ht
    have hlen : xs.length < 100000 := by
      have l1 := dpa_len hd
      have l2 := congrArg List.length ht
      have l3 := turnsF_len (2 * n) (2 * n) 0 g h
      rw [List.length_map] at l1
      rw [List.length_append] at l2
      unfold turnsM at l2
      omega
    obtain ⟨b0, eb0⟩ : ∃ b0, b0 = b := ⟨b, rfl⟩
    rw [show 2 * n - b = 2 * n - b0 by rw [eb0]]
    refine ⟨fun σ2 H2 => ∃ (b l fu : Nat) (pre : List (Nat × Nat)) (xs : List V), σ2 = [some (vi n), some (.ref wa), some (vi g), some (vi h), some (vi e), some (vi b), some (vi l), some (.ref p)] ∧ 0 < l ∧
      turnsM n g h = pre ++ turnsF fu (2 * n) b l h ∧ 2 * n - b ≤ fu ∧ 2 * n - b < 2 * n - b0 ∧ Ex H H2 ∧ H2 p = some (.lst xs) ∧ DpAll K H2 xs (pre.map td), ?_, ?_⟩
    · rintro σ2 H2 ⟨b2, l2, fu2, pre2, xs2, h1, h2, h3, h4, h5, h6, h7, h8⟩
      exact ⟨_, h5, b2, l2, fu2, pre2, xs2, h1, h2, h3, h4, rfl, h6, h7, h8⟩
    · refine q_appU (e1 _ _ hpx) (ev_var rfl) (eu_tup (ea_cons (ev_var rfl) (ea_cons (ev_var rfl) ea_nil)) (by show 2 ≤ 100000; decide)) hlen fun t H2 ht2 e2 h2t => ?_
      refine q_aug rfl (ev_var rfl) fun H3 e3 => ?_
      refine s_aug rfl (ev_var rfl) fun H4 e4 => ?_
      refine ⟨b + l, l + h, fu, pre ++ [(b, l)], xs ++ [.ref t], rfl, by omega, ?_, by omega, by omega, ?_, (e3.trans e4) _ _ upd_same, ?_⟩
      · rw [ht, List.append_assoc]; rfl
      · exact (Ex.mut ((ex.trans e1).trans e2) hp).trans (e3.trans e4)
      · rw [List.map_append]
        refine dpa_ex (e3.trans e4) _ _ (dpa_mut (noT_lst (e2 _ _ (e1 _ _ hpx))) _ _ ?_ (dpa_append (dpa_ex (e1.trans e2) _ _ hd) (.cons (.tup (st_of h2t) (.cons (.int _) (.cons (.int _) .nil))) .nil)))
        rw [noLs_append, noLs_map noL_td]
        simp [noLs, noL]
  · have hb1 : ¬ b < 2 * n := by
      simp at hb
      omega
    rw [turnsF_done _ _ _ _ _ hb1, List.append_nil] at ht
    rw [← ht] at hd
    exact ⟨_, rfl, q p xs H1 hp (ex.trans e1) (e1 _ _ hpx) (dpa_ex e1 _ _ hd)⟩

/-! cell_at -/
abbrev sCellAt : Stmt := topS 11
theorem scCellAt : FnScope ["many", "winding", "place"] ["many", "winding", "place"] (defScope sCellAt) := ⟨rfl, rfl, rfl, by decide +kernel, rfl, by decide +kernel, by decide +kernel⟩
def cellI (n e : Nat) (p : Int) : Int := if e = 1 then (n : Int) - 1 - p else p
def spCellAt (K : PySem.W.Frag) : Sp := fun vs H Q _ => ∃ (n g h e : Nat) (p : Int) (v : V), vs = [.int n, v, .int p] ∧ Dp K H v (wD g h e) ∧ RetV (.int (cellI n e p)) H Q
theorem ok_cellAt {f : Addr} {fd : FuncData} {k : Nat} (F : Fun K "cell_at" "cell_at" sCellAt f fd) : FnOk P w K mg base CX0 (k + 1) f fd ["many", "winding", "place"] (spCellAt K) := by
  refine F.ok scCellAt (fun vs H Q E h => ?_) (fun cdv A outer s H vs Q E hr h => ?_)
  · obtain ⟨n, g, h, e, p, v, rfl, _⟩ := h
    rfl
  obtain ⟨n, g, h, e, p, v, rfl, hw, q⟩ := h
  obtain ⟨wa, rfl, hq⟩ := wd_get hw
  refine ⟨_, pss_one (ps_ret (pe_ifExp (pt_cmpR op_eq (pe_ix ix_tup (pv 1) pe_int (fun _ _ => rfl)) pe_int (nomark _)) (pe_op op_sub (pe_op op_sub (pv 0) pe_int) (pv 2)) (pv 2))), ?_⟩
  refine s_ret (v := .int (cellI n e p)) (ev_if (et_test (ev_op (ev_op (ev_var rfl) ev_c (rv_ixT hq (atI_nat (j := 2) rfl))) ev_c (rv_eq rfl))) (fun hb => ?_) (fun hb => ?_)) (fun H1 e1 => q H1 e1)
  · refine ev_is (ev_op (ev_op (ev_var rfl) ev_c rv_I0) (ev_var rfl) rv_I0) ?_
    simp at hb
    unfold cellI
    rw [if_pos (by omega)]
  · refine ev_is (ev_var rfl) ?_
    simp at hb
    unfold cellI
    rw [if_neg (by omega)]
end
end Nr
namespace Nr
open PySem PySem.Spec PyProof.Rows L2 Evl

/-- a def's rule that hands its body what is known of its code object -/
theorem fun_okC {P : Program} {w : World} {K : PySem.W.Frag} {mg : Str → Option Value} {base : Heap} {x qual : Str} {st : Stmt} {f : Addr} {fd : FuncData} {N ps : List Str} {k : Nat} {sp : Sp}
    (F : Fun K x qual st f fd) (S : FnScope N ps (defScope st)) (len : ∀ vs H Q E, sp vs H Q E → vs.length = ps.length)
    (body : ∀ (cdv : Value) (A : Around) (outer : List Env) (s : Shared) (H : Hp) (vs : List V) (Q : VK) (E : XK), PySem.W.kdsCode K cdv = true →
      Room k (A.deeper (envOfC qual (defScope st) s.heap.objs.size f cdv)) → sp vs H Q E →
      ∃ t, PSs (cxOf CX0 P w K mg base N qual (defScope st) f cdv A outer s H E).nox (defBody st) t ∧ t { nx := fun _ H' => Q .non H', rt := Q } (start N vs) H) :
    FnOk P w K mg base CX0 (k + 1) f fd ps sp := by
  obtain ⟨oc, od, kV, doc, pm, an, cdv, ct, osl, rfl, lk, hcd⟩ := F.ex
  have hk : PySem.W.kdsCode K cdv = true := by
    unfold PySem.W.codeIn at hcd
    unfold PySem.W.kdsCode
    split at hcd
    · split at hcd
      · next e =>
        show (match List.lookup _ K with
          | some ⟨_, _, .fields _, _⟩ => true
          | _ => false) = true
        rw [e]
      · cases hcd
    · cases hcd
  refine fn_of lk hcd S len fun A outer s H vs Q E hr hsp => ?_
  obtain ⟨t, h, q⟩ := body cdv A outer s H vs Q E hk hr hsp
  exact ⟨t, h.nox, q⟩

section
variable {X : Cx} {pins : List (Addr × Obj)} {σ : L2.St} {H : Hp} {s : Shared}
/-- the set at D gets one int more -/
theorem setAdd_int {E : Value → Shared → Prop} {D : Addr} {S : Int → Bool} {n : Nat} {k : Int} {tk : Tok} {Q : Bool → Shared → Prop} (I : Inv X pins σ H s) (hD : H D = some (SetO X.w D S n)) (room : n + 1 < scanBound)
    (h : ∀ b s', Inv X pins σ (upd H D (SetO X.w D (fun j => S j || decide (j = k)) (if S k = true then n else n + 1))) s' → Q b s') :
    wpAny (model X.prog X.w) X.A (setAdd D (.int k tk)) Q E s := by
  have R := setO_get I hD
  unfold setAdd
  refine wpAny_holding (wpAny_bind ((intKind X.prog X.w).pyHash (intKind_is _ _ _ _) ?_))
  refine setR_add_hashed (s := { s with toks := s.toks + 1 }) R room fun h' sb new => h _ _ ?_
  have he : ∃ u, h'.get? D = some u := by
    obtain ⟨o, _, _, _, ho, _⟩ := id new
    exact ⟨o, ho⟩
  exact I.write (e := D) (t' := s.toks + 1) (by rw [hD]; trivial) (.inl rfl) (fun b u hb hu => (sb.2 b hb).trans hu) he (setO_new new)
theorem setCall_int {E : Value → Shared → Prop} {D : Addr} {S : Int → Bool} {n : Nat} {k : Int} {tk : Tok} {Q : Value → Shared → Prop} (I : Inv X pins σ H s) (hD : H D = some (SetO X.w D S n)) (room : n + 1 < scanBound)
    (h : ∀ s', Inv X pins σ (upd H D (SetO X.w D (fun j => S j || decide (j = k)) (if S k = true then n else n + 1))) s' → Q .none s') :
    wpAny (model X.prog X.w) X.A (call (.builtin "set.add") [.ref D, .int k tk]) Q E s := by
  have R := setO_get I hD
  refine setR_add R room fun h' sb new => h _ ?_
  have he : ∃ u, h'.get? D = some u := by
    obtain ⟨o, _, _, _, ho, _⟩ := id new
    exact ⟨o, ho⟩
  exact I.write (e := D) (t' := s.toks + 1) (by rw [hD]; trivial) (.inl rfl) (fun b u hb hu => (sb.2 b hb).trans hu) he (setO_new new)
end

section
variable {X : Cx}
/-- {e}, e an int -/
def tSet1 (w : World) (te : TE) : TE := fun σ H Q => ∀ p, H p = none → te σ (upd H p (SetO w p (fun _ => false) 0)) fun y H1 => ∃ k : Int, y = .int k ∧ H1 p = some (SetO w p (fun _ => false) 0) ∧ Q (.ref p) (upd H1 p (SetO w p (fun j => decide (j = k)) 1))
theorem pe_set1 {e : Expr} {pos : Pos} {te : TE} (he : PE X e te) (hcd : PySem.W.kdsCode X.K X.env.code = true) (hs : starEach [e] X.env = [(false, eval e X.env)] := by rfl) : PE X (.Set [e] 0 pos) (tSet1 X.w te) := by
  refine ⟨fun pins s σ H Q I h => ?_⟩
  rw [arm_eval_Set, hs]
  refine wpAny_bind (wpAny_standAt (wpAny_bind (PySem.W.kds_main I.kIn hcd fun b => ?_)))
  unfold setDisplay
  have er : (displayRoad 0 [e] == DisplayRoad.constants) = false := rfl
  have eu : (displayRoad 0 [e] == DisplayRoad.unsure) = false := rfl
  rw [er, eu]
  dsimp only [Bool.false_eq_true, if_false, List.map_cons, List.map_nil, List.length_cons, List.length_nil]
  refine wpAny_bind (PpSet.newSet_ok ?_)
  have hp : H s.heap.objs.size = none := I.hok.fresh (Nat.le_refl _)
  have I1 : Inv X pins σ (upd H s.heap.objs.size (SetO X.w s.heap.objs.size (fun _ => false) 0)) { s with heap := s.heap.push { cls := .type "set", dict := none, data := .set #[] 0 (.fresh 0 0 (!X.w.params.followText "set-order")) } } :=
    I.laid (t' := s.toks) (fun b u e => Heap.get?_push_of_some _ e) (Nat.le_refl _) (setO_new (setR_fresh X.w))
  have h1 := h _ hp
  generalize s.heap.objs.size = D at hp I1 h1 ⊢
  dsimp only
  refine wpAny_bind (wpAny_holding ?_)
  change wpAny _ _ (evalAll [do let v ← eval e X.env; standAt pos; pure v] >>= _) _ _ _
  unfold evalAll
  refine wpAny_bind (wpAny_bind (wpAny_bind (thn (he.run pins _ σ _ _ I1 h1) fun v s2 ⟨y, H2, I2, r2, k, ey, hD, q⟩ => ?_)))
  subst ey
  obtain ⟨tk, rfl⟩ := r2
  refine wpAny_bind (wpAny_standAt (wpAny_pure ?_))
  refine wpAny_bind (wpAny_holding (wpAny_pure (wpAny_pure ?_)))
  refine wpAny_bind (wpAny_holding ?_)
  rw [List.forIn_cons]
  refine wpAny_bind (wpAny_bind (wpAny_bind (setAdd_int I2 hD (by decide) fun b' s3 I3 => ?_)))
  refine wpAny_pure ?_
  refine wpAny_pure ?_
  show wpAny _ _ (if false = true then _ else pure ()) _ _ _
  rw [if_neg Bool.false_ne_true]
  refine wpAny_pure (wpAny_bind ?_)
  show wpAny _ _ (forIn [] PUnit.unit _) _ _ _
  rw [List.forIn_nil]
  refine wpAny_pure (wpAny_pure (wpAny_pure ⟨.ref D, _, I3, rfl, ?_⟩))
  have e1 : (fun j : Int => false || decide (j = k)) = fun j => decide (j = k) := funext fun j => Bool.false_or _
  rw [e1, if_neg Bool.false_ne_true]
  exact q

/-- {elt for target in iter if ..}, elt an int: D the new set -/
def tScI (w : World) (wi : TI) (g : TG) (tt : TT) (te : TE) (vs : List Nat) : TE := fun σ H Q => wi σ H fun J H1 => ∀ D, H1 D = none →
  ∃ W : Nat → Nat → Hp → Prop, (∃ m, W 0 m (upd H1 D (SetO w D (fun _ => false) 0))) ∧ ∀ i m H, W i m H →
    (J.stop i H ∧ Q (.ref D) H) ∨
    (J.go i H ∧ ∃ Nx : Hp → Prop, (∀ H', Nx H' → ∃ m', m' < m ∧ W (i + 1) m' H') ∧
      ∀ x H', J.yld i H x H' → g x (wipe σ vs) H' fun σ2 H2 => wipe σ2 vs = wipe σ vs ∧ tt σ2 H2 fun b H3 =>
        if b = true then te σ2 H3 fun y H4 => ∃ (c : Int) (S : Int → Bool) (n : Nat), y = .int c ∧ H4 D = some (SetO w D S n) ∧ n + 1 < scanBound ∧
          Nx (upd H4 D (SetO w D (fun j => S j || decide (j = c)) (if S c = true then n else n + 1)))
        else Nx H3)
theorem pe_scI {elt tg iter : Expr} {ifs : List Expr} {scope : Scope} {own : List (PySem.Str × Nat)} {pos : Pos} {wi : TI} {g : TG} {tt : TT} {te : TE}
    (hc : X.calm = true) (hN : X.N.Nodup) (hi : PI X tg iter wi) (ok : BlkOk X.N X.env.scope scope own)
    (hg : ∀ (s : Shared) (H : Hp) (C : Addr) (cl : List (PySem.Str × Addr)) (fp : List Addr), PG (X.blk s H scope (compEnvC scope cl C X.env) fp) tg g)
    (ht : ∀ (s : Shared) (H : Hp) (C : Addr) (cl : List (PySem.Str × Addr)) (fp : List Addr), PTs (X.blk s H scope (compEnvC scope cl C X.env) fp) ifs tt)
    (he : ∀ (s : Shared) (H : Hp) (C : Addr) (cl : List (PySem.Str × Addr)) (fp : List Addr), PE (X.blk s H scope (compEnvC scope cl C X.env) fp) elt te)
    (hs : ∀ x, foldedSetIterable iter X.env x = pure x := by intro _; rfl) :
    PE X (.SetComp elt [⟨tg, iter, ifs, 0⟩] scope pos) (tScI X.w wi g tt te (own.map (·.2))) := by
  refine ⟨fun pins s σ H Q I h => ?_⟩
  rw [PpSet.eval_SetComp]
  have cells : ∀ y ∈ scope.names, y.2 = .free → ∃ c, X.env.cells.lookup y.1 = some c := fun y hy e =>
    (ok.free y hy e).elim (fun k => I.ok.has _ (.inl k)) (fun k => I.ok.has _ (.inr k))
  refine wpAny_comprehension_free rfl hs (closure_ok cells) ok.kind (fun y hy e => by rw [ok.uniq y hy, e])
    (thn (hi.run pins s σ H _ I h) fun xv sA hA => thn hA fun itv sB hB => ?_)
  obtain ⟨it, fp, tn, J, HB, rfl, IB, T, stB, fB, q⟩ := hB
  refine PpSet.newSet_ok (newEnv_comp ?_)
  have freeB : HB sB.heap.objs.size = none := IB.hok.fresh (Nat.le_refl _)
  have IC := IB.laid (t' := sB.toks) (a := sB.heap.objs.size) (fun b o e => Heap.get?_push_of_some _ e) (Nat.le_refl _) (setO_new (setR_fresh (h := sB.heap) X.w))
  have fpLt : ∀ b ∈ fp, b < sB.heap.objs.size := fun b hb => by
    obtain ⟨o, e, _⟩ := T.obj _ _ stB b hb
    exact Heap.lt_size e
  obtain ⟨W, ⟨m0, w0⟩, turn⟩ := q _ freeB
  generalize eD : sB.heap.objs.size = D at freeB IC fpLt w0 turn ⊢
  generalize eC : ({ sB with heap := sB.heap.push { cls := .type "set", dict := none, data := .set #[] 0 (.fresh 0 0 (!X.w.params.followText "set-order")) } } : Shared) = sC
  have heC : sC.heap = sB.heap.push { cls := .type "set", dict := none, data := .set #[] 0 (.fresh 0 0 (!X.w.params.followText "set-order")) } := by rw [← eC]
  have IC : Inv X pins σ (upd HB D (SetO X.w D (fun _ => false) 0)) sC := by rw [← eC]; exact IC
  generalize eH : upd HB D (SetO X.w D (fun _ => false) 0) = HC at IC w0
  have fC : ∀ b ∈ fp, FpOk X pins HC b ∧ b < sC.heap.objs.size := fun b hb => by
    have lt := fpLt b hb
    have ne : b ≠ D := Nat.ne_of_lt lt
    refine ⟨⟨?_, (fB b hb).2⟩, ?_⟩
    · rw [← eH, upd_ne ne]; exact (fB b hb).1
    · rw [heC, Heap.size_push]; exact Nat.lt_succ_of_lt (eD ▸ lt)
  have stC : tn 0 sC.heap := T.keep _ _ _ stB fun b _ o e => by rw [heC]; exact Heap.get?_push_of_some _ e
  have IE := block_start IC ok hN fC
  generalize eCl : cellsFrom (sC.heap.objs.size + 1) scope.names (cloFrom X.env.cells scope.names []) = cl at IE
  have pg := hg sC HC sC.heap.objs.size cl fp
  have pt := ht sC HC sC.heap.objs.size cl fp
  have pe := he sC HC sC.heap.objs.size cl fp
  change codeAny _ _ (.compStart (.SetComp elt [⟨tg, iter, ifs, 0⟩] scope pos) 0 (.ref it) (.ref D) (compEnvC scope cl sC.heap.objs.size X.env)) (compPost (model X.prog X.w) X.A X.xe none (EP X pins σ Q) (.ref D) sC.heap.objs.size) _
  have hfp0 : ∀ b ∈ fp, HC b = none := fun b hb => (fC b hb).1.1
  have stE : tn 0 (pushCells (sC.heap.push { cls := .type "dict", data := .dict #[] }) scope.names) := T.keep _ _ _ stC fun b _ o e => pushCells_keeps _ _ _ _ (Heap.get?_push_of_some _ e)
  have eL : (compEnvC scope cl sC.heap.objs.size X.env).locals = sC.heap.objs.size := rfl
  generalize compEnvC scope cl sC.heap.objs.size X.env = ce at IE pg pt pe eL ⊢
  have stE : tn 0 ({ sC with heap := pushCells (sC.heap.push { cls := .type "dict", data := .dict #[] }) scope.names } : Shared).heap := stE
  generalize ({ sC with heap := pushCells (sC.heap.push { cls := .type "dict", data := .dict #[] }) scope.names } : Shared) = sE at IE stE ⊢
  -- what the walk leans on stays untouched by the block
  have foot : ∀ {ρ : L2.St} {G : Hp} {z : Shared}, Inv (X.blk sC HC scope ce fp) [] ρ G z → (∀ b ∈ fp, G b = none) → ∀ b ∈ fp, FpOk (X.blk sC HC scope ce fp) [] G b :=
    fun {ρ G z} J hn b hb => ⟨hn b hb, (J.ok.exf b hb).1, J.ok.exfs b hb, .inl hb, fun x c e => (J.ok.exf b hb).2 x c e, fun r hr => by cases hr⟩
  have loop : codeAny (model X.prog X.w) X.A (.compLoop (.SetComp elt [⟨tg, iter, ifs, 0⟩] scope pos) 0 (.ref it) (.ref D) ce) (compPost (model X.prog X.w) X.A X.xe none (EP X pins σ Q) (.ref D) sC.heap.objs.size) sE := by
    refine PpSet.compLoopS_any (fun left z => ∃ at_ G, Inv (X.blk sC HC scope ce fp) [] (wipe σ (own.map (·.2))) G z ∧ tn at_ z.heap ∧ (∀ b ∈ fp, G b = none) ∧ W at_ left G) ?_ m0 ⟨0, HC, IE, stE, hfp0, w0⟩
    rintro left z ⟨at_, G, IG, stG, nG, wG⟩
    rcases turn at_ left G wG with ⟨stop, fin⟩ | ⟨go, Nx, hNx, step⟩
    · -- the walk is at its end: back to the def
      refine thnF (T.done (X.blk sC HC scope ce fp) rfl rfl rfl hc at_ [] z _ G (fun _ _ => False) IG (foot IG nG) stG stop) fun r z1 ⟨hr, I1⟩ => ?_
      subst hr
      have IX : Inv X pins σ G z1 := IC.call' (ch := fp) I1.os I1.base I1.hok I1.bare fun b hb => ⟨(fC b hb).1.2.2.2.1, (fC b hb).1.2.1, (fC b hb).1.2.2.2.2.1, (fC b hb).1.2.2.2.2.2⟩
      have nC : G sC.heap.objs.size = none := eL ▸ I1.free
      obtain ⟨mm, hm, _⟩ := I1.loc
      have hm : z1.heap.Ns ce.locals mm := hm
      rw [eL] at hm
      obtain ⟨f0, f1, f2, f3, f4, f5⟩ := IC.fpOk (Nat.le_refl sC.heap.objs.size) nC
      exact ⟨mm, hm, fun h2 sb => ⟨.ref D, G, IX.turned (t' := z1.toks) (fun b o hb e => (sb.2 b hb).trans e) f0 f1 f3 f4 f5, rfl, fin⟩⟩
    · refine thnF (T.item (X.blk sC HC scope ce fp) rfl rfl rfl hc at_ [] z _ G (fun _ _ => False) IG (foot IG nG) stG go) fun r z1 ⟨u, hr, k1⟩ => ?_
      subst hr
      refine thnF k1 fun _ z2 ⟨x, G2, I2, r2, y2, st2, n2⟩ => ?_
      refine thnF (pg.run _ z2 _ G2 x u _ (I2.pinned (foot I2 n2) (T.obj _ _ st2)) r2 (step x G2 y2)) fun _ z3 ⟨σ3, G3, I3, hw3, k3⟩ => ?_
      refine thnF (pt.run _ z3 σ3 G3 _ I3 k3) fun b z4 ⟨G4, I4, k4⟩ => ?_
      have again_ : ∀ {z' : Shared} {G' : Hp}, Inv (X.blk sC HC scope ce fp) ([] ++ pinsAt fp z2.heap) σ3 G' z' → Nx G' →
          ∃ m, m < left ∧ ∃ at_ G, Inv (X.blk sC HC scope ce fp) [] (wipe σ (own.map (·.2))) G z' ∧ tn at_ z'.heap ∧ (∀ b ∈ fp, G b = none) ∧ W at_ m G := fun {z' G'} J nx => by
        obtain ⟨m', lt, w'⟩ := hNx G' nx
        have held : ∀ b ∈ fp, ∀ o, z2.heap.get? b = some o → z'.heap.get? b = some o ∧ G' b = none := fun b hb o e => by
          have q' := J.pin (b, o) (List.mem_append_right _ (List.mem_append_right _ (mem_pinsAt hb e)))
          exact ⟨q'.1, q'.2.1⟩
        refine ⟨m', lt, at_ + 1, G', (J.unpinned (pins := [])).weak (by rw [← hw3, wipe_length]) fun j v e => ?_, T.keep _ _ _ st2 fun b hb o e => (held b hb o e).1, fun b hb => ?_, w'⟩
        · rw [← hw3] at e
          exact (wipe_some e).1
        · obtain ⟨o, e, _⟩ := T.obj _ _ st2 b hb
          exact (held b hb o e).2
      cases b with
      | false =>
        rw [if_neg Bool.false_ne_true] at k4 ⊢
        exact again_ I4 k4
      | true =>
        rw [if_pos rfl] at k4 ⊢
        refine thnF (pe.run _ z4 σ3 G4 _ I4 k4) fun v z5 ⟨y, G5, I5, r5, c, S, n, ey, hD5, hz5, nx⟩ => ?_
        subst ey
        obtain ⟨tk, rfl⟩ := r5
        exact setCall_int (X := X.blk sC HC scope ce fp) I5 hD5 hz5 fun z6 I6 => again_ I6 nx
  exact PpSet.codeAny_compStart_set loop (T.self X.A 0 _ _ _ stE loop)
/-- over a list that the block leaves as it is -/
theorem sc_list {w : World} {K : PySem.W.Frag} {a : Addr} {xs : List V} {g : TG} {tt : TT} {te : TE} {vs : List Nat} {σ : L2.St} {H1 : Hp} {D : Addr} {Qd : Hp → Prop} (Pv : Nat → Hp → Prop) (h0 : Pv 0 (upd H1 D (SetO w D (fun _ => false) 0))) (hl : ∀ i H, i ≤ xs.length → Pv i H → SqL K H a xs)
    (hs : ∀ i x H, xs[i]? = some x → Pv i H → g x (wipe σ vs) H fun σ2 H2 => wipe σ2 vs = wipe σ vs ∧ tt σ2 H2 fun b H3 =>
        if b = true then te σ2 H3 fun y H4 => ∃ (c : Int) (S : Int → Bool) (n : Nat), y = .int c ∧ H4 D = some (SetO w D S n) ∧ n + 1 < scanBound ∧
          Pv (i + 1) (upd H4 D (SetO w D (fun j => S j || decide (j = c)) (if S c = true then n else n + 1)))
        else Pv (i + 1) H3) (hd : ∀ H, Pv xs.length H → Qd H) :
    ∃ W : Nat → Nat → Hp → Prop, (∃ m, W 0 m (upd H1 D (SetO w D (fun _ => false) 0))) ∧ ∀ i m H, W i m H →
    ((Itl K a).stop i H ∧ Qd H) ∨
    ((Itl K a).go i H ∧ ∃ Nx : Hp → Prop, (∀ H', Nx H' → ∃ m', m' < m ∧ W (i + 1) m' H') ∧
      ∀ x H', (Itl K a).yld i H x H' → g x (wipe σ vs) H' fun σ2 H2 => wipe σ2 vs = wipe σ vs ∧ tt σ2 H2 fun b H3 =>
        if b = true then te σ2 H3 fun y H4 => ∃ (c : Int) (S : Int → Bool) (n : Nat), y = .int c ∧ H4 D = some (SetO w D S n) ∧ n + 1 < scanBound ∧
          Nx (upd H4 D (SetO w D (fun j => S j || decide (j = c)) (if S c = true then n else n + 1)))
        else Nx H3) := by
  refine ⟨fun i m H => m + i = xs.length ∧ Pv i H, ⟨xs.length, rfl, h0⟩, fun i m H hW => ?_⟩
  obtain ⟨em, p⟩ := hW
  have q := hl i H (by omega) p
  by_cases lt : i < xs.length
  · refine .inr ⟨⟨xs, xs[i], q, List.getElem?_eq_getElem lt⟩, Pv (i + 1), fun H' p' => ⟨m - 1, by omega, by omega, p'⟩, fun x H' hy => ?_⟩
    obtain ⟨rfl, hy⟩ := hy
    exact hs i x _ (hy xs q) p
  · have ei : i = xs.length := by omega
    subst ei
    exact .inl ⟨⟨xs, q, Nat.le_refl _⟩, hd H p⟩
end
end Nr
namespace Nr
open PySem PySem.Spec PyProof.Rows L2 Evl

theorem turnsF_mem : ∀ (f M b l h : Nat) (q : Nat × Nat), q ∈ turnsF f M b l h → b ≤ q.1 ∧ q.1 < M ∧ l ≤ q.2 ∧ q.2 ≤ l + f * h
  | 0, _, _, _, _, q, z => by rw [turnsF] at z; cases z
  | f + 1, M, b, l, h, q, z => by
    rw [turnsF] at z
    split at z
    · rcases List.mem_cons.mp z with rfl | z
      · refine ⟨Nat.le_refl _, by assumption, Nat.le_refl _, Nat.le_add_right _ _⟩
      · have k := turnsF_mem f M (b + l) (l + h) h q z
        refine ⟨by omega, k.2.1, by omega, ?_⟩
        have : (f + 1) * h = f * h + h := by rw [Nat.add_mul, Nat.one_mul]
        omega
    · cases z
def placeN (t b : Nat) (q : Nat × Nat) : Nat := (q.1 * b + q.2 * t) / (2 * b)
def placesM (n g h t b : Nat) : List Nat := (turnsM n g h).map (placeN t b)
/-- the cells that a needle at t by b pricks -/
def pricksM (n g h e t b : Nat) : List Nat :=
  if e = 1 then (((placesM n g h t b).filter (fun p => decide (p < n))).map (fun p => n - 1 - p)).reverse else (placesM n g h t b).filter (fun p => decide (p < n))
theorem places_up (t b : Nat) (hb : 0 < b) (h M : Nat) : ∀ (f bg l : Nat), 2 ≤ l → ((turnsF f M bg l h).map (placeN t b)).Pairwise (· < ·) ∧ ∀ p ∈ (turnsF f M bg l h).map (placeN t b), (bg * b + l * t) / (2 * b) ≤ p
  | 0, bg, l, _ => by rw [turnsF]; exact ⟨.nil, fun p hp => by cases hp⟩
  | f + 1, bg, l, hl => by
    rw [turnsF]
    split
    · have ih := places_up t b hb h M f (bg + l) (l + h) (by omega)
      have st : (bg * b + l * t) / (2 * b) + 1 ≤ ((bg + l) * b + (l + h) * t) / (2 * b) := by
        rw [← Nat.add_div_right _ (by omega : 0 < 2 * b)]
        refine Nat.div_le_div_right ?_
        have h1 : 2 * b ≤ l * b := Nat.mul_le_mul_right b hl
        have h2 : (bg + l) * b = bg * b + l * b := Nat.add_mul _ _ _
        have h3 : (l + h) * t = l * t + h * t := Nat.add_mul _ _ _
        omega
      rw [List.map_cons]
      refine ⟨List.pairwise_cons.mpr ⟨fun p hp => ?_, ih.1⟩, fun p hp => ?_⟩
      · have := ih.2 p hp
        show (bg * b + l * t) / (2 * b) < p
        omega
      · rcases List.mem_cons.mp hp with rfl | hp
        · exact Nat.le_refl _
        · have := ih.2 p hp
          omega
    · exact ⟨.nil, fun p hp => by cases hp⟩
theorem places_sorted {n g h t b : Nat} (hb : 0 < b) (hg : 2 ≤ g) : (placesM n g h t b).Pairwise (· < ·) := (places_up t b hb h (2 * n) (2 * n) 0 g hg).1
theorem pricks_sorted {n g h e t b : Nat} (hb : 0 < b) (hg : 2 ≤ g) : (pricksM n g h e t b).Pairwise (· < ·) := by
  have k := (places_sorted (n := n) (h := h) (t := t) hb hg).filter (p := fun p => decide (p < n))
  unfold pricksM
  split
  · rw [List.pairwise_reverse, List.pairwise_map]
    refine List.Pairwise.imp_of_mem (fun {x y} hx hy lt => ?_) k
    have h1 := of_decide_eq_true (List.mem_filter.mp hx).2
    have h2 := of_decide_eq_true (List.mem_filter.mp hy).2
    omega
  · exact k
theorem pricks_mem {n g h e t b : Nat} (k : Nat) : k ∈ pricksM n g h e t b ↔ ∃ p ∈ placesM n g h t b, p < n ∧ k = (if e = 1 then n - 1 - p else p) := by
  unfold pricksM
  split
  · rw [List.mem_reverse, List.mem_map]
    constructor
    · rintro ⟨p, hp, rfl⟩
      have := List.mem_filter.mp hp
      exact ⟨p, this.1, of_decide_eq_true this.2, rfl⟩
    · rintro ⟨p, hp, lt, rfl⟩
      exact ⟨p, List.mem_filter.mpr ⟨hp, decide_eq_true lt⟩, rfl⟩
  · rw [List.mem_filter]
    constructor
    · rintro ⟨hp, lt⟩
      exact ⟨k, hp, of_decide_eq_true lt, rfl⟩
    · rintro ⟨p, hp, lt, rfl⟩
      exact ⟨hp, decide_eq_true lt⟩
/-- two rising lists with the same members are one -/
theorem rising_eq : ∀ {a b : List Int}, a.Pairwise (· < ·) → b.Pairwise (· < ·) → (∀ k, k ∈ a ↔ k ∈ b) → a = b
  | [], [], _, _, _ => rfl
  | [], y :: b, _, _, h => absurd ((h y).2 List.mem_cons_self) (by simp)
  | x :: a, [], _, _, h => absurd ((h x).1 List.mem_cons_self) (by simp)
  | x :: a, y :: b, ha, hb, h => by
    have pa := List.pairwise_cons.mp ha
    have pb := List.pairwise_cons.mp hb
    have e : x = y := by
      rcases List.mem_cons.mp ((h x).1 List.mem_cons_self) with z | z
      · exact z
      · rcases List.mem_cons.mp ((h y).2 List.mem_cons_self) with z' | z'
        · exact z'.symm
        · have h1 := pb.1 _ z
          have h2 := pa.1 _ z'
          omega
    subst e
    rw [rising_eq pa.2 pb.2 fun k => ?_]
    constructor
    · intro hk
      rcases List.mem_cons.mp ((h k).1 (List.mem_cons_of_mem _ hk)) with z | z
      · have := pa.1 _ hk; omega
      · exact z
    · intro hk
      rcases List.mem_cons.mp ((h k).2 (List.mem_cons_of_mem _ hk)) with z | z
      · have := pb.1 _ hk; omega
      · exact z
theorem ints_of_rising {ns : List Int} {ks : List Nat} (h1 : ns.Pairwise (· < ·)) (h2 : ks.Pairwise (· < ·)) (h : ∀ i : Int, i ∈ ns ↔ ∃ k ∈ ks, i = (k : Int)) : ns = ks.map (fun k : Nat => (k : Int)) := by
  refine rising_eq h1 (List.pairwise_map.mpr (h2.imp fun {a b} lt => by omega)) fun k => ?_
  rw [h k, List.mem_map]
  constructor
  · rintro ⟨a, b, rfl⟩; exact ⟨a, b, rfl⟩
  · rintro ⟨a, b, rfl⟩; exact ⟨a, b, rfl⟩

section
variable {P : Program} {w : World} {K : PySem.W.Frag} {mg : Str → Option Value} {base : Heap}
abbrev sPricked : Stmt := topS 12
abbrev nPricked : List Str := ["many", "winding", "angle", "top", "bottom", "places", "begin", "length", "place"]
theorem scPricked : FnScope nPricked ["many", "winding", "angle"] (defScope sPricked) := ⟨rfl, rfl, rfl, by decide +kernel, rfl, by decide +kernel, by decide +kernel⟩
def spPricked (K : PySem.W.Frag) : Sp := fun vs H Q _ => ∃ (n g h e t b : Nat) (v u : V), vs = [.int n, v, u] ∧ Dp K H v (wD g h e) ∧ Dp K H u (td (t, b)) ∧ 2 ≤ g ∧ g ≤ 1000 ∧ h ≤ 1000 ∧ n ≤ 31 ∧ 0 < b ∧ b < 2 ^ 200 ∧
  RetL ((pricksM n g h e t b).map vi) H Q
theorem ok_pricked {f : Addr} {fd : FuncData} {tc : Tok} (F : Fun K "pricked" "pricked" sPricked f fd) (gC : mg "CELL" = some (.int 2 tc)) (ms : mg "sorted" = none)
    {ft : Addr} {fdt : FuncData} (G : Can P w K mg base "turns" 1 ft fdt ["many", "winding"] (spTurns K)) {fc : Addr} {fdc : FuncData} (C : Can P w K mg base "cell_at" 1 fc fdc ["many", "winding", "place"] (spCellAt K)) :
    FnOk P w K mg base CX0 2 f fd ["many", "winding", "angle"] (spPricked K) := by
  refine F.ok scPricked (fun vs H Q E h => ?_) (fun cdv A outer s H vs Q E hr h => ?_)
  · obtain ⟨n, g, h, e, t, b, v, u, rfl, _⟩ := h
    rfl
  obtain ⟨n, g, h, e, t, b, v, u, rfl, hw, hu, hg, hg2, hh, hn, hb, hb2, q⟩ := h
  obtain ⟨ua, rfl, hq⟩ := td_get hu
  refine ⟨_, pss_cons (ps_asg (pv 2) (pg_tup rfl (pgs_cons (pg_name (i := 3) scPricked.nd rfl (.inr rfl)) (pgs_cons (pg_name (i := 4) scPricked.nd rfl (.inr rfl)) pgs_nil))))
    (pss_cons (ps_setLc (i := 5) (own := [("begin", 6), ("length", 7)]) (g := gTup K 2 (gCons (gName 6) (gCons (gName 7) gNil))) (tt := tYes) (by rfl) scPricked.nd rfl rfl (sw_true rfl rfl rfl (by decide +kernel)) (pi_list (pcall G hr (pa_cons (pv 0) (pa_cons (pv 1) pa_nil))))
      (blkOk_by (N := nPricked) (sc := defScope sPricked) (by decide +kernel))
      (fun _ _ _ _ _ => pg_tup rfl (pgs_cons (pg_name (i := 6) scPricked.nd rfl (.inl rfl)) (pgs_cons (pg_name (i := 7) scPricked.nd rfl (.inl rfl)) pgs_nil))) (fun _ _ _ _ _ => pts_nil)
      (fun _ _ _ _ _ => pe_op op_fdivW (pe_op op_add (pe_op op_mul (pv 6) (pv 4)) (pe_op op_mul (pv 7) (pv 3))) (pe_op op_mul (pe_glob (v := .int 2) (by rfl) gC ⟨_, rfl⟩) (pv 4))))
    (pss_one (ps_ret (pe_callB (cr_sortedSet (by rfl)) (by rfl) ms boot_sorted (pa_cons (pe_scI (own := [("place", 8)]) (g := gName 8) (by rfl) scPricked.nd (pi_list (pv 5)) (blkOk_by (N := nPricked) (sc := defScope sPricked) (by decide +kernel))
      (fun _ _ _ _ _ => pg_name (i := 8) scPricked.nd rfl (.inl rfl)) (fun _ _ _ _ _ => pts_one (pt_cmpR op_lt (pv 8) (pv 0) (nomark _)))
      (fun _ _ _ _ _ => pcall C hr (pa_cons (pv 0) (pa_cons (pv 1) (pa_cons (pv 8) pa_nil))))) pa_nil))))), ?_⟩
  refine ⟨_, rfl, ua, _, rfl, hq, rfl, vi t, _, rfl, vi b, _, rfl, rfl, ?_⟩
  -- places
  refine ⟨vi n, rfl, v, rfl, n, g, h, e, v, rfl, hw, by omega, by omega, fun p xs H1 hp e1 hpx hd => ?_⟩
  have hlen : xs.length = (turnsM n g h).length := by rw [dpa_len hd, List.length_map]
  have hlen2 : xs.length ≤ 2 * n := by rw [hlen]; exact turnsF_len _ _ _ _ _
  refine ⟨p, rfl, ⟨xs, sq_of hpx⟩, fun Dl hDl => ?_⟩
  refine lc_list (xs := xs) (fun i H' => Ex H1 H' ∧ H' Dl = some (.lst ((((turnsM n g h).take i).map (placeN t b)).map vi))) ⟨Ex.new hDl, upd_same⟩ (fun i H' _ p' => sq_of (p'.1 _ _ hpx)) (fun i x H' hx p' => ?_) fun H2 p' => ?_
  · obtain ⟨e2, hl⟩ := p'
    obtain ⟨d, hd1, hd2⟩ := dpa_get hd hx
    rw [List.getElem?_map] at hd1
    obtain ⟨r, hr1, rfl⟩ := Option.map_eq_some_iff.mp hd1
    have hm := turnsF_mem _ _ _ _ _ r (List.mem_of_getElem? hr1)
    have hm2 : 2 * n * h ≤ 62 * 1000 := Nat.mul_le_mul (by omega) hh
    obtain ⟨ra, rfl, hra⟩ := td_get (dp_ex e2 _ _ hd2)
    refine ⟨ra, _, rfl, hra, rfl, vi r.1, _, rfl, vi r.2, _, rfl, rfl, rfl, ?_⟩
    refine ⟨vi r.1, rfl, vi b, rfl, _, _, rfl, rfl, .inl ⟨by omega, by omega⟩, vi r.2, rfl, vi t, rfl, _, _, rfl, rfl, .inl ⟨by omega, by omega⟩, _, _, rfl, rfl, vi b, rfl, _, _, rfl, rfl, .inl ⟨by decide, by decide⟩, _, _, rfl, rfl, ?_, ?_⟩
    · refine wide_div (b := 201) (by omega) ?_ (by decide) (by decide)
      omega
    · refine ⟨_, hl, ?_, Ex.mut e2 hDl, ?_⟩
      · rw [List.length_map, List.length_map, List.length_take]
        refine small1000 ?_
        omega
      · rw [upd_same, List.take_add_one, hr1]
        simp only [List.map_append, Option.toList, List.map_cons, List.map_nil]
        rfl
  obtain ⟨e2, hl⟩ := p'
  rw [hlen, List.take_length] at hl
  have hl : H2 Dl = some (.lst ((placesM n g h t b).map vi)) := hl
  have hpl : (placesM n g h t b).length = xs.length := by unfold placesM; rw [List.length_map, hlen]
  -- the set
  refine ⟨.ref Dl, rfl, Dl, rfl, ⟨_, sq_of hl⟩, fun D hD => ?_⟩
  refine sc_list (xs := (placesM n g h t b).map vi) (fun i H' => ∃ (S : Int → Bool) (m : Nat), Ex H2 H' ∧ H' D = some (SetO w D S m) ∧ m ≤ i ∧ ∀ k : Int, S k = true ↔ ∃ p ∈ (placesM n g h t b).take i, p < n ∧ k = cellI n e (p : Int))
    ⟨fun _ => false, 0, Ex.new hD, upd_same, Nat.le_refl _, fun k => by simp⟩ (fun i H' _ ⟨S, m, ex, _⟩ => sq_of (ex _ _ hl)) (fun i x H' hx ⟨S, m, ex, hS, hmi, hmem⟩ => ?_) fun H3 ⟨S, m, ex, hS, hmi, hmem⟩ => ?_
  · rw [List.getElem?_map] at hx
    obtain ⟨pl, hpi, rfl⟩ := Option.map_eq_some_iff.mp hx
    have hi : i < (placesM n g h t b).length := (List.getElem?_eq_some_iff.mp hpi).1
    refine ⟨rfl, vi pl, rfl, vi n, rfl, _, _, rfl, rfl, _, rfl, ite2 (fun hlt => ?_) (fun hlt => ?_)⟩
    · have hlt := of_decide_eq_true hlt
      refine ⟨vi n, rfl, v, rfl, vi pl, rfl, n, g, h, e, (pl : Int), v, rfl, dp_ex ((e1.trans e2).trans ex) _ _ hw, fun H4 e4 => ?_⟩
      refine ⟨_, S, m, rfl, e4 _ _ hS, by have : scanBound = 4096 := rfl; omega, _, _, Ex.mut (ex.trans e4) hD, upd_same, by split <;> omega, fun k => ?_⟩
      rw [Bool.or_eq_true, decide_eq_true_eq, hmem k, List.take_add_one, hpi]
      constructor
      · rintro (⟨p', hp', a, b⟩ | rfl)
        · exact ⟨p', List.mem_append_left _ hp', a, b⟩
        · exact ⟨pl, List.mem_append_right _ (by simp), by omega, rfl⟩
      · rintro ⟨p', hp', a, b⟩
        rcases List.mem_append.mp hp' with z | z
        · exact .inl ⟨p', z, a, b⟩
        · simp at z
          subst z
          exact .inr b
    · have hlt : ¬ ((pl : Int) < (n : Int)) := fun z => hlt (decide_eq_true z)
      refine ⟨S, m, ex, hS, by omega, fun k => ?_⟩
      rw [hmem k, List.take_add_one, hpi]
      constructor
      · rintro ⟨p', hp', a, b⟩
        exact ⟨p', List.mem_append_left _ hp', a, b⟩
      · rintro ⟨p', hp', a, b⟩
        rcases List.mem_append.mp hp' with z | z
        · exact ⟨p', z, a, b⟩
        · simp at z
          subst z
          omega
  · rw [List.length_map] at hmi
    rw [List.length_map, List.take_length] at hmem
    refine ⟨D, S, m, rfl, hS, by omega, fun ns r hs hk hnl hr => ?_⟩
    have en : ns = (pricksM n g h e t b).map (fun k : Nat => (k : Int)) := by
      refine ints_of_rising hs (pricks_sorted hb hg) fun i => ?_
      rw [hk i, hmem i]
      constructor
      · rintro ⟨p', hp', a, rfl⟩
        refine ⟨_, (pricks_mem _).mpr ⟨p', hp', a, rfl⟩, ?_⟩
        unfold cellI
        split <;> omega
      · rintro ⟨k, hk', rfl⟩
        obtain ⟨p', hp', a, rfl⟩ := (pricks_mem _).mp hk'
        refine ⟨p', hp', a, ?_⟩
        unfold cellI
        split <;> omega
    refine q r _ (fresh_back ((e1.trans e2).trans ex) hr) (((e1.trans e2).trans ex).trans (Ex.new hr)) ?_
    rw [upd_same, en, List.map_map]
    rfl
end
end Nr
namespace Nr
open PySem PySem.Spec PyProof.Rows L2 Evl

/-! rising lists without doubles -/
def insU (x : Nat) : List Nat → List Nat
  | [] => [x]
  | y :: l => if x < y then x :: y :: l else if x = y then y :: l else y :: insU x l
def sortU (l : List Nat) : List Nat := l.foldr insU []
theorem insU_mem (x : Nat) : ∀ (l : List Nat) (k : Nat), k ∈ insU x l ↔ k = x ∨ k ∈ l
  | [], k => by simp [insU]
  | y :: l, k => by
    rw [insU]
    split
    · simp
    · split
      · rename_i h; subst h; simp
      · rw [List.mem_cons, insU_mem x l k, List.mem_cons]
        constructor
        · rintro (a | a | a)
          · exact .inr (.inl a)
          · exact .inl a
          · exact .inr (.inr a)
        · rintro (a | a | a)
          · exact .inr (.inl a)
          · exact .inl a
          · exact .inr (.inr a)
theorem insU_up (x : Nat) : ∀ (l : List Nat), l.Pairwise (· < ·) → (insU x l).Pairwise (· < ·)
  | [], _ => by simp [insU]
  | y :: l, h => by
    have p := List.pairwise_cons.mp h
    rw [insU]
    split
    · rename_i lt
      refine List.pairwise_cons.mpr ⟨fun k hk => ?_, h⟩
      rcases List.mem_cons.mp hk with rfl | hk
      · exact lt
      · have := p.1 k hk; omega
    · split
      · exact h
      · refine List.pairwise_cons.mpr ⟨fun k hk => ?_, insU_up x l p.2⟩
        rcases (insU_mem x l k).mp hk with rfl | hk
        · omega
        · exact p.1 k hk
theorem sortU_up : ∀ l : List Nat, (sortU l).Pairwise (· < ·)
  | [] => .nil
  | x :: l => insU_up x _ (sortU_up l)
theorem sortU_mem : ∀ (l : List Nat) (k : Nat), k ∈ sortU l ↔ k ∈ l
  | [], k => Iff.rfl
  | x :: l, k => by
    show k ∈ insU x (sortU l) ↔ _
    rw [insU_mem, sortU_mem l k, List.mem_cons]

/-! marks -/
def inRow (b l p : Nat) : Bool := decide (b ≤ 2 * p) && decide (2 * p < b + l)
def rowPre (whole : Nat) (q : Nat × Nat) (j : Nat) : List Nat := ((List.range j).filter (inRow q.1 q.2)).map (fun p => (2 * p - q.1) * (whole / q.2))
def rawM (n whole : Nat) (rws : List (Nat × Nat)) : List Nat := (rws.map (fun q => rowPre whole q (n + 1))).flatten
def marksM (n whole : Nat) (rws : List (Nat × Nat)) : List Nat := sortU (0 :: rawM n whole rws)
theorem rowPre_yes {whole : Nat} {q : Nat × Nat} {j : Nat} (h : inRow q.1 q.2 j = true) : rowPre whole q (j + 1) = rowPre whole q j ++ [(2 * j - q.1) * (whole / q.2)] := by
  unfold rowPre
  rw [List.range_succ, List.filter_append, List.map_append, List.filter_cons, if_pos h]
  rfl
theorem rowPre_no {whole : Nat} {q : Nat × Nat} {j : Nat} (h : inRow q.1 q.2 j = false) : rowPre whole q (j + 1) = rowPre whole q j := by
  unfold rowPre
  rw [List.range_succ, List.filter_append, List.map_append, List.filter_cons, if_neg (by rw [h]; decide)]
  simp
theorem rawM_take {n whole : Nat} {rws : List (Nat × Nat)} {i : Nat} {q : Nat × Nat} (h : rws[i]? = some q) : rawM n whole (rws.take (i + 1)) = rawM n whole (rws.take i) ++ rowPre whole q (n + 1) := by
  unfold rawM
  rw [List.take_add_one, h, List.map_append, List.flatten_append]
  simp
theorem rowPre_len {whole : Nat} {q : Nat × Nat} (j k : Nat) : (rowPre whole q j).length ≤ (rowPre whole q (j + k)).length := by
  induction k with
  | zero => exact Nat.le_refl _
  | succ k ih =>
    cases h : inRow q.1 q.2 (j + k) with
    | true => rw [← Nat.add_assoc, rowPre_yes h, List.length_append]; omega
    | false => rw [← Nat.add_assoc, rowPre_no h]; exact ih
theorem rawM_len {n whole : Nat} {rws : List (Nat × Nat)} {i : Nat} {q : Nat × Nat} (h : rws[i]? = some q) : (rawM n whole (rws.take i)).length + (rowPre whole q (n + 1)).length ≤ (rawM n whole rws).length := by
  have e : rws = rws.take (i + 1) ++ rws.drop (i + 1) := (List.take_append_drop _ _).symm
  have k := rawM_take (n := n) (whole := whole) h
  have e2 : rawM n whole rws = rawM n whole (rws.take (i + 1)) ++ rawM n whole (rws.drop (i + 1)) := by
    unfold rawM
    rw [← List.flatten_append, ← List.map_append, List.take_append_drop]
  rw [e2, k, List.length_append, List.length_append]
  omega

theorem et_chain {σ : L2.St} {H : Hp} {ta tb tc : TE} {x y z : V} {r r' : R2} {b b' : Bool} (ha : Ev ta σ H x) (hb : Ev tb σ H y) (hr : RV r x y H (.bl b)) (hc : b = true → Ev tc σ H z) (hr' : b = true → RV r' y z H (.bl b')) :
    EvT (tTest (tChain r r' ta tb tc)) σ H (b && b') := fun H1 e Q q =>
  ha H1 e _ fun H2 e2 => hb H2 (e.trans e2) _ fun H3 e3 => hr H3 ((e.trans e2).trans e3) _ fun H4 e4 => ⟨b, rfl, by
    have e5 := ((e2.trans e3).trans e4)
    cases b with
    | false => exact ⟨false, rfl, q H4 e5⟩
    | true => exact hc rfl H4 (e.trans e5) _ fun H5 e6 => hr' rfl H5 ((e.trans e5).trans e6) _ fun H6 e7 => ⟨b', rfl, by rw [Bool.true_and] at q; exact q H6 ((e5.trans e6).trans e7)⟩⟩

section
variable {P : Program} {w : World} {K : PySem.W.Frag} {mg : Str → Option Value} {base : Heap}
abbrev sMarks : Stmt := topS 13
theorem scMarks : FnScope ["many", "rows", "whole", "found", "begin", "length", "place", "behind"] ["many", "rows", "whole"] (defScope sMarks) := ⟨rfl, rfl, rfl, by decide +kernel, rfl, by decide +kernel, by decide +kernel⟩
def spMarks (K : PySem.W.Frag) : Sp := fun vs H Q _ => ∃ (n whole : Nat) (ra : Addr) (xs : List V) (rws : List (Nat × Nat)), vs = [.int n, .ref ra, .int whole] ∧ SqL K H ra xs ∧ DpAll K H xs (rws.map td) ∧ n ≤ 1000 ∧
  (∀ q ∈ rws, 0 < q.2 ∧ q.2 < 1073741824) ∧ (rawM n whole rws).length ≤ 60 ∧ RetL ((marksM n whole rws).map vi) H Q
theorem ok_marks {f : Addr} {fd : FuncData} {k : Nat} {tc : Tok} (F : Fun K "marks" "marks" sMarks f fd) (gC : mg "CELL" = some (.int 2 tc)) (ms : mg "sorted" = none) (mr : mg "range" = none) :
    FnOk P w K mg base CX0 (k + 1) f fd ["many", "rows", "whole"] (spMarks K) := by
  refine fun_okC F scMarks (fun vs H Q E h => ?_) (fun cdv A outer s H vs Q E hcd hr h => ?_)
  · obtain ⟨n, whole, ra, xs, rws, rfl, _⟩ := h
    rfl
  obtain ⟨n, whole, ra, xs, rws, rfl, hs, hd, hn, hl, h60, q⟩ := h
  refine ⟨_, pss_cons (ps_set (i := 3) scMarks.nd rfl (.inl rfl) (pe_set1 pe_int hcd))
    (pss_cons (ps_for PassesOwn.never rfl (pi_list (pv 1)) (pg_tup rfl (pgs_cons (pg_name (i := 4) scMarks.nd rfl (.inl rfl)) (pgs_cons (pg_name (i := 5) scMarks.nd rfl (.inl rfl)) pgs_nil)))
      (pss_one (ps_for PassesOwn.never rfl (pi_range1 rfl mr (pa_cons (pe_op op_add (pv 0) pe_int) pa_nil)) (pg_name (i := 6) scMarks.nd rfl (.inl rfl))
        (pss_cons (ps_set (i := 7) scMarks.nd rfl (.inl rfl) (pe_op op_sub (pe_op op_mul (pe_glob (v := .int 2) (by rfl) gC ⟨_, rfl⟩) (pv 6)) (pv 4)))
        (pss_one (ps_if (pt_chain op_le op_lt pe_int (pv 7) (pv 5))
          (pss_one (ps_expr (pe_sadd (pv 3) (pa_cons (pe_op op_mul (pv 7) (pe_op op_fdiv (pv 2) (pv 5))) pa_nil))))
          pss_nil))))))
    (pss_one (ps_ret (pe_callB (cr_sortedSet (by rfl)) (by rfl) ms boot_sorted (pa_cons (pv 3) pa_nil))))), ?_⟩
  refine fun D hD => ⟨0, rfl, upd_same, ?_⟩
  rw [upd_upd]
  refine q_forL (ev_var rfl) (ex_l (Ex.new hD) hs) (fun i σ' H' => ∃ (y4 y5 y6 y7 : Option V) (S : Int → Bool) (m : Nat), σ' = [some (vi n), some (.ref ra), some (vi whole), some (.ref D), y4, y5, y6, y7] ∧ Ex H H' ∧ H' D = some (SetO w D S m) ∧ m ≤ 1 + (rawM n whole (rws.take i)).length ∧
      ∀ k : Int, S k = true ↔ k = 0 ∨ ∃ r ∈ rawM n whole (rws.take i), k = (r : Int))
    (fun H1 e1 => ⟨none, none, none, none, _, 1, rfl, (Ex.new hD).trans e1, e1 _ _ upd_same, by omega, fun k => by simp [rawM]⟩) (fun i σ' H' _ ⟨_, _, _, _, _, _, _, ex, _⟩ => ex_l ex hs) ?_ ?_
  · rintro i x σ' H1 hx ⟨y4, y5, y6, y7, S, m, rfl, ex, hS, hm, hmem⟩
    obtain ⟨d, hd1, hd2⟩ := dpa_get hd hx
    rw [List.getElem?_map] at hd1
    obtain ⟨r, hr1, rfl⟩ := Option.map_eq_some_iff.mp hd1
    obtain ⟨xa, rfl, hxa⟩ := td_get (dp_ex ex _ _ hd2)
    have hr := hl r (List.mem_of_getElem? hr1)
    have hlen := rawM_len (n := n) (whole := whole) hr1
    refine ⟨xa, _, rfl, hxa, rfl, vi r.1, _, rfl, vi r.2, _, rfl, rfl, ?_⟩
    refine s_forR1 (n := (n : Int) + 1) (ea_cons (ev_op (ev_var rfl) ev_c rv_I0) ea_nil) (by omega) (fun j σ' H' => ∃ (y6 y7 : Option V) (S : Int → Bool) (m : Nat), σ' = [some (vi n), some (.ref ra), some (vi whole), some (.ref D), some (vi r.1), some (vi r.2), y6, y7] ∧ Ex H H' ∧ H' D = some (SetO w D S m) ∧
        m ≤ 1 + (rawM n whole (rws.take i)).length + (rowPre whole r j).length ∧ ∀ k : Int, S k = true ↔ (k = 0 ∨ ∃ r ∈ rawM n whole (rws.take i), k = (r : Int)) ∨ ∃ c ∈ rowPre whole r j, k = (c : Int))
      (fun H2 e2 => ⟨y6, y7, S, m, rfl, ex.trans e2, e2 _ _ hS, by omega, fun k => by rw [hmem k]; simp [rowPre]⟩) ?_ ?_
    · rintro j σ' H2 hj ⟨y6, y7, S, m, rfl, ex, hS, hm, hmem⟩
      refine q_asg (v := .int (2 * (j : Int) - (r.1 : Int))) (ev_op (ev_op ev_c (ev_var rfl) (rv_I (.inl ⟨by decide, by decide⟩))) (ev_var rfl) rv_I0) fun H3 e3 => ?_
      refine s_when (et_chain ev_c (ev_var rfl) rv_I0 (fun _ => ev_var rfl) (fun _ => rv_I0)) (fun hb H4 e4 => ?_) (fun hb H4 e4 => ?_)
      · rw [Bool.and_eq_true, decide_eq_true_eq, decide_eq_true_eq] at hb
        have hin : inRow r.1 r.2 j = true := by
          unfold inRow
          rw [Bool.and_eq_true, decide_eq_true_eq, decide_eq_true_eq]
          omega
        have hlj := rowPre_len (whole := whole) (q := r) (j + 1) (n + 1 - (j + 1))
        rw [show j + 1 + (n + 1 - (j + 1)) = n + 1 by omega, rowPre_yes hin, List.length_append, List.length_cons, List.length_nil] at hlj
        have hS4 := (e3.trans e4) _ _ hS
        refine ⟨.ref D, rfl, ⟨D, S, m, rfl, hS4⟩, .int (2 * (j : Int) - (r.1 : Int)), rfl, vi whole, rfl, vi r.2, rfl, _, _, rfl, rfl, ⟨by omega, by omega⟩, _, _, rfl, rfl, .inl ⟨by omega, by omega⟩, D, _, S, m, rfl, rfl, hS4, by have : scanBound = 4096 := rfl; omega, ?_⟩
        refine ⟨_, _, _, _, rfl, Ex.mut (ex.trans (e3.trans e4)) hD, upd_same, ?_, fun k => ?_⟩
        · rw [rowPre_yes hin, List.length_append, List.length_cons, List.length_nil]
          split <;> omega
        · have ek : (2 * (j : Int) - (r.1 : Int)) * ((whole : Int) / (r.2 : Int)) = (((2 * j - r.1) * (whole / r.2) : Nat) : Int) := by
            rw [Int.natCast_mul, Int.natCast_ediv, Int.natCast_sub (by omega)]
            rfl
          rw [Bool.or_eq_true, decide_eq_true_eq, hmem k, rowPre_yes hin, ek]
          constructor
          · rintro ((z | z) | rfl)
            · exact .inl z
            · obtain ⟨c, hc, e⟩ := z
              exact .inr ⟨c, List.mem_append_left _ hc, e⟩
            · exact .inr ⟨_, List.mem_append_right _ (List.mem_singleton.mpr rfl), rfl⟩
          · rintro (z | ⟨c, hc, rfl⟩)
            · exact .inl (.inl z)
            · rcases List.mem_append.mp hc with hc | hc
              · exact .inl (.inr ⟨c, hc, rfl⟩)
              · rw [List.mem_singleton.mp hc]
                exact .inr rfl
      · have hin : inRow r.1 r.2 j = false := by
          unfold inRow
          rw [Bool.and_eq_false_iff, decide_eq_false_iff_not, decide_eq_false_iff_not] at hb ⊢
          omega
        refine ⟨_, _, S, m, rfl, ex.trans (e3.trans e4), (e3.trans e4) _ _ hS, ?_, ?_⟩
        · rw [rowPre_no hin]; exact hm
        · rw [rowPre_no hin]; exact hmem
    · rintro σ' H2 ⟨y6, y7, S, m, rfl, ex, hS, hm, hmem⟩
      rw [show ((n : Int) + 1).toNat = n + 1 by omega] at hm hmem
      refine ⟨_, _, _, _, S, m, rfl, ex, hS, ?_, fun k => ?_⟩
      · rw [rawM_take hr1, List.length_append]
        omega
      · rw [hmem k, rawM_take hr1]
        constructor
        · rintro ((z | ⟨c, hc, z⟩) | ⟨c, hc, z⟩)
          · exact .inl z
          · exact .inr ⟨c, List.mem_append_left _ hc, z⟩
          · exact .inr ⟨c, List.mem_append_right _ hc, z⟩
        · rintro (z | ⟨c, hc, z⟩)
          · exact .inl (.inl z)
          · rcases List.mem_append.mp hc with hc | hc
            · exact .inl (.inr ⟨c, hc, z⟩)
            · exact .inr ⟨c, hc, z⟩
  · rintro σ' H1 ⟨y4, y5, y6, y7, S, m, rfl, ex, hS, hm, hmem⟩
    rw [dpa_len hd, List.length_map, List.take_length] at hm hmem
    refine ⟨.ref D, rfl, D, S, m, rfl, hS, by omega, fun ns p hs' hk hnl hp => ?_⟩
    have en : ns = (marksM n whole rws).map (fun k : Nat => (k : Int)) := by
      refine ints_of_rising hs' (sortU_up _) fun i => ?_
      rw [hk i, hmem i]
      constructor
      · rintro (rfl | ⟨c, hc, rfl⟩)
        · exact ⟨0, (sortU_mem _ _).mpr (List.mem_cons_self), rfl⟩
        · exact ⟨c, (sortU_mem _ _).mpr (List.mem_cons_of_mem _ hc), rfl⟩
      · rintro ⟨c, hc, rfl⟩
        rcases List.mem_cons.mp ((sortU_mem _ _).mp hc) with rfl | hc
        · exact .inl rfl
        · exact .inr ⟨c, hc, rfl⟩
    refine q p _ (fresh_back ex hp) (ex.trans (Ex.new hp)) ?_
    rw [upd_same, en, List.map_map]
    rfl
end
end Nr
namespace Nr
open PySem PySem.Spec PyProof.Rows L2 Evl

def wholeM (n g h : Nat) : Nat := lcmL ((turnsM n g h).map (·.2))
def topsM (n g h : Nat) : List Nat := marksM n (wholeM n g h) (turnsM n g h)
def strD (n g h e w : Nat) (q : Nat × Nat) : PyData := .tuple [lowD q.1 w, lowD q.2 w, .tuple ((pricksM n g h e q.1 w).map di)]
def pairsM (n g h : Nat) : List (Nat × Nat) := (topsM n g h).zip ((topsM n g h).drop 1 ++ [wholeM n g h])
def strM (n g h e : Nat) : List PyData := (pairsM n g h).map (strD n g h e (wholeM n g h))
def okAt (n g h : Nat) : Bool := decide (wholeM n g h < 1000000) && decide ((rawM n (wholeM n g h) (turnsM n g h)).length ≤ 60)
def okAll : Bool := (List.range 25).all fun n => (List.range 17).all fun g => (List.range 9).all fun h => decide (g < 4) || okAt n g h
theorem okAll_true : okAll = true := by decide +kernel
theorem ok_at6 {n g h : Nat} (hn : n ≤ 24) (hg : 4 ≤ g) (hg2 : g ≤ 16) (hh : h ≤ 8) : wholeM n g h < 1000000 ∧ (rawM n (wholeM n g h) (turnsM n g h)).length ≤ 60 := by
  have a := List.all_eq_true.mp okAll_true n (List.mem_range.mpr (by omega))
  have b := List.all_eq_true.mp a g (List.mem_range.mpr (by omega))
  have c := List.all_eq_true.mp b h (List.mem_range.mpr (by omega))
  rw [Bool.or_eq_true, decide_eq_true_eq] at c
  rcases c with c | c
  · omega
  · unfold okAt at c
    rw [Bool.and_eq_true, decide_eq_true_eq, decide_eq_true_eq] at c
    exact c
theorem ok_at {n g h : Nat} (hn : n ≤ 24) (hg : 4 ≤ g) (hg2 : g ≤ 16) (hh : h ≤ 8) : wholeM n g h < 1073741824 ∧ (rawM n (wholeM n g h) (turnsM n g h)).length ≤ 60 := by
  have := ok_at6 hn hg hg2 hh
  exact ⟨by omega, this.2⟩
end Nr
namespace Nr
open PySem PySem.Spec PyProof.Rows L2 Evl
theorem cut_1 (xs : List V) : cutV xs (some 1) none = xs.drop 1 := by
  unfold cutV
  rw [show HT.sIx xs.length 0 (some 1) = min 1 xs.length from HT.sIx_nat xs.length 0 1, HT.sIx_none]
  cases xs with
  | nil => rfl
  | cons x r =>
    have e : min 1 (x :: r).length = 1 := by rw [List.length_cons]; omega
    rw [e]
    show List.take ((x :: r).length - 1) r = r
    rw [List.length_cons, Nat.add_sub_cancel]
    exact List.take_length
theorem noL_low (a b : Nat) : noL (lowD a b) = true := by simp [lowD, noL, noLs]
theorem noLs_dis (l : List Nat) : noLs (l.map di) = true := noLs_map (fun _ => by simp [noL]) l
theorem noL_str (n g h e w : Nat) (q : Nat × Nat) : noL (strD n g h e w q) = true := by
  unfold strD
  rw [noL, noLs, noLs, noLs, noLs, noL_low, noL_low, noL, noLs_dis]
  rfl
theorem dis_vis {K : PySem.W.Frag} {H : Hp} (l : List Nat) : DpAll K H (l.map vi) (l.map di) := by
  have k := dpa_ints_of (K := K) (H := H) (l.map fun k : Nat => (k : Int))
  rw [List.map_map, List.map_map] at k
  exact k
theorem zip_tops (l : List Nat) (w : Nat) (hl : 0 < l.length) : (l.drop 1 ++ [w]).length = l.length := by
  rw [List.length_append, List.length_drop, List.length_cons, List.length_nil]
  omega
theorem sortU_pos (l : List Nat) (h : l ≠ []) : 0 < (sortU l).length := by
  cases l with
  | nil => exact absurd rfl h
  | cons x r => exact List.length_pos_of_mem ((sortU_mem _ x).mpr List.mem_cons_self)
theorem wholeM_pos {n g h : Nat} (hg : 0 < g) : 0 < wholeM n g h := by
  refine lcm_pos _ 1 (by decide) fun x hx => ?_
  obtain ⟨q, hq, rfl⟩ := List.mem_map.mp hx
  have := turnsF_mem _ _ _ _ _ q hq
  omega
theorem insU_len (x : Nat) : ∀ l : List Nat, (insU x l).length ≤ l.length + 1
  | [] => Nat.le_refl _
  | y :: l => by
    rw [insU]
    split
    · exact Nat.le_refl _
    · split
      · exact Nat.le_succ _
      · have := insU_len x l
        rw [List.length_cons, List.length_cons]
        omega
theorem sortU_len : ∀ l : List Nat, (sortU l).length ≤ l.length
  | [] => Nat.le_refl _
  | x :: l => by
    have a := insU_len x (sortU l)
    have b := sortU_len l
    show (insU x (sortU l)).length ≤ l.length + 1
    omega
section
variable {P : Program} {w : World} {K : PySem.W.Frag} {mg : Str → Option Value} {base : Heap}
abbrev sStretches : Stmt := topS 14
abbrev nStretches : List Str := ["many", "winding", "rows", "whole", "tops", "told", "top", "after", "cells", "begin", "length"]
theorem scStretches : FnScope nStretches ["many", "winding"] (defScope sStretches) := ⟨rfl, rfl, rfl, by decide +kernel, rfl, by decide +kernel, by decide +kernel⟩
def spStretches (K : PySem.W.Frag) : Sp := fun vs H Q _ => ∃ (n g h e : Nat) (v : V), vs = [.int n, v] ∧ Dp K H v (wD g h e) ∧ n ≤ 24 ∧ 4 ≤ g ∧ g ≤ 16 ∧ h ≤ 8 ∧ RetFL K (strM n g h e) H Q
theorem ok_stretches {f : Addr} {fd : FuncData} (F : Fun K "stretches" "stretches" sStretches f fd) (mz : mg "zip" = none) (mt : mg "tuple" = none)
    {ft : Addr} {fdt : FuncData} (G : Can P w K mg base "turns" 1 ft fdt ["many", "winding"] (spTurns K)) {fl : Addr} {fdl : FuncData} (L : Can P w K mg base "common_multiple" 2 fl fdl ["numbers"] (spLcm K))
    {fm : Addr} {fdm : FuncData} (M : Can P w K mg base "marks" 1 fm fdm ["many", "rows", "whole"] (spMarks K)) {fp : Addr} {fdp : FuncData} (C : Can P w K mg base "pricked" 2 fp fdp ["many", "winding", "angle"] (spPricked K))
    {fo : Addr} {fdo : FuncData} (O : Can P w K mg base "lowest" 2 fo fdo ["top", "bottom"] (spLowest K)) :
    FnOk P w K mg base CX0 3 f fd ["many", "winding"] (spStretches K) := by
  refine F.ok scStretches (fun vs H Q E h => ?_) (fun cdv A outer s H vs Q E hr h => ?_)
  · obtain ⟨n, g, h, e, v, rfl, _⟩ := h
    rfl
  obtain ⟨n, g, h, e, v, rfl, hw, hn, hg, hg2, hh, q⟩ := h
  obtain ⟨hwh, hraw⟩ := ok_at hn hg hg2 hh
  have hwp : 0 < wholeM n g h := wholeM_pos (by omega)
  have hlt : (topsM n g h).length ≤ 61 := by
    have := sortU_len (0 :: rawM n (wholeM n g h) (turnsM n g h))
    rw [List.length_cons] at this
    unfold topsM marksM
    omega
  have hlp : 0 < (topsM n g h).length := sortU_pos _ (by simp)
  refine ⟨_, pss_cons (ps_set (i := 2) scStretches.nd rfl (.inl rfl) (pcall G hr (pa_cons (pv 0) (pa_cons (pv 1) pa_nil))))
    (pss_cons (ps_set (i := 3) scStretches.nd rfl (.inl rfl) (pcall L hr (pa_cons (pe_lc (own := [("begin", 9), ("length", 10)]) (g := gTup K 2 (gCons (gName 9) (gCons (gName 10) gNil))) (tt := tYes) (by rfl) scStretches.nd (pi_list (pv 2))
      (blkOk_by (N := nStretches) (sc := defScope sStretches) (by decide +kernel))
      (fun _ _ _ _ _ => pg_tup rfl (pgs_cons (pg_name (i := 9) scStretches.nd rfl (.inl rfl)) (pgs_cons (pg_name (i := 10) scStretches.nd rfl (.inl rfl)) pgs_nil))) (fun _ _ _ _ _ => pts_nil) (fun _ _ _ _ _ => pv 10)) pa_nil)))
    (pss_cons (ps_set (i := 4) scStretches.nd rfl (.inl rfl) (pcall M hr (pa_cons (pv 0) (pa_cons (pv 2) (pa_cons (pv 3) pa_nil)))))
    (pss_cons (ps_set (i := 5) scStretches.nd rfl (.inl rfl) (pe_lst pa_nil))
    (pss_cons (ps_for PassesOwn.never rfl (pi_zip (by rfl) mz (pa_cons (pv 4) (pa_cons (pe_op op_cat (pe_slice sl_list (pv 4) (po_some pe_int) po_none) (pe_lst (pa_cons (pv 3) pa_nil))) pa_nil)))
        (pg_tup rfl (pgs_cons (pg_name (i := 6) scStretches.nd rfl (.inl rfl)) (pgs_cons (pg_name (i := 7) scStretches.nd rfl (.inl rfl)) pgs_nil)))
      (pss_cons (ps_set (i := 8) scStretches.nd rfl (.inl rfl) (pe_callTy call_tuple_of (by rfl) mt PyProof.Rows.boot_tuple (pa_cons (pcall C hr (pa_cons (pv 0) (pa_cons (pv 1) (pa_cons (pe_tup (pa_cons (pv 6) (pa_cons (pv 3) pa_nil))) pa_nil)))) pa_nil)))
      (pss_one (ps_expr (pe_bm PySem.F.plainAttrs_list PySem.F.slot_list_append PySem.F.type_list_append mt_append (pv 5) (pa_cons (pe_tup (pa_cons (pcall O hr (pa_cons (pv 6) (pa_cons (pv 3) pa_nil)))
        (pa_cons (pcall O hr (pa_cons (pv 7) (pa_cons (pv 3) pa_nil))) (pa_cons (pv 8) pa_nil)))) pa_nil))))))
    (pss_one (ps_ret (pv 5))))))), ?_⟩
  -- rows
  refine ⟨vi n, rfl, v, rfl, n, g, h, e, v, rfl, hw, by omega, by omega, fun rp rx H1 hrp e1 hrx hrd => ?_⟩
  have hlen : rx.length = (turnsM n g h).length := by rw [dpa_len hrd, List.length_map]
  have hlen2 : rx.length ≤ 2 * n := by rw [hlen]; exact turnsF_len _ _ _ _ _
  -- whole
  refine ⟨.ref rp, rfl, rp, rfl, ⟨rx, sq_of hrx⟩, fun Dl hDl => ?_⟩
  refine lc_list (xs := rx) (fun i H' => Ex H1 H' ∧ H' Dl = some (.lst ((((turnsM n g h).take i).map (·.2)).map vi))) ⟨Ex.new hDl, upd_same⟩ (fun i H' _ p' => sq_of (p'.1 _ _ hrx)) (fun i x H' hx p' => ?_) fun H2 p' => ?_
  · obtain ⟨e2, hl⟩ := p'
    obtain ⟨d, hd1, hd2⟩ := dpa_get hrd hx
    rw [List.getElem?_map] at hd1
    obtain ⟨r, hr1, rfl⟩ := Option.map_eq_some_iff.mp hd1
    obtain ⟨ra, rfl, hra⟩ := td_get (dp_ex e2 _ _ hd2)
    refine ⟨ra, _, rfl, hra, rfl, vi r.1, _, rfl, vi r.2, _, rfl, rfl, rfl, ?_⟩
    refine ⟨vi r.2, rfl, _, hl, ?_, Ex.mut e2 hDl, ?_⟩
    · rw [List.length_map, List.length_map, List.length_take]
      exact small1000 (by omega)
    · rw [upd_same, List.take_add_one, hr1]
      simp only [List.map_append, Option.toList, List.map_cons, List.map_nil]
  obtain ⟨e2, hl⟩ := p'
  rw [hlen, List.take_length] at hl
  refine ⟨Dl, _, rfl, sq_of hl, fun x hx => ?_, fun H3 e3 => ?_⟩
  · obtain ⟨r, hr1, rfl⟩ := List.mem_map.mp hx
    have := turnsF_mem _ _ _ _ _ r hr1
    have hm2 : 2 * n * h ≤ 48 * 8 := Nat.mul_le_mul (by omega) hh
    omega
  have e13 : Ex H1 H3 := e2.trans e3
  -- tops
  refine ⟨vi n, rfl, .ref rp, rfl, vi (wholeM n g h), rfl, n, wholeM n g h, rp, rx, turnsM n g h, rfl, sq_of (e13 _ _ hrx), dpa_ex e13 _ _ hrd, by omega, fun x hx => ?_, hraw, fun tp H4 htp e4 htx => ?_⟩
  · have := turnsF_mem _ _ _ _ _ x hx
    have hm2 : 2 * n * h ≤ 48 * 8 := Nat.mul_le_mul (by omega) hh
    omega
  have htx : H4 tp = some (.lst ((topsM n g h).map vi)) := htx
  have e04 : Ex H H4 := (e1.trans e13).trans e4
  -- told
  refine ⟨Nat.zero_le _, fun to hto => ?_⟩
  have n1 : tp ≠ to := ne_of_none htx hto
  refine ⟨.ref tp, rfl, .ref tp, rfl, 1, rfl, tp, _, rfl, sq_of (by rw [upd_ne n1]; exact htx), fun c1 hc1 => ?_⟩
  refine ⟨vi (wholeM n g h), rfl, by show 1 ≤ sizeLine; decide, fun c2 hc2 => ?_⟩
  have n2 : c1 ≠ c2 := ne_of_none upd_same hc2
  have n3 : to ≠ c1 := ne_of_none upd_same hc1
  refine ⟨c1, c2, _, _, rfl, rfl, by rw [upd_ne n2, upd_same], upd_same, ?_, fun c3 hc3 => ?_⟩
  · rw [cut_1, List.length_drop, List.length_map, List.length_cons, List.length_nil]
    exact Nat.le_of_lt (small1000 (by omega))
  have x5 : Ex H4 (upd H4 to (.lst [])) := Ex.new hto
  have x6 : Ex (upd H4 to (.lst [])) _ := Ex.new (o := .lst (cutV ((topsM n g h).map vi) (some 1) none)) hc1
  have x7 := Ex.new (o := .lst [vi (wholeM n g h)]) hc2
  have x8 := Ex.new (o := .lst (cutV ((topsM n g h).map vi) (some 1) none ++ [vi (wholeM n g h)])) hc3
  have x58 := (x6.trans x7).trans x8
  have h8to := x58 _ _ (upd_same (H := H4) (a := to) (o := .lst []))
  have h8tp := (x5.trans x58) _ _ htx
  have h8c3 := upd_same (H := upd (upd (upd H4 to (.lst [])) c1 (.lst (cutV ((topsM n g h).map vi) (some 1) none))) c2 (.lst [vi (wholeM n g h)])) (a := c3) (o := .lst (cutV ((topsM n g h).map vi) (some 1) none ++ [vi (wholeM n g h)]))
  have e08 := e04.trans (x5.trans x58)
  have n4 : to ≠ c3 := by
    have z := (x6.trans x7) _ _ (upd_same (H := H4) (a := to) (o := .lst []))
    exact ne_of_none z hc3
  have hto0 : H to = none := fresh_back e04 hto
  revert h8to h8tp h8c3 e08
  generalize upd (upd (upd (upd H4 to (.lst [])) c1 (.lst (cutV ((topsM n g h).map vi) (some 1) none))) c2 (.lst [vi (wholeM n g h)])) c3 (.lst (cutV ((topsM n g h).map vi) (some 1) none ++ [vi (wholeM n g h)])) = H8
  intro h8to h8tp h8c3 e08
  rw [cut_1, ← List.map_drop, show ([vi (wholeM n g h)] : List V) = [wholeM n g h].map vi from rfl, ← List.map_append] at h8c3
  have hpl : (pairsM n g h).length = (topsM n g h).length := by
    unfold pairsM
    rw [List.length_zip, zip_tops _ _ hlp, Nat.min_self]
  refine ⟨tp, c3, _, _, rfl, sq_of h8tp, sq_of h8c3, ?_⟩
  refine RZ.for_zipL (by rw [List.length_map, List.length_map, zip_tops _ _ hlp]) (fun i σ' H' => ∃ (y6 y7 y8 : Option V) (xs : List V), σ' = [some (vi n), some v, some (.ref rp), some (vi (wholeM n g h)), some (.ref tp), some (.ref to), y6, y7, y8, none, none] ∧
      Ex H H' ∧ H' tp = some (.lst ((topsM n g h).map vi)) ∧ H' c3 = some (.lst (((topsM n g h).drop 1 ++ [wholeM n g h]).map vi)) ∧ H' to = some (.lst xs) ∧ DpAll K H' xs ((strM n g h e).take i))
    ⟨none, none, none, [], rfl, e08, h8tp, h8c3, h8to, .nil⟩ (fun i σ' H' ⟨_, _, _, _, _, _, a, b, _⟩ => ⟨sq_of a, sq_of b⟩) ?_ ?_
  · rintro i x y T σ' H' hx hy ⟨y6, y7, y8, xs, rfl, ex, htp', hc3', hto', hd'⟩ hT
    rw [List.getElem?_map] at hx hy
    obtain ⟨t, ht, rfl⟩ := Option.map_eq_some_iff.mp hx
    obtain ⟨a, ha, rfl⟩ := Option.map_eq_some_iff.mp hy
    have hp : (pairsM n g h)[i]? = some (t, a) := by
      unfold pairsM
      rw [List.getElem?_zip_eq_some]
      exact ⟨ht, ha⟩
    have hst : (strM n g h e)[i]? = some (strD n g h e (wholeM n g h) (t, a)) := by
      unfold strM
      rw [List.getElem?_map, hp]
      rfl
    have hi : i < (topsM n g h).length := (List.getElem?_eq_some_iff.mp ht).1
    have xT : Ex H' (upd H' T (.tup [vi t, vi a])) := Ex.new hT
    refine ⟨T, _, rfl, st_of upd_same, rfl, vi t, _, rfl, vi a, _, rfl, rfl, ?_⟩
    generalize upd H' T (.tup [vi t, vi a]) = H9 at xT
    -- cells
    refine ⟨vi n, rfl, v, rfl, vi t, rfl, vi (wholeM n g h), rfl, by show 2 ≤ sizeLine; decide, fun A1 hA1 => ?_⟩
    have xA := Ex.new (o := .tup [vi t, vi (wholeM n g h)]) hA1
    refine ⟨n, g, h, e, t, wholeM n g h, v, .ref A1, rfl, dp_ex (ex.trans (xT.trans xA)) _ _ hw, .tup (st_of upd_same) (.cons (.int _) (.cons (.int _) .nil)), by omega, by omega, by omega, by omega, hwp, by omega, fun cp H10 hcp e10 hcx => ?_⟩
    refine ⟨cp, _, rfl, .inl ⟨sq_of hcx, fun ct hct => ?_⟩⟩
    have x11 : Ex H10 (upd H10 ct (.tup ((pricksM n g h e t (wholeM n g h)).map vi))) := Ex.new hct
    have hc11 := upd_same (H := H10) (a := ct) (o := .tup ((pricksM n g h e t (wholeM n g h)).map vi))
    have xx := (xT.trans xA).trans (e10.trans x11)
    generalize upd H10 ct (.tup ((pricksM n g h e t (wholeM n g h)).map vi)) = H11 at x11 hc11 xx
    -- told.append
    refine ⟨.ref to, rfl, .inl ⟨rfl, _, sq_of (xx _ _ hto')⟩, vi t, rfl, vi (wholeM n g h), rfl, t, wholeM n g h, rfl, hwp, hwh, fun v1 H12 e12 d1 => ?_⟩
    refine ⟨vi a, rfl, vi (wholeM n g h), rfl, a, wholeM n g h, rfl, hwp, hwh, fun v2 H13 e13 d2 => ?_⟩
    refine ⟨.ref ct, rfl, by show 3 ≤ sizeLine; decide, fun r hr' => ?_⟩
    have x14 := Ex.new (o := .tup [v1, v2, .ref ct]) hr'
    have h14r := upd_same (H := H13) (a := r) (o := .tup [v1, v2, .ref ct])
    have y14 := e12.trans (e13.trans x14)
    generalize upd H13 r (.tup [v1, v2, .ref ct]) = H14 at x14 h14r y14
    have z14 : Ex H' H14 := xx.trans y14
    refine ⟨to, xs, .ref r, rfl, rfl, z14 _ _ hto', ?_, some (vi t), some (vi a), some (.ref ct), xs ++ [.ref r], rfl, Ex.mut (ex.trans z14) hto0, ?_, ?_, upd_same, ?_⟩
    · have l1 := dpa_len hd'
      rw [List.length_take] at l1
      exact small1000 (by omega)
    · rw [upd_ne n1]
      exact z14 _ _ htp'
    · rw [upd_ne (Ne.symm n4)]
      exact z14 _ _ hc3'
    · rw [List.take_add_one, hst]
      refine dpa_mut (noT_lst (z14 _ _ hto')) _ _ ?_ (dpa_append (dpa_ex z14 _ _ hd') (.cons (.tup (st_of h14r) (.cons (dp_ex (e13.trans x14) _ _ d1) (.cons (dp_ex x14 _ _ d2) (.cons (.tup (st_of (y14 _ _ hc11)) (dis_vis _)) .nil)))) .nil))
      rw [noLs_append]
      have k1 : noLs ((strM n g h e).take i) = true := by
        unfold strM
        rw [← List.map_take]
        exact noLs_map (noL_str n g h e _) _
      rw [k1]
      show noLs [strD n g h e (wholeM n g h) (t, a)] = true
      rw [noLs, noLs, noL_str]
      rfl
  · rintro σ' H' ⟨y6, y7, y8, xs, rfl, ex, htp', hc3', hto', hd'⟩
    rw [List.length_map, List.take_of_length_le (by unfold strM; rw [List.length_map, hpl]; exact Nat.le_refl _)] at hd'
    exact ⟨.ref to, rfl, q to xs H' hto0 ex hto' hd'⟩
end
end Nr
namespace Nr
open PySem PySem.Spec PyProof.Rows L2 Evl

/-! the bag: a list of two ints that is drawn from -/
def Bx (p : Addr) (H H' : Hp) : Prop := ∀ a o, a ≠ p → H a = some o → H' a = some o
theorem Bx.refl (p : Addr) (H : Hp) : Bx p H H := fun _ _ _ h => h
theorem Bx.trans {p : Addr} {H H1 H2 : Hp} (a : Bx p H H1) (b : Bx p H1 H2) : Bx p H H2 := fun x o n h => b x o n (a x o n h)
theorem Bx.of {p : Addr} {H H1 : Hp} (a : Ex H H1) : Bx p H H1 := fun x o _ h => a x o h
theorem Bx.upd {p : Addr} {H H1 : Hp} {o : HO} (a : Bx p H H1) : Bx p H (upd H1 p o) := fun x u n h => by
  rw [upd_ne n]
  exact a x u n h
theorem Bx.ex {p : Addr} {H0 H H1 : Hp} (n : H0 p = none) (e : Ex H0 H) (a : Bx p H H1) : Ex H0 H1 := fun x u h => a x u (ne_of_none h n) (e x u h)
def Bag (H : Hp) (p : Addr) : Prop := ∃ c s : Nat, H p = some (.lst [vi c, vi s])
theorem Bag.noT {H : Hp} {p : Addr} (b : Bag H p) : NoT H p := by
  obtain ⟨c, s, h⟩ := b
  exact noT_lst h
theorem Bag.ex {H H' : Hp} {p : Addr} (b : Bag H p) (e : Ex H H') : Bag H' p := by
  obtain ⟨c, s, h⟩ := b
  exact ⟨c, s, e _ _ h⟩
section
variable {K : PySem.W.Frag} {H H' : Hp} {p : Addr}
theorem sqt_bx {a : Addr} {xs : List V} (n : NoT H p) (b : Bx p H H') (h : SqT K H a xs) : SqT K H' a xs := by
  rcases h with h | h
  · have hne : a ≠ p := fun z => n xs (z ▸ h)
    refine .inl ?_
    rcases h with h | ⟨u, h⟩
    · exact .inl (b _ _ hne h)
    · exact .inr ⟨u, b _ _ hne h⟩
  · exact .inr h
mutual
theorem dp_bx (n : NoT H p) (b : Bx p H H') : ∀ (d : PyData) (v : V), noL d = true → Dp K H v d → Dp K H' v d
  | .none, _, _, h => by cases h; exact .non
  | .bool b, _, _, h => by cases h; exact .bl b
  | .int i, _, _, h => by cases h; exact .int i
  | .str x, _, _, h => by cases h; exact .str x
  | .list ds, _, z, h => by rw [noL] at z; cases z
  | .tuple ds, _, z, h => by
    rw [noL] at z
    cases h with
    | tup hs ha => exact .tup (sqt_bx n b hs) (dpa_bx n b ds _ z ha)
  | .dict _, _, _, h => by cases h
theorem dpa_bx (n : NoT H p) (b : Bx p H H') : ∀ (ds : List PyData) (vs : List V), noLs ds = true → DpAll K H vs ds → DpAll K H' vs ds
  | [], _, _, h => by cases h; exact .nil
  | d :: ds, _, z, h => by
    rw [noLs, Bool.and_eq_true] at z
    cases h with
    | cons h1 h2 => exact .cons (dp_bx n b d _ z.1 h1) (dpa_bx n b ds _ z.2 h2)
end
end
/-- what is drawn: the bag is changed, all else stands -/
def RetB (p : Addr) (C : V → Hp → Prop) (H : Hp) (Q : VK) : Prop := ∀ v H2, Bx p H H2 → Bag H2 p → C v H2 → Q v H2

section
variable {P : Program} {w : World} {K : PySem.W.Frag} {mg : Str → Option Value} {base : Heap}
/-! _law_bag -/
abbrev sBag : Stmt := topS 16
theorem scBag : FnScope ["script", "k", "cell", "seed"] ["script", "k"] (defScope sBag) := ⟨rfl, rfl, rfl, by decide +kernel, rfl, by decide +kernel, by decide +kernel⟩
def spBag (K : PySem.W.Frag) : Sp := fun vs H Q _ => ∃ (a : Addr) (ns : List Int) (k : Nat), vs = [.ref a, .int k] ∧ SqL K H a (ns.map V.int) ∧ k < 1000 ∧ ∀ p H2, H p = none → Ex H H2 → Bag H2 p → Q (.ref p) H2
theorem ok_bag {f : Addr} {fd : FuncData} {k : Nat} (F : Fun K "_law_bag" "_law_bag" sBag f fd) (ml : mg "len" = none) : FnOk P w K mg base CX0 (k + 1) f fd ["script", "k"] (spBag K) := by
  refine F.ok scBag (fun vs H Q E h => ?_) (fun cdv A outer s H vs Q E hr h => ?_)
  · obtain ⟨a, ns, k, rfl, _⟩ := h
    rfl
  obtain ⟨a, ns, k, rfl, hs, hk, q⟩ := h
  refine ⟨_, pss_cons (ps_set (i := 2) scBag.nd rfl (.inl rfl) pe_int)
    (pss_cut (ps_if (pt_cmpR op_lt (pv 1) (pe_callB call_len_seq (by rfl) ml PySem.boot_len (pa_cons (pv 0) pa_nil)) (nomark _))
      (pss_one (ps_set (i := 2) scBag.nd rfl (.inl rfl) (pe_op op_mod (pe_ix ix_list (pv 0) (pv 1) (fun _ _ => rfl)) (pe_op op_pow pe_int pe_int)))) pss_nil)
    (pss_cons (ps_set (i := 3) scBag.nd rfl (.inl rfl) (pe_op op_add pe_int (pe_op op_mod (pe_op op_add (pe_op op_add (pe_op op_add (pe_op op_mul (pe_op op_mod (pv 2) pe_int) pe_int) (pe_op op_mul (pe_op op_mul pe_int (pv 1)) (pv 1))) (pe_op op_mul pe_int (pv 1))) pe_int) pe_int)))
    (pss_cons (ps_if (pt_cmpR op_lt (pv 2) (pe_op op_pow pe_int pe_int) (nomark _)) (pss_one (ps_ret (pe_lst (pa_cons pe_int (pa_cons (pv 3) pa_nil))))) pss_nil)
    (pss_one (ps_ret (pe_lst (pa_cons (pv 2) (pa_cons (pv 3) pa_nil)))))))), ?_⟩
  refine q_asg ev_c fun H1 e1 => ?_
  have hs1 := ex_l e1 hs
  refine ⟨fun σ' H' => Ex H H' ∧ ∃ c : Nat, σ' = [some (.ref a), some (vi k), some (vi c), none], ?_, ?_⟩
  · refine ⟨vi k, rfl, .ref a, rfl, a, _, rfl, .inl hs1, _, _, rfl, rfl, _, rfl, ite2 (fun hlt => ?_) (fun hlt => ?_)⟩
    · have hlt := of_decide_eq_true hlt
      rw [List.length_map] at hlt
      have hk2 : k < ns.length := by omega
      have hx : (ns.map V.int)[k]? = some (.int ns[k]) := by rw [List.getElem?_map, List.getElem?_eq_getElem hk2]; rfl
      refine ⟨.ref a, rfl, vi k, rfl, a, _, _, _, rfl, rfl, hs1, atI_nat hx, _, _, rfl, rfl, ⟨by decide, by decide, by decide⟩, _, _, rfl, rfl, (by show (0 : Int) < 10 ^ (60 : Int).toNat; decide), e1, (ns[k] % (10 : Int) ^ (60 : Int).toNat).toNat, ?_⟩
      have e : (((ns[k] % (10 : Int) ^ (60 : Int).toNat).toNat : Nat) : Int) = ns[k] % (10 : Int) ^ (60 : Int).toNat := Int.toNat_of_nonneg (Int.emod_nonneg _ (by decide))
      show _ = [some (.ref a), some (vi k), some (V.int _), none]
      rw [e]
      rfl
    · exact ⟨e1, 0, rfl⟩
  · rintro σ' H2 ⟨e2, c, rfl⟩
    refine ⟨vi c, rfl, _, _, rfl, rfl, (by show (0 : Int) < 2147483629; decide), _, _, rfl, rfl, .inr ⟨by decide, by decide⟩, vi k, rfl, _, _, rfl, rfl, .inl ⟨by decide, by decide⟩, vi k, rfl, _, _, rfl, rfl, .inr ⟨by omega, by omega⟩, _, _, rfl, rfl, vi k, rfl, _, _, rfl, rfl, .inl ⟨by decide, by decide⟩, _, _, rfl, rfl, _, _, rfl, rfl, _, _, rfl, rfl, (by show (0 : Int) < 2147483645; decide), _, _, rfl, rfl, ?_⟩
    dsimp only
    have hz : ∃ z : Nat, (z : Int) = 1 + ((c : Int) % 2147483629 * 16807 + 40009 * (k : Int) * (k : Int) + 7919 * (k : Int) + 1009) % 2147483645 :=
      ⟨(1 + ((c : Int) % 2147483629 * 16807 + 40009 * (k : Int) * (k : Int) + 7919 * (k : Int) + 1009) % 2147483645).toNat, Int.toNat_of_nonneg (by
        have := Int.emod_nonneg ((c : Int) % 2147483629 * 16807 + 40009 * (k : Int) * (k : Int) + 7919 * (k : Int) + 1009) (b := 2147483645) (by decide)
        omega)⟩
    obtain ⟨z, hz⟩ := hz
    rw [← hz]
    refine q_when (et_test (ev_op (ev_var rfl) (ev_op ev_c ev_c (rv_I ⟨by decide, by decide, by decide⟩)) rv_I0)) (fun hb H3 e3 => ?_) (fun hb H3 e3 => ?_)
    · refine ⟨vi z, rfl, by show 2 ≤ sizeLine; decide, fun p hp => q p _ (fresh_back (e2.trans e3) hp) ((e2.trans e3).trans (Ex.new hp)) ⟨0, z, upd_same⟩⟩
    · refine ⟨vi c, rfl, vi z, rfl, by show 2 ≤ sizeLine; decide, fun p hp => q p _ (fresh_back (e2.trans e3) hp) ((e2.trans e3).trans (Ex.new hp)) ⟨c, z, upd_same⟩⟩

/-! _law_take -/
abbrev sTake : Stmt := topS 17
theorem scTake : FnScope ["bag", "count", "found"] ["bag", "count"] (defScope sTake) := ⟨rfl, rfl, rfl, by decide +kernel, rfl, by decide +kernel, by decide +kernel⟩
def spTake : Sp := fun vs H Q _ => ∃ (p : Addr) (n : Nat), vs = [.ref p, .int n] ∧ Bag H p ∧ 0 < n ∧ n < 100000 ∧ RetB p (fun v _ => ∃ r : Nat, v = vi r ∧ r < n) H Q
theorem ok_take {f : Addr} {fd : FuncData} {k : Nat} (F : Fun K "_law_take" "_law_take" sTake f fd) : FnOk P w K mg base CX0 (k + 1) f fd ["bag", "count"] spTake := by
  refine F.ok scTake (fun vs H Q E h => ?_) (fun cdv A outer s H vs Q E hr h => ?_)
  · obtain ⟨p, n, rfl, _⟩ := h
    rfl
  obtain ⟨p, n, rfl, ⟨c, z, hp⟩, hn, hn2, q⟩ := h
  have hq : SqL K H p [vi c, vi z] := sq_of hp
  refine ⟨_, pss_cons (ps_if (pt_cmpR op_gt (pe_ix ix_list (pv 0) pe_int (fun _ _ => rfl)) pe_int (nomark _))
      (pss_cons (ps_set (i := 2) scTake.nd rfl (.inl rfl) (pe_op op_mod (pe_ix ix_list (pv 0) pe_int (fun _ _ => rfl)) (pv 1)))
      (pss_cons (ps_asg (pe_op op_fdiv (pe_ix ix_list (pv 0) pe_int (fun _ _ => rfl)) (pv 1)) (pg_sub (pv 0) pe_int set_list))
      (pss_one (ps_ret (pv 2))))) pss_nil)
    (pss_cons (ps_asg (pe_op op_mod (pe_op op_mul (pe_ix ix_list (pv 0) pe_int (fun _ _ => rfl)) pe_int) pe_int) (pg_sub (pv 0) pe_int set_list))
    (pss_one (ps_ret (pe_op op_mod (pe_op op_fdiv (pe_op op_mod (pe_op op_mul (pe_op op_fdiv (pe_ix ix_list (pv 0) pe_int (fun _ _ => rfl)) pe_int) (pe_op op_add (pe_op op_mod (pe_ix ix_list (pv 0) pe_int (fun _ _ => rfl)) pe_int) pe_int)) pe_int) pe_int) (pv 1))))), ?_⟩
  refine ⟨.ref p, rfl, p, _, _, vi c, rfl, rfl, hq, atI_nat (j := 0) rfl, _, _, rfl, rfl, _, rfl, ite2 (fun hlt => ?_) (fun hlt => ?_)⟩
  · refine ⟨.ref p, rfl, p, _, _, vi c, rfl, rfl, hq, atI_nat (j := 0) rfl, vi n, rfl, _, _, rfl, rfl, by show (0 : Int) < (n : Int); omega, ?_⟩
    refine ⟨.ref p, rfl, p, _, _, vi c, rfl, rfl, hq, atI_nat (j := 0) rfl, vi n, rfl, _, _, rfl, rfl, ⟨by omega, by omega⟩, .ref p, rfl, p, _, _, 0, rfl, rfl, hp, rfl, ?_⟩
    refine ⟨_, rfl, q _ _ (Bx.refl p H).upd ⟨c / n, z, ?_⟩ ⟨c % n, rfl, Nat.mod_lt _ hn⟩⟩
    rw [upd_same]
    rfl
  · obtain ⟨y, hy⟩ : ∃ y : Nat, (y : Int) = (z : Int) * 48271 % 2147483647 := ⟨z * 48271 % 2147483647, by omega⟩
    refine ⟨.ref p, rfl, p, _, _, vi z, rfl, rfl, hq, atI_nat (j := 1) rfl, _, _, rfl, rfl, .inr ⟨by decide, by decide⟩, _, _, rfl, rfl, by show (0 : Int) < 2147483647; decide, .ref p, rfl, p, _, _, 1, rfl, rfl, hp, rfl, ?_⟩
    dsimp only
    rw [← hy]
    have hp2 : (upd H p (.lst ([vi c, vi z].set 1 (V.int (y : Int))))) p = some (.lst [vi c, vi y]) := upd_same
    have hq2 : SqL K (upd H p (.lst ([vi c, vi z].set 1 (V.int (y : Int))))) p [vi c, vi y] := sq_of hp2
    have bx : Bx p H (upd H p (.lst ([vi c, vi z].set 1 (V.int (y : Int))))) := (Bx.refl p H).upd
    generalize upd H p (.lst ([vi c, vi z].set 1 (V.int (y : Int)))) = H2 at hp2 hq2 bx
    refine ⟨.ref p, rfl, p, _, _, vi y, rfl, rfl, hq2, atI_nat (j := 1) rfl, _, _, rfl, rfl, ⟨by decide, by decide⟩, .ref p, rfl, p, _, _, vi y, rfl, rfl, hq2, atI_nat (j := 1) rfl, _, _, rfl, rfl, by show (0 : Int) < 32749; decide, _, _, rfl, rfl, ?_⟩
    refine ⟨_, _, rfl, rfl, .inr ⟨by omega, by omega⟩, _, _, rfl, rfl, by show (0 : Int) < 2147483629; decide, _, _, rfl, rfl, ⟨by decide, by decide⟩, vi n, rfl, _, _, rfl, rfl, by show (0 : Int) < (n : Int); omega, ?_⟩
    refine q _ _ bx ⟨c, y, hp2⟩ ⟨(y / 13 * (y % 32749 + 17) % 2147483629 / 32) % n, ?_, Nat.mod_lt _ hn⟩
    show V.int _ = V.int _
    rfl
end
end Nr
namespace Nr
open PySem PySem.Spec PyProof.Rows L2 Evl

section
variable {P : Program} {w : World} {K : PySem.W.Frag} {mg : Str → Option Value} {base : Heap}
/-! _law_of -/
abbrev sOf : Stmt := topS 18
theorem scOf : FnScope ["bag", "some"] ["bag", "some"] (defScope sOf) := ⟨rfl, rfl, rfl, by decide +kernel, rfl, by decide +kernel, by decide +kernel⟩
def spOf (K : PySem.W.Frag) : Sp := fun vs H Q _ => ∃ (p l : Addr) (xs : List V), vs = [.ref p, .ref l] ∧ Bag H p ∧ H l = some (.lst xs) ∧ l ≠ p ∧ xs ≠ [] ∧ xs.length ≤ 1000 ∧ RetB p (fun v _ => v ∈ xs) H Q
theorem ok_of {f : Addr} {fd : FuncData} (F : Fun K "_law_of" "_law_of" sOf f fd) (ml : mg "len" = none) {ft : Addr} {fdt : FuncData} (T : Can P w K mg base "_law_take" 1 ft fdt ["bag", "count"] spTake) : FnOk P w K mg base CX0 2 f fd ["bag", "some"] (spOf K) := by
  refine F.ok scOf (fun vs H Q E h => ?_) (fun cdv A outer s H vs Q E hr h => ?_)
  · obtain ⟨p, l, xs, rfl, _⟩ := h
    rfl
  obtain ⟨p, l, xs, rfl, hb, hl, hne, hx, hx2, q⟩ := h
  have h0 : 0 < xs.length := List.length_pos_iff.mpr hx
  refine ⟨_, pss_one (ps_ret (pe_ix ix_list (pv 1) (pcall T hr (pa_cons (pv 0) (pa_cons (pe_callB call_len_seq (by rfl) ml PySem.boot_len (pa_cons (pv 1) pa_nil)) pa_nil))) (fun _ _ => rfl))), ?_⟩
  refine ⟨.ref l, rfl, .ref p, rfl, .ref l, rfl, l, xs, rfl, .inl (sq_of hl), p, xs.length, rfl, hb, h0, by omega, ?_⟩
  rintro v H2 bx hb2 ⟨r, rfl, hr2⟩
  exact ⟨l, xs, _, _, rfl, rfl, sq_of (bx _ _ hne hl), atI_nat (List.getElem?_eq_getElem hr2), q _ _ bx hb2 (List.getElem_mem hr2)⟩

/-! _law_winding -/
abbrev sWind : Stmt := topS 19
theorem scWind : FnScope ["bag", "girth"] ["bag"] (defScope sWind) := ⟨rfl, rfl, rfl, by decide +kernel, rfl, by decide +kernel, by decide +kernel⟩
def IsWd (K : PySem.W.Frag) (v : V) (H : Hp) : Prop := ∃ g h e : Nat, 4 ≤ g ∧ g ≤ 16 ∧ h ≤ 8 ∧ e ≤ 1 ∧ Dp K H v (wD g h e)
def spWind (K : PySem.W.Frag) : Sp := fun vs H Q _ => ∃ p : Addr, vs = [.ref p] ∧ Bag H p ∧ RetB p (IsWd K) H Q
theorem bag_ne {H : Hp} {p q : Addr} (b : Bag H p) (n : H q = none) : q ≠ p := by
  obtain ⟨c, s, h⟩ := b
  exact (ne_of_none h n).symm
theorem ok_wind {f : Addr} {fd : FuncData} (F : Fun K "_law_winding" "_law_winding" sWind f fd) {ft : Addr} {fdt : FuncData} (T : Can P w K mg base "_law_take" 1 ft fdt ["bag", "count"] spTake)
    {fo : Addr} {fdo : FuncData} (O : Can P w K mg base "_law_of" 2 fo fdo ["bag", "some"] (spOf K)) : FnOk P w K mg base CX0 3 f fd ["bag"] (spWind K) := by
  refine F.ok scWind (fun vs H Q E h => ?_) (fun cdv A outer s H vs Q E hr h => ?_)
  · obtain ⟨p, rfl, _⟩ := h
    rfl
  obtain ⟨p, rfl, hb, q⟩ := h
  refine ⟨_, pss_cons (ps_set (i := 1) scWind.nd rfl (.inl rfl) (pe_op op_add pe_int (pcall O hr (pa_cons (pv 0) (pa_cons (pe_lst (pa_cons (pcall T hr (pa_cons (pv 0) (pa_cons pe_int pa_nil))) (pa_cons (pcall T hr (pa_cons (pv 0) (pa_cons pe_int pa_nil))) pa_nil))) pa_nil)))))
    (pss_one (ps_ret (pe_tup (pa_cons (pv 1) (pa_cons (pcall O hr (pa_cons (pv 0) (pa_cons (pe_lst (pa_cons pe_int (pa_cons pe_int (pa_cons pe_int (pa_cons (pcall T hr (pa_cons (pv 0) (pa_cons pe_int pa_nil))) pa_nil))))) pa_nil)))
      (pa_cons (pcall T hr (pa_cons (pv 0) (pa_cons pe_int pa_nil))) pa_nil)))))), ?_⟩
  refine ⟨.ref p, rfl, .ref p, rfl, p, 13, rfl, hb, by decide, by decide, ?_⟩
  rintro _ H1 b1 hb1 ⟨r1, rfl, hr1⟩
  refine ⟨.ref p, rfl, p, 4, rfl, hb1, by decide, by decide, ?_⟩
  rintro _ H2 b2 hb2 ⟨r2, rfl, hr2⟩
  refine ⟨by show 2 ≤ sizeLine; decide, fun l hl => ?_⟩
  refine ⟨p, l, _, rfl, hb2.ex (Ex.new hl), upd_same, bag_ne hb2 hl, by simp, by show 2 ≤ 1000; decide, ?_⟩
  intro v H3 b3 hb3 hv
  obtain ⟨r, rfl, hr3⟩ : ∃ r : Nat, v = vi r ∧ r < 13 := by
    rcases List.mem_cons.mp hv with rfl | hv
    · exact ⟨r1, rfl, hr1⟩
    · rw [List.mem_singleton.mp hv]; exact ⟨r2, rfl, by omega⟩
  have B3 : Bx p H H3 := (b1.trans b2).trans ((Bx.of (Ex.new hl)).trans b3)
  refine ⟨_, _, rfl, rfl, .int (4 + (r : Int)), rfl, .ref p, rfl, .ref p, rfl, p, 9, rfl, hb3, by decide, by decide, ?_⟩
  rintro _ H4 b4 hb4 ⟨r4, rfl, hr4⟩
  refine ⟨by show 4 ≤ sizeLine; decide, fun l2 hl2 => ?_⟩
  refine ⟨p, l2, _, rfl, hb4.ex (Ex.new hl2), upd_same, bag_ne hb4 hl2, by simp, by show 4 ≤ 1000; decide, ?_⟩
  intro v H5 b5 hb5 hv
  obtain ⟨h, rfl, hh⟩ : ∃ r : Nat, v = vi r ∧ r ≤ 8 := by
    rcases List.mem_cons.mp hv with rfl | hv
    · exact ⟨0, rfl, by decide⟩
    rcases List.mem_cons.mp hv with rfl | hv
    · exact ⟨1, rfl, by decide⟩
    rcases List.mem_cons.mp hv with rfl | hv
    · exact ⟨2, rfl, by decide⟩
    · rw [List.mem_singleton.mp hv]; exact ⟨r4, rfl, by omega⟩
  refine ⟨.ref p, rfl, p, 2, rfl, hb5, by decide, by decide, ?_⟩
  rintro _ H6 b6 hb6 ⟨e, rfl, he⟩
  refine ⟨by show 3 ≤ sizeLine; decide, fun t ht => ?_⟩
  refine q _ _ (B3.trans ((b4.trans (Bx.of (Ex.new hl2))).trans (b5.trans (b6.trans (Bx.of (Ex.new ht)))))) (hb6.ex (Ex.new ht)) ⟨4 + r, h, e, by omega, by omega, hh, by omega, .tup (st_of upd_same) (.cons ?_ (.cons (.int _) (.cons (.int _) .nil)))⟩
  have : ((4 + r : Nat) : Int) = 4 + (r : Int) := by omega
  show Dp K _ (V.int (4 + (r : Int))) (.int ((4 + r : Nat) : Int))
  rw [this]
  exact .int _

/-! _law_lowest -/
abbrev sLow2 : Stmt := topS 20
theorem scLow2 : FnScope ["top", "bottom", "one", "other"] ["top", "bottom"] (defScope sLow2) := ⟨rfl, rfl, rfl, by decide +kernel, rfl, by decide +kernel, by decide +kernel⟩
def spLow2 : Sp := fun vs H Q _ => ∃ a b : Nat, vs = [.int a, .int b] ∧ 0 < b ∧ b < 1073741824 ∧ ∀ t H2, Ex H H2 → H2 t = some (.tup [vi (a / Nat.gcd a b), vi (b / Nat.gcd a b)]) → Q (.ref t) H2
theorem ok_low2 {f : Addr} {fd : FuncData} {k : Nat} (F : Fun K "_law_lowest" "_law_lowest" sLow2 f fd) : FnOk P w K mg base CX0 (k + 1) f fd ["top", "bottom"] spLow2 := by
  refine F.ok scLow2 (fun vs H Q E h => ?_) (fun cdv A outer s H vs Q E hr h => ?_)
  · obtain ⟨a, b, rfl, _⟩ := h
    rfl
  obtain ⟨a, b, rfl, hb, hb2, q⟩ := h
  have hg := gcd_lt (a := a) hb hb2
  refine ⟨_, pss_cons (ps_par (i := 2) (j := 3) (by rfl) scLow2.nd rfl rfl (by decide) rfl rfl (pa_cons (pv 0) (pa_cons (pv 1) pa_nil)) (by rfl))
    (pss_cons (ps_while PassesOwn.never (pt_cmpR op_ne (pv 3) pe_int (nomark _))
      (pss_one (ps_par (i := 2) (j := 3) (by rfl) scLow2.nd rfl rfl (by decide) rfl rfl (pa_cons (pv 3) (pa_cons (pe_op op_mod (pv 2) (pv 3)) pa_nil)) (by rfl))))
    (pss_one (ps_ret (pe_tup (pa_cons (pe_op op_fdiv (pv 0) (pv 2)) (pa_cons (pe_op op_fdiv (pv 1) (pv 2)) pa_nil)))))), ?_⟩
  refine ⟨vi a, rfl, vi b, rfl, vi a, vi b, rfl, ?_⟩
  refine q_while (fun m σ' H' => ∃ c d : Nat, σ' = [some (vi a), some (vi b), some (vi c), some (vi d)] ∧ Nat.gcd c d = Nat.gcd a b ∧ m = d ∧ Ex H H') b ⟨a, b, rfl, rfl, rfl, Ex.refl H⟩ ?_
  rintro m σ' H' ⟨c, d, rfl, hcd, rfl, hx⟩
  refine ⟨_, et_test (ev_op (ev_var rfl) ev_c (rv_ne rfl)), fun hb H1 e1 => ?_, fun hb H1 e1 => ?_⟩
  · have hd : m ≠ 0 := by
      rintro rfl
      simp at hb
    refine ⟨fun σ2 H2 => ∃ c d : Nat, σ2 = [some (vi a), some (vi b), some (vi c), some (vi d)] ∧ Nat.gcd c d = Nat.gcd a b ∧ d < m ∧ Ex H H2, ?_, ?_⟩
    · rintro σ2 H2 ⟨c2, d2, rfl, g2, l2, x2⟩
      exact ⟨d2, l2, c2, d2, rfl, g2, rfl, x2⟩
    · refine ⟨vi m, rfl, vi c, rfl, vi m, rfl, c, m, rfl, rfl, by show (0 : Int) < (m : Int); omega, vi m, .int ((c : Int) % (m : Int)), rfl, m, c % m, rfl, ?_, Nat.mod_lt _ (by omega), hx.trans e1⟩
      rw [← hcd, Nat.gcd_comm c m, Nat.gcd_rec m c, Nat.gcd_comm]
  · have hd : m = 0 := by
      simp at hb
      omega
    subst hd
    have ec : c = Nat.gcd a b := by rw [← hcd]; simp
    subst ec
    refine ⟨vi a, rfl, .int (Nat.gcd a b : Nat), rfl, _, _, rfl, rfl, ⟨by omega, by omega⟩, vi b, rfl, .int (Nat.gcd a b : Nat), rfl, _, _, rfl, rfl, ⟨by omega, by omega⟩, by show 2 ≤ sizeLine; decide, fun t ht => ?_⟩
    exact q _ _ ((hx.trans e1).trans (Ex.new ht)) upd_same

/-! _law_angle -/
abbrev sAngle : Stmt := topS 21
theorem scAngle : FnScope ["bag", "bottom"] ["bag"] (defScope sAngle) := ⟨rfl, rfl, rfl, by decide +kernel, rfl, by decide +kernel, by decide +kernel⟩
def IsAng (K : PySem.W.Frag) (v : V) (H : Hp) : Prop := ∃ t b : Nat, t < b ∧ b ≤ 1000 ∧ Nat.gcd t b = 1 ∧ Dp K H v (td (t, b))
def spAngle (K : PySem.W.Frag) : Sp := fun vs H Q _ => ∃ p : Addr, vs = [.ref p] ∧ Bag H p ∧ RetB p (IsAng K) H Q
theorem ok_angle {f : Addr} {fd : FuncData} (F : Fun K "_law_angle" "_law_angle" sAngle f fd) {ft : Addr} {fdt : FuncData} (T : Can P w K mg base "_law_take" 1 ft fdt ["bag", "count"] spTake)
    {fo : Addr} {fdo : FuncData} (O : Can P w K mg base "_law_of" 2 fo fdo ["bag", "some"] (spOf K)) {fl : Addr} {fdl : FuncData} (L : Can P w K mg base "_law_lowest" 1 fl fdl ["top", "bottom"] spLow2) :
    FnOk P w K mg base CX0 3 f fd ["bag"] (spAngle K) := by
  refine F.ok scAngle (fun vs H Q E h => ?_) (fun cdv A outer s H vs Q E hr h => ?_)
  · obtain ⟨p, rfl, _⟩ := h
    rfl
  obtain ⟨p, rfl, hb, q⟩ := h
  refine ⟨_, pss_cons (ps_set (i := 1) scAngle.nd rfl (.inl rfl) (pe_op op_add pe_int (pcall O hr (pa_cons (pv 0) (pa_cons (pe_lst (pa_cons (pcall T hr (pa_cons (pv 0) (pa_cons pe_int pa_nil))) (pa_cons (pcall T hr (pa_cons (pv 0) (pa_cons pe_int pa_nil))) pa_nil))) pa_nil)))))
    (pss_one (ps_ret (pcall L hr (pa_cons (pcall T hr (pa_cons (pv 0) (pa_cons (pv 1) pa_nil))) (pa_cons (pv 1) pa_nil))))), ?_⟩
  refine ⟨.ref p, rfl, .ref p, rfl, p, 12, rfl, hb, by decide, by decide, ?_⟩
  rintro _ H1 b1 hb1 ⟨r1, rfl, hr1⟩
  refine ⟨.ref p, rfl, p, 1000, rfl, hb1, by decide, by decide, ?_⟩
  rintro _ H2 b2 hb2 ⟨r2, rfl, hr2⟩
  refine ⟨by show 2 ≤ sizeLine; decide, fun l hl => ?_⟩
  refine ⟨p, l, _, rfl, hb2.ex (Ex.new hl), upd_same, bag_ne hb2 hl, by simp, by show 2 ≤ 1000; decide, ?_⟩
  intro v H3 b3 hb3 hv
  obtain ⟨r, rfl, hr3⟩ : ∃ r : Nat, v = vi r ∧ r < 1000 := by
    rcases List.mem_cons.mp hv with rfl | hv
    · exact ⟨r1, rfl, by omega⟩
    · rw [List.mem_singleton.mp hv]; exact ⟨r2, rfl, hr2⟩
  have B3 : Bx p H H3 := (b1.trans b2).trans ((Bx.of (Ex.new hl)).trans b3)
  refine ⟨_, _, rfl, rfl, ?_⟩
  have eb : (1 : Int) + (r : Int) = ((1 + r : Nat) : Int) := by omega
  dsimp only
  rw [eb]
  refine ⟨.ref p, rfl, vi (1 + r), rfl, p, 1 + r, rfl, hb3, by omega, by omega, ?_⟩
  rintro _ H4 b4 hb4 ⟨t, rfl, ht⟩
  refine ⟨vi (1 + r), rfl, t, 1 + r, rfl, by omega, by omega, ?_⟩
  intro v H5 e5 hd0
  have hd : Dp K H5 (.ref v) (td (t / Nat.gcd t (1 + r), (1 + r) / Nat.gcd t (1 + r))) := .tup (st_of hd0) (.cons (.int _) (.cons (.int _) .nil))
  have hg0 : 0 < Nat.gcd t (1 + r) := Nat.gcd_pos_of_pos_right _ (by omega)
  refine q _ _ (B3.trans (b4.trans (Bx.of e5))) (hb4.ex e5) ⟨t / Nat.gcd t (1 + r), (1 + r) / Nat.gcd t (1 + r), ?_, ?_, ?_, hd⟩
  · exact Nat.div_lt_div_of_lt_of_dvd (Nat.gcd_dvd_right _ _) ht
  · exact Nat.le_trans (Nat.div_le_self _ _) (by omega)
  · exact Nat.gcd_div_gcd_div_gcd_of_pos_right (by omega)
end
end Nr
namespace Nr
open PySem PySem.Spec PyProof.Rows L2 Evl

def foundL (n e t b : Nat) (l : List (Nat × Nat)) : List Nat := ((l.map (placeN t b)).filter (fun p => decide (p < n))).map (fun p => if e = 0 then p else n - 1 - p)
theorem foundL_yes {n e t b : Nat} {l : List (Nat × Nat)} {q : Nat × Nat} (h : placeN t b q < n) : foundL n e t b (l ++ [q]) = foundL n e t b l ++ [if e = 0 then placeN t b q else n - 1 - placeN t b q] := by
  unfold foundL
  rw [List.map_append, List.filter_append, List.map_append]
  simp [h]
theorem foundL_no {n e t b : Nat} {l : List (Nat × Nat)} {q : Nat × Nat} (h : ¬ placeN t b q < n) : foundL n e t b (l ++ [q]) = foundL n e t b l := by
  unfold foundL
  rw [List.map_append, List.filter_append, List.map_append]
  simp [h]
theorem foundL_len {n e t b : Nat} (l : List (Nat × Nat)) : (foundL n e t b l).length ≤ l.length := by
  unfold foundL
  rw [List.length_map]
  refine Nat.le_trans (List.length_filter_le _ _) ?_
  rw [List.length_map]
  exact Nat.le_refl _
theorem foundL_perm {n g h e t b : Nat} (he : e ≤ 1) : (foundL n e t b (turnsM n g h)).Perm (pricksM n g h e t b) := by
  unfold foundL pricksM
  rcases Nat.lt_or_ge e 1 with z | z
  · have : e = 0 := by omega
    subst this
    rw [if_neg (by decide)]
    simp only [if_true, List.map_id']
    exact List.Perm.refl _
  · have : e = 1 := by omega
    subst this
    rw [if_pos rfl]
    simp only [Nat.one_ne_zero, if_false]
    exact (List.reverse_perm _).symm
theorem sorted_is {ns : List Int} {ks ms : List Nat} (hp : ns.Perm (ks.map fun k : Nat => (k : Int))) (hk : ks.Perm ms) (ho : ns.Pairwise (· ≤ ·)) (hm : ms.Pairwise (· < ·)) : ns = ms.map fun k : Nat => (k : Int) :=
  PySem.W.ksm_same (hp.trans (hk.map _)) ho (List.pairwise_map.mpr (hm.imp fun {a b} lt => by omega))

section
variable {P : Program} {w : World} {K : PySem.W.Frag} {mg : Str → Option Value} {base : Heap}
abbrev sLPr : Stmt := topS 22
theorem scLPr : FnScope ["many", "winding", "angle", "found", "begin", "length", "point", "cell"] ["many", "winding", "angle"] (defScope sLPr) := ⟨rfl, rfl, rfl, by decide +kernel, rfl, by decide +kernel, by decide +kernel⟩
def spLPr (K : PySem.W.Frag) : Sp := fun vs H Q _ => ∃ (n g h e t b : Nat) (v u : V), vs = [.int n, v, u] ∧ Dp K H v (wD g h e) ∧ Dp K H u (td (t, b)) ∧ 2 ≤ g ∧ g ≤ 1000 ∧ h ≤ 1000 ∧ e ≤ 1 ∧ n ≤ 31 ∧ 0 < b ∧ b < 2 ^ 200 ∧ t < 2 ^ 200 ∧
  RetL ((pricksM n g h e t b).map vi) H Q
theorem ok_lpr {f : Addr} {fd : FuncData} {k : Nat} (F : Fun K "_law_pricked" "_law_pricked" sLPr f fd) (ms : mg "sorted" = none) : FnOk P w K mg base CX0 (k + 1) f fd ["many", "winding", "angle"] (spLPr K) := by
  refine F.ok scLPr (fun vs H Q E h => ?_) (fun cdv A outer s H vs Q E hr h => ?_)
  · obtain ⟨n, g, h, e, t, b, v, u, rfl, _⟩ := h
    rfl
  obtain ⟨n, g, h, e, t, b, v, u, rfl, hw, hu, hg, hg2, hh, he, hn, hb, hb2, ht2, q⟩ := h
  obtain ⟨wa, rfl, hwq⟩ := wd_get hw
  obtain ⟨ua, rfl, huq⟩ := td_get hu
  have A0 : ∀ {X : Cx} {pos p2 : Pos}, True := trivial
  refine ⟨_, pss_cons (ps_par3 (i := 3) (j := 4) (l := 5) (by rfl) scLPr.nd rfl rfl rfl (by decide) (by decide) (by decide) rfl rfl rfl (pa_cons (pe_lst pa_nil) (pa_cons pe_int (pa_cons (pe_ix ix_tup (pv 1) pe_int (fun _ _ => rfl)) pa_nil))) (by rfl))
    (pss_cons (ps_while PassesOwn.never (pt_cmpR op_lt (pv 4) (pe_op op_mul pe_int (pv 0)) (nomark _))
      (pss_cons (ps_set (i := 6) scLPr.nd rfl (.inl rfl) (pe_op op_add (pe_op op_mulW (pv 4) (pe_ix ix_tup (pv 2) pe_int (fun _ _ => rfl))) (pe_op op_mulW (pe_ix ix_tup (pv 2) pe_int (fun _ _ => rfl)) (pv 5))))
      (pss_cut (ps_if (pt_cmpR op_lt (pv 6) (pe_op op_mulW (pe_op op_mul pe_int (pv 0)) (pe_ix ix_tup (pv 2) pe_int (fun _ _ => rfl))) (nomark _))
        (pss_cons (ps_set (i := 7) scLPr.nd rfl (.inl rfl) (pe_op op_fdivW (pv 6) (pe_op op_mul pe_int (pe_ix ix_tup (pv 2) pe_int (fun _ _ => rfl)))))
        (pss_one (ps_expr (pe_bm PySem.F.plainAttrs_list PySem.F.slot_list_append PySem.F.type_list_append mt_append (pv 3) (pa_cons (pe_ifExp (pt_cmpR op_eq (pe_ix ix_tup (pv 1) pe_int (fun _ _ => rfl)) pe_int (nomark _)) (pv 7) (pe_op op_sub (pe_op op_sub (pv 0) pe_int) (pv 7))) pa_nil))))) pss_nil)
      (pss_one (ps_par (i := 4) (j := 5) (by rfl) scLPr.nd rfl rfl (by decide) rfl rfl (pa_cons (pe_op op_add (pv 4) (pv 5)) (pa_cons (pe_op op_add (pv 5) (pe_ix ix_tup (pv 1) pe_int (fun _ _ => rfl))) pa_nil)) (by rfl))))))
    (pss_one (ps_ret (pe_callB cr_sorted (by rfl) ms boot_sorted (pa_cons (pv 3) pa_nil))))), ?_⟩
  refine ⟨Nat.zero_le _, fun D hD => ?_⟩
  have ex0 : Ex H (upd H D (.lst [])) := Ex.new hD
  refine ⟨.ref wa, rfl, wa, _, _, vi g, rfl, rfl, ex_t ex0 hwq, atI_nat (j := 0) rfl, .ref D, .int 0, vi g, rfl, ?_⟩
  refine q_while (fun m σ' H' => ∃ (bg l fu : Nat) (pre : List (Nat × Nat)) (y6 y7 : Option V), σ' = [some (vi n), some (.ref wa), some (.ref ua), some (.ref D), some (vi bg), some (vi l), y6, y7] ∧
    turnsM n g h = pre ++ turnsF fu (2 * n) bg l h ∧ 2 * n - bg ≤ fu ∧ 2 ≤ l ∧ l ≤ g + bg * h ∧ m = 2 * n - bg ∧ Ex H H' ∧ H' D = some (.lst ((foundL n e t b pre).map vi))) (2 * n)
    ⟨0, g, 2 * n, [], none, none, rfl, rfl, by omega, hg, by omega, by omega, ex0, upd_same⟩ ?_
  rintro m σ' H' ⟨bg, l, fu, pre, y6, y7, rfl, hT, hfu, hl2, hlg, rfl, ex, hDx⟩
  refine ⟨_, et_test (ev_op (ev_var rfl) (ev_op ev_c (ev_var rfl) (rv_I (.inl ⟨by decide, by decide⟩))) rv_I0), fun hbb H1 e1 => ?_, fun hbb H1 e1 => ?_⟩
  · have hbg : bg < 2 * n := by
      simp at hbb
      omega
    obtain ⟨fu, rfl⟩ : ∃ k, fu = k + 1 := ⟨fu - 1, by omega⟩
    rw [turnsF, if_pos hbg] at hT
    have hprelen : pre.length ≤ 2 * n := by
      have l2 := congrArg List.length hT
      have l3 := turnsF_len (2 * n) (2 * n) 0 g h
      rw [List.length_append] at l2
      unfold turnsM at l2
      omega
    have hlb : l ≤ 100000 := by
      have : bg * h ≤ 62 * 1000 := Nat.mul_le_mul (by omega) hh
      omega
    have exx := ex.trans e1
    obtain ⟨b0, eb0⟩ : ∃ b0, b0 = bg := ⟨bg, rfl⟩
    rw [show 2 * n - bg = 2 * n - b0 by rw [eb0]]
    refine ⟨fun σ2 H2 => ∃ (bg l fu : Nat) (pre : List (Nat × Nat)) (y6 y7 : Option V), σ2 = [some (vi n), some (.ref wa), some (.ref ua), some (.ref D), some (vi bg), some (vi l), y6, y7] ∧
      turnsM n g h = pre ++ turnsF fu (2 * n) bg l h ∧ 2 * n - bg ≤ fu ∧ 2 ≤ l ∧ l ≤ g + bg * h ∧ 2 * n - bg < 2 * n - b0 ∧ Ex H H2 ∧ H2 D = some (.lst ((foundL n e t b pre).map vi)), ?_, ?_⟩
    · rintro σ2 H2 ⟨a1, a2, a3, a4, a5, a6, h1, h2, h3, h4, h5, h6, h7, h8⟩
      exact ⟨_, h6, a1, a2, a3, a4, a5, a6, h1, h2, h3, h4, h5, rfl, h7, h8⟩
    have hu1 := ex_t exx huq
    have hw1 := ex_t exx hwq
    have w1 : CMulW (bg : Int) (b : Int) := wide_mul (a := 64) (b := 200) (by omega) (by omega) (by decide) (by decide) (by decide)
    have w2 : CMulW (t : Int) (l : Int) := wide_mul (a := 200) (b := 64) (by omega) (by omega) (by decide) (by decide) (by decide)
    have w3 : CMulW (2 * (n : Int)) (b : Int) := wide_mul (a := 64) (b := 200) (by omega) (by omega) (by decide) (by decide) (by decide)
    refine q_asg (v := .int ((bg : Int) * (b : Int) + (t : Int) * (l : Int))) (ev_op (ev_op (ev_var rfl) (ev_op (ev_var rfl) ev_c (rv_ixT hu1 (atI_nat (j := 1) rfl))) (rv_I w1)) (ev_op (ev_op (ev_var rfl) ev_c (rv_ixT hu1 (atI_nat (j := 0) rfl))) (ev_var rfl) (rv_I w2)) rv_I0) fun H2 e2 => ?_
    have hu2 := ex_t e2 hu1
    have hw2 := ex_t e2 hw1
    refine q_cut (M := fun σ2 H2 => ∃ y7, σ2 = [some (vi n), some (.ref wa), some (.ref ua), some (.ref D), some (vi bg), some (vi l), some (.int ((bg : Int) * (b : Int) + (t : Int) * (l : Int))), y7] ∧ Ex H H2 ∧ H2 D = some (.lst ((foundL n e t b (pre ++ [(bg, l)])).map vi))) ?_ ?_
    · have hpt : (bg : Int) * (b : Int) + (t : Int) * (l : Int) = ((bg * b + l * t : Nat) : Int) := by
        rw [Int.natCast_add, Int.natCast_mul, Int.natCast_mul, Int.mul_comm (t : Int)]
      have hdiv : placeN t b (bg, l) < n ↔ bg * b + l * t < n * (2 * b) := Nat.div_lt_iff_lt_mul (by omega)
      have hnb : 2 * (n : Int) * (b : Int) = ((n * (2 * b) : Nat) : Int) := by
        rw [Int.natCast_mul, Int.natCast_mul]
        show 2 * (n : Int) * (b : Int) = (n : Int) * (2 * (b : Int))
        rw [Int.mul_comm 2 (n : Int), Int.mul_assoc]
      refine s_when (et_test (ev_op (ev_var rfl) (ev_op (ev_op ev_c (ev_var rfl) (rv_I (.inl ⟨by decide, by decide⟩))) (ev_op (ev_var rfl) ev_c (rv_ixT hu2 (atI_nat (j := 1) rfl))) (rv_I w3)) rv_I0)) (fun hc H3 e3 => ?_) (fun hc H3 e3 => ?_)
      · have hc := of_decide_eq_true hc
        rw [hpt, hnb] at hc
        have hlt : placeN t b (bg, l) < n := hdiv.mpr (by omega)
        have hu3 := ex_t e3 hu2
        have hw3 := ex_t e3 hw2
        have w4 : CDivW ((bg : Int) * (b : Int) + (t : Int) * (l : Int)) (2 * (b : Int)) := wide_div (b := 201) (by omega) (by omega) (by decide) (by decide)
        refine q_asg (v := vi (placeN t b (bg, l))) (ev_is (ev_op (ev_var rfl) (ev_op ev_c (ev_op (ev_var rfl) ev_c (rv_ixT hu3 (atI_nat (j := 1) rfl))) (rv_I (.inl ⟨by decide, by decide⟩))) (rv_I w4)) ?_) fun H4 e4 => ?_
        · show V.int _ = V.int _
          rw [hpt]
          rfl
        · have hw4 := ex_t e4 hw3
          refine s_app (v := vi (if e = 0 then placeN t b (bg, l) else n - 1 - placeN t b (bg, l))) (((e2.trans e3).trans e4) _ _ (e1 _ _ hDx)) (ev_var rfl) (ev_if (et_test (ev_op (ev_op (ev_var rfl) ev_c (rv_ixT hw4 (atI_nat (j := 2) rfl))) ev_c (rv_eq rfl))) (fun hz => ?_) (fun hz => ?_)) ?_ fun H5 e5 => ?_
          · refine ev_is (ev_var rfl) ?_
            simp at hz
            rw [if_pos (by omega)]
          · refine ev_is (ev_op (ev_op (ev_var rfl) ev_c rv_I0) (ev_var rfl) rv_I0) ?_
            simp at hz
            rw [if_neg (by omega)]
            show V.int _ = V.int _
            congr 1
            omega
          · rw [List.length_map]
            have := foundL_len (n := n) (e := e) (t := t) (b := b) pre
            omega
          · refine ⟨_, rfl, Ex.mut (exx.trans ((e2.trans e3).trans (e4.trans e5))) hD, ?_⟩
            rw [upd_same, foundL_yes hlt, List.map_append]
            rfl
      · have hc := of_decide_eq_false hc
        rw [hpt, hnb] at hc
        have hlt : ¬ placeN t b (bg, l) < n := fun z => hc (by have := hdiv.mp z; omega)
        refine ⟨_, rfl, exx.trans (e2.trans e3), ?_⟩
        rw [foundL_no hlt]
        exact (e2.trans e3) _ _ (e1 _ _ hDx)
    · rintro σ2 H3 ⟨y7, rfl, ex3, hD3⟩
      refine ⟨vi bg, rfl, vi l, rfl, _, _, rfl, rfl, vi l, rfl, .ref wa, rfl, wa, _, _, vi h, rfl, rfl, ex_t ex3 hwq, atI_nat (j := 1) rfl, _, _, rfl, rfl, _, _, rfl, ?_⟩
      refine ⟨bg + l, l + h, fu, pre ++ [(bg, l)], _, _, rfl, ?_, by omega, by omega, ?_, by omega, ex3, hD3⟩
      · rw [hT, List.append_assoc]; rfl
      · have : h ≤ l * h := by
          have := Nat.mul_le_mul_right h (show 1 ≤ l by omega)
          omega
        rw [Nat.add_mul]
        omega
  · have hbg : ¬ bg < 2 * n := by
      simp at hbb
      omega
    rw [turnsF_done _ _ _ _ _ hbg, List.append_nil] at hT
    subst hT
    have hlen := foundL_len (n := n) (e := e) (t := t) (b := b) (turnsM n g h)
    have hlen2 : (turnsM n g h).length ≤ 2 * n := turnsF_len _ _ _ _ _
    refine ⟨.ref D, rfl, D, (foundL n e t b (turnsM n g h)).map (fun k : Nat => (k : Int)), rfl, ?_, ?_, fun ns p hp ho hpf => ?_⟩
    · rw [List.map_map]
      exact sq_of (e1 _ _ hDx)
    · rw [List.length_map]
      omega
    · have en := sorted_is hp (foundL_perm he) ho (pricks_sorted hb hg)
      refine q p _ (fresh_back (ex.trans e1) hpf) ((ex.trans e1).trans (Ex.new hpf)) ?_
      rw [upd_same, en, List.map_map]
      rfl
end
end Nr
namespace Nr
open PySem PySem.Spec PyProof.Rows L2 Evl

/-! lambda x: x[0] * 10 ** 9 // x[1], called on a pair of ints -/
def keyBody (x : Str) (p1 p2 p3 p4 p5 p6 p7 p8 p9 p10 p11 : Pos) (j1 j2 j3 j4 : Nat) : Expr :=
  .BinOp (.BinOp (.Subscript (.Name x p1) (.Constant (.int 0) j1 p2) p3) .Mult (.BinOp (.Constant (.int 10) j2 p4) .Pow (.Constant (.int 9) j3 p5) p6) p7) .FloorDiv (.Subscript (.Name x p8) (.Constant (.int 1) j4 p9) p10) p11
def keyI (a b : Int) : Int := (a * 1000000000) / b
section
variable {prog : Program} {w : World} {A : Around} {E : Value → Shared → Prop} {s : Shared}
theorem key_call {x q : Str} {params : Arguments} {scope : Scope} {pm ctv : Value} {f c' t : Addr} {a b : Int} {ta tb : Tok} {Q : Value → Shared → Prop} {p1 p2 p3 p4 p5 p6 p7 p8 p9 p10 p11 : Pos} {j1 j2 j3 j4 : Nat}
    (hroom : A.depth < recursionLimit) (hf : s.heap.get? f = some (PySem.W.kla_obj "<lambda>" q params (keyBody x p1 p2 p3 p4 p5 p6 p7 p8 p9 p10 p11 j1 j2 j3 j4) scope [] pm c' ctv)) (hcd : s.heap.CodeRec (.ref c') q) (hlim : s.heap.NoLimit)
    (ht : IsTup s.heap t #[.int a ta, .int b tb]) (ha : a.natAbs < 2 ^ 60) (hb0 : 0 < b) (hb : b < 1073741824)
    (hbind : bindArgs (PySem.W.kla_fn "<lambda>" q params (keyBody x p1 p2 p3 p4 p5 p6 p7 p8 p9 p10 p11 j1 j2 j3 j4) scope [] pm (.ref c') ctv) ⟨[.ref t], []⟩ = pure [(x, .ref t)])
    (hco : scope.isCoroutine = false) (hgen : scope.isGenerator = false) (hk : scope.kind = .function) (hcell : ∀ y ∈ scope.names, y.2 ≠ .cell) (hx : scope.names.lookup x = some .local) (hdb : (x == ("__debug__" : Str)) = false)
    (h : ∀ h' tk t', (∀ b o, s.heap.get? b = some o → h'.get? b = some o) → Q (.int (keyI a b) t') { s with heap := h', toks := tk }) :
    wpAny (model prog w) A (call (.ref f) [.ref t]) Q E s := by
  refine wpAny_call (PySem.W.kla_callFunE hroom hf rfl hco hgen rfl hcd ?_)
  rw [hbind]
  refine wpAny_pure (wpAny_newFunctionEnv hcell (fun y hy => by rw [List.mem_singleton.mp hy]; exact hx) (fun h1 hns hsb => ⟨hlim.fresh _ hsb, ?_⟩) hk)
  have kp : ∀ b o, s.heap.get? b = some o → h1.get? b = some o := fun b o e => hsb.extBut b o (Nat.ne_of_lt (Heap.lt_size e)) (Heap.get?_push_of_some _ e)
  change codeAny _ _ (.expr (keyBody x p1 p2 p3 p4 p5 p6 p7 p8 p9 p10 p11 j1 j2 j3 j4) (envOf q scope s.heap.objs.size f (.ref c'))) _ _
  refine PySem.W.kla_codeExpr ?_
  have F : Fr s.heap s.heap.objs.size h1 (fun y => [(x, Value.ref t)].reverse.lookup y) := ⟨hns, kp, Nat.le_refl _⟩
  have hv : (fun y => [(x, Value.ref t)].reverse.lookup y) x = some (Value.ref t) := by simp
  have hkx : (envOf q scope s.heap.objs.size f (.ref c')).kindOf x = some .local := hx
  have ht1 : IsTup h1 t #[.int a ta, .int b tb] := by
    obtain ⟨o, e, r⟩ := ht
    exact ⟨o, kp t o e, r⟩
  unfold keyBody
  refine wpAny_BinOp (wpAny_BinOp (Subscript_ (ld (s := { s with heap := h1, toks := s.toks + [(x, Value.ref t)].length }) F hv (wpAny_Constant_int ?_) hk hkx hdb)))
  refine item_tuple (j := 0) ht1 (by decide) (by decide) rfl rfl ?_
  refine wpAny_BinOp (wpAny_Constant_int (wpAny_Constant_int (pow_int_small (by decide) (by decide) (by decide) ?_)))
  refine mul_int ?_ ?_
  · refine Subscript_ (ld (s := { s with heap := h1, toks := _ }) F hv (wpAny_Constant_int ?_) hk hkx hdb)
    refine item_tuple (j := 1) ht1 (by decide) (by decide) rfl rfl ?_
    refine floordiv_int (by omega) ?_ (.inl (PyProof.noPylong_small (by omega)))
    rw [Int.fdiv_eq_ediv_of_nonneg _ (by omega)]
    exact h h1 _ _ kp
  · exact CMul.ok (.inl ⟨by omega, by omega⟩)
end
end Nr
namespace Nr
open PySem PySem.Spec PyProof.Rows L2 Evl

theorem perm_map_inv {α β : Type} {g : α → β} : ∀ {ps : List β} {l : List α}, ps.Perm (l.map g) → ∃ ys : List α, ys.Perm l ∧ ps = ys.map g
  | [], l, h => by
    have : l.map g = [] := h.symm.eq_nil
    have : l = [] := List.map_eq_nil_iff.mp this
    subst this
    exact ⟨[], List.Perm.refl _, rfl⟩
  | p :: ps, l, h => by
    obtain ⟨x, hx, rfl⟩ := List.mem_map.mp (h.mem_iff.mp List.mem_cons_self)
    obtain ⟨l1, l2, rfl⟩ := List.append_of_mem hx
    have h2 : (g x :: ps).Perm (g x :: (l1 ++ l2).map g) := by
      refine h.trans ?_
      rw [List.map_append, List.map_cons, List.map_append]
      exact List.perm_middle
    obtain ⟨ys, h3, rfl⟩ := perm_map_inv (List.Perm.cons_inv h2)
    exact ⟨x :: ys, (List.Perm.cons x h3).trans List.perm_middle.symm, rfl⟩
theorem paired_get {α β : Type} {F : α → β → Prop} : ∀ {l1 : List α} {l2 : List β} {i : Nat} {a : α}, Paired F l1 l2 → l1[i]? = some a → ∃ b, l2[i]? = some b ∧ F a b
  | _, _, _, _, .nil, e => by simp at e
  | _, _, 0, _, .cons r _, e => by simp at e; subst e; exact ⟨_, rfl, r⟩
  | _, _, i + 1, a, .cons _ t, e => by
    obtain ⟨b, h1, h2⟩ := paired_get (i := i) (a := a) t (by simpa using e)
    exact ⟨b, by simpa using h1, h2⟩
theorem paired_map {α β γ : Type} {F : α → β → Prop} {f : α → γ} {g : β → γ} : ∀ {l1 : List α} {l2 : List β}, Paired F l1 l2 → (∀ a b, F a b → f a = g b) → l1.map f = l2.map g
  | _, _, .nil, _ => rfl
  | _, _, .cons r t, h => by rw [List.map_cons, List.map_cons, h _ _ r, paired_map t h]
theorem paired_mem {α β : Type} {F : α → β → Prop} : ∀ {l1 : List α} {l2 : List β}, Paired F l1 l2 → ∀ b ∈ l2, ∃ a ∈ l1, F a b
  | _, _, .nil, b, h => by cases h
  | _, _, .cons r t, b, h => by
    rcases List.mem_cons.mp h with rfl | h
    · exact ⟨_, List.mem_cons_self, r⟩
    · obtain ⟨a, h1, h2⟩ := paired_mem t b h
      exact ⟨a, List.mem_cons_of_mem _ h1, h2⟩
theorem zip_maps {α β γ : Type} (f : α → β) (g : α → γ) : ∀ l : List α, (l.map f).zip (l.map g) = l.map fun x => (f x, g x)
  | [] => rfl
  | x :: l => by rw [List.map_cons, List.map_cons, List.zip_cons_cons, zip_maps f g l]; rfl
theorem vals_refs {α : Type} (f : α → Addr) : ∀ l : List α, Vals (l.map fun x => V.ref (f x)) (l.map fun x => Value.ref (f x))
  | [] => .nil
  | x :: l => .cons rfl (vals_refs f l)
def keyK : List Key → Int
  | [.inl a, .inl b] => keyI a b
  | _ => 0
/-- a pair of ints that the key can be reckoned of -/
def KeyOk (k : List Key) : Prop := ∃ a b : Int, k = [.inl a, .inl b] ∧ a.natAbs < 2 ^ 60 ∧ 0 < b ∧ b < 1073741824
def LamO (f : Addr) (o : Obj) : HO := .ext fun h => h.get? f = some o
theorem lamO_ok {P : Program} {w : World} {H : Hp} {h : Heap} {f : Addr} {o : Obj} (e : h.get? f = some o) : ObjOk P w H h f (LamO f o) := ⟨e, ⟨o, e⟩, fun h1 h2 q k => k _ q⟩

section
variable {X : Cx} {x q : Str} {params : Arguments} {scope : Scope} {p1 p2 p3 p4 p5 p6 p7 p8 p9 p10 p11 : Pos} {j1 j2 j3 j4 : Nat}
abbrev kbody (x : Str) (p1 p2 p3 p4 p5 p6 p7 p8 p9 p10 p11 : Pos) (j1 j2 j3 j4 : Nat) : Expr := keyBody x p1 p2 p3 p4 p5 p6 p7 p8 p9 p10 p11 j1 j2 j3 j4
/-- sorted(d, key=f), d a dict of pairs, f such a lambda -/
def rSortLam (q : Str) (params : Arguments) (body : Expr) (scope : Scope) : List V → List V → Hp → VK → Prop := fun vs zs H Q => ∃ (d f c' : Addr) (kvs : List (List Key × V)) (pm ctv : Value), vs = [.ref d] ∧ zs = [.ref f] ∧ H d = some (.dT kvs) ∧
  H f = some (LamO f (PySem.W.kla_obj "<lambda>" q params body scope [] pm c' ctv)) ∧ H c' = some (LamX.CodeO c' q) ∧ kvs.length < 64 ∧ (∀ kv ∈ kvs, KeyOk kv.1) ∧
  ∀ (ys : List (List Key × Addr)) (p : Addr), (ys.map (·.1)).Perm (kvs.map (·.1)) → (∀ y ∈ ys, H y.2 = some (.tup (y.1.map kV))) → ys.Pairwise (fun u v => keyK u.1 ≤ keyK v.1) → H p = none → Q (.ref p) (upd H p (.lst (ys.map fun y => V.ref y.2)))
theorem cr_sortLam {k : Nat} (hr : Room k X.A) (hcalm : X.calm = true)
    (hbind : ∀ (pm cv ctv : Value) (t : Addr), bindArgs (PySem.W.kla_fn "<lambda>" q params (kbody x p1 p2 p3 p4 p5 p6 p7 p8 p9 p10 p11 j1 j2 j3 j4) scope [] pm cv ctv) ⟨[.ref t], []⟩ = pure [(x, .ref t)])
    (hco : scope.isCoroutine = false) (hgen : scope.isGenerator = false) (hk : scope.kind = .function) (hcell : ∀ y ∈ scope.names, y.2 ≠ .cell) (hx : scope.names.lookup x = some .local) (hdb : (x == ("__debug__" : Str)) = false) :
    CallRK X (.builtin "sorted") [Str.ofString "key"] (rSortLam q params (kbody x p1 p2 p3 p4 p5 p6 p7 p8 p9 p10 p11 j1 j2 j3 j4) scope) := by
  intro pins s σ H xs zs us ws Q I r1 r2 h
  obtain ⟨d, f, c', kvs, pm, ctv, rfl, rfl, hd, hf, hc, h64, hok, qq⟩ := h
  rw [Vals.ref1 r1, Vals.ref1 r2]
  obtain ⟨z, lo, es0, pr, o, es, ep, ho, hex, hdat, hes, nd⟩ := (show ObjOk X.prog X.w H s.heap d (.dT kvs) from I.hok d _ hd)
  have raw : s.heap.DictRaw d es ep := ⟨o, ho, hex, hdat⟩
  have hsz : es.size = es0.length := by rw [← Array.length_toList, hes, List.length_map]
  have hle : kvs.length = es0.length := Paired.length pr
  have h16 : es.size ≤ sizeLine := by rw [hsz, ← hle, sizeLine_eq]; omega
  change wpAny _ _ (call (.builtin "sorted") [.ref d] [(Str.ofString "key", .ref f)]) _ _ s
  refine call_function_entry_kw kind_sorted plain_sorted entry_sorted (PyProof.Rows.ksk_s1 _ _) ?_
  unfold Builtin.«sorted»
  refine wpAny_bind (m := checkCount "sorted" 1 1 _) (wpAny_pure ?_)
  refine wpAny_bind (PySem.W.kdu_collect (A := X.A.in1) (KdlSrc.rawDict lo) (I.ok.hd hcalm) raw h16 fun h1 tk acc hk1 hacc => ?_)
  have hacc2 : acc.toList = es0.map fun e => Value.ref e.2.1 := by
    refine List.ext_getElem? fun j => ?_
    rw [Array.getElem?_toList]
    rcases Nat.lt_or_ge j acc.size with lt | ge
    · have e1 : acc[j]? = some acc[j] := Array.getElem?_eq_getElem lt
      obtain ⟨hi, e2⟩ := hacc.2 j _ e1
      have e3 : es.toList[j]? = some es[j] := by rw [Array.getElem?_toList, Array.getElem?_eq_getElem hi]
      rw [hes, List.getElem?_map] at e3
      obtain ⟨y, hy, e4⟩ := Option.map_eq_some_iff.mp e3
      rw [e1, e2, List.getElem?_map, hy, ← e4]
      rfl
    · rw [Array.getElem?_eq_none ge, List.getElem?_eq_none (by rw [List.length_map, ← hsz, ← hacc.1]; exact ge)]
  have hal : acc.toList.length = es0.length := by rw [hacc2, List.length_map]
  refine wpAny_bind (wpAny_newList ?_ (by rw [hal, ← hle, sizeLine_eq]; omega))
  have hoL : (h1.push (seqObj "list" acc.toList.toArray 0)).get? h1.objs.size = some (seqObj "list" acc.toList.toArray 0) := Heap.get?_push_size _ rfl
  change wpAny _ _ _ _ _ { s with heap := h1.push (seqObj "list" acc.toList.toArray 0), toks := tk }
  have I1 : Inv X pins σ H { s with heap := h1, toks := tk } := I.kept hk1
  have kpush : ∀ b o, h1.get? b = some o → (h1.push (seqObj "list" acc.toList.toArray 0)).get? b = some o := fun b o e => Heap.get?_push_of_some _ e
  have I2 : Inv X pins σ H { s with heap := h1.push (seqObj "list" acc.toList.toArray 0), toks := tk } := I1.kept kpush
  have hDn : H h1.objs.size = none := I1.hok.fresh (Nat.le_refl _)
  obtain ⟨m, F⟩ := I2.fr
  have hLD : h1.objs.size ≠ X.env.locals := Nat.ne_of_gt I1.lt
  have hbD : X.base.get? h1.objs.size = none := Heap.get?_none_of_le I1.env0.bsz
  have neD : ∀ b o, h1.get? b = some o → b ≠ h1.objs.size := fun b o e => Nat.ne_of_lt (Heap.lt_size e)
  have neL : ∀ b o, H b = some o → b ≠ X.env.locals := fun b o e z => by
    rw [z, I.free] at e
    cases e
  generalize eD : h1.objs.size = D at *
  have N : News X.base X.env.locals (h1.push (seqObj "list" acc.toList.toArray 0)) (rest X.base (h1.push (seqObj "list" acc.toList.toArray 0)) X.env.locals D) := fun p hp => news_all p (List.mem_filter.mp hp).1
  refine wpAny_bind (wpAny_holding (wpAny_call_entry_kw slot_list_sort ⟨_, hoL, rfl⟩ entry_list_sort ?body (PyProof.Rows.ksk_l1 _ _)))
  case body =>
    change wpAny (model X.prog X.w) X.A.in1.in1 (Builtin.«list.sort» ⟨[.ref D], [(Str.ofString "key", .ref f)]⟩) _ _ _
    rw [PyProof.Rows.ksk_t1]
    refine PyProof.Rows.ksk_sort (kz := es0.map fun e => keyK e.1) (s := { s with heap := h1.push (seqObj "list" acc.toList.toArray 0), toks := tk }) F N hoL hLD hbD rest_ne (by rw [List.length_map, hal]) (by rw [hal, ← hle]; exact h64) ?turn fun h' tk' out c F' N' kout => ⟨_, rfl, ?fin⟩
    case turn =>
      intro i v kk hv hkk h2 tk2 own F2 N2
      have kept : ∀ b o, b ≠ X.env.locals → b ≠ D → (h1.push (seqObj "list" acc.toList.toArray 0)).get? b = some o → h2.get? b = some o := kept_of_news I2.bk F2 fun p hp => N2 p (List.mem_append_left _ hp)
      have keptT : ∀ b u o, H b = some u → h1.get? b = some o → h2.get? b = some o := fun b u o e e1 => kept b o (neL b u e) (neD b o e1) (kpush b o e1)
      rw [hacc2, List.getElem?_map] at hv
      obtain ⟨e, he, rfl⟩ := Option.map_eq_some_iff.mp hv
      rw [List.getElem?_map, he] at hkk
      have hkk : keyK e.1 = kk := Option.some.inj hkk
      have hi : i < kvs.length := by rw [hle]; exact (List.getElem?_eq_some_iff.mp he).1
      obtain ⟨e', he', h1e, h2e, _⟩ := paired_get pr (List.getElem?_eq_getElem hi)
      rw [he] at he'
      have he' := (Option.some.inj he').symm
      subst he'
      obtain ⟨a, b, ek, ha, hb0, hb⟩ := hok _ (List.getElem_mem hi)
      rw [ek] at h2e
      rw [h1e.symm.trans ek] at hkk
      have hkk : keyI a b = kk := hkk
      subst hkk
      obtain ⟨_, its, rv, o3, e3, r3⟩ := (show ObjOk X.prog X.w H s.heap _ (.tup [.int a, .int b]) from I.hok _ _ h2e)
      obtain ⟨u1, u2, rfl, ⟨ta, rfl⟩, ⟨tb, rfl⟩⟩ := vals2 rv
      have ht2 : IsTup h2 _ #[.int a ta, .int b tb] := ⟨o3, keptT _ _ _ h2e (hk1 _ _ e3), r3⟩
      have hfo : s.heap.get? f = some (PySem.W.kla_obj "<lambda>" q params (kbody x p1 p2 p3 p4 p5 p6 p7 p8 p9 p10 p11 j1 j2 j3 j4) scope [] pm c' ctv) := (I.hok f _ hf).1
      obtain ⟨⟨oc, vs, t4, hoc, hdc, hvc⟩, _, _⟩ := I.hok c' _ hc
      refine key_call (s := { s with heap := h2, toks := tk2 }) (show X.A.in1.in1.depth < recursionLimit from hr.depth) (keptT _ _ _ hf (hk1 _ _ hfo)) ⟨c', oc, vs, t4, rfl, keptT _ _ _ hc (hk1 _ _ hoc), hdc, hvc⟩ (I.mod.nolimit.keeps F2.keep) ht2 ha hb0 hb (hbind _ _ _ _) hco hgen hk hcell hx hdb fun h3 tk3 t3 kp3 => ?_
      exact ⟨h3, tk3, t3, rfl, rfl, F2.kept kp3, N2.grown kp3⟩
    case fin =>
      have kept : ∀ b o, b ≠ X.env.locals → b ≠ D → (h1.push (seqObj "list" acc.toList.toArray 0)).get? b = some o → h'.get? b = some o := kept_of_news I2.bk F' fun p hp => N' p (List.mem_cons_of_mem _ hp)
      have keep1 : ∀ b o, b ≠ X.env.locals → h1.get? b = some o → h'.get? b = some o := fun b o n e => kept b o n (neD b o e) (kpush b o e)
      obtain ⟨ps, hperm, hout, hsorted⟩ := kout
      have ezip : (es0.map fun e => keyK e.1).zip acc.toList = es0.map fun e => (keyK e.1, Value.ref e.2.1) := by
        rw [hacc2, zip_maps]
      rw [ezip] at hperm
      obtain ⟨ys0, hp0, rfl⟩ := perm_map_inv hperm
      have hout : out.toList = ys0.map fun e => Value.ref e.2.1 := by rw [hout, List.map_map]; rfl
      have hD' : h'.get? D = some (seqObj "list" out c) := (N' _ List.mem_cons_self).1
      have hlen : (ys0.map fun e => V.ref e.2.1).length ≤ sizeLine := by
        rw [List.length_map, hp0.length_eq, ← hle, sizeLine_eq]
        omega
      have nD : ∀ b u, H b = some u → b ≠ D := fun b u e => ne_of_none e hDn
      have J : Inv X pins σ (upd H D (.lst (ys0.map fun e => V.ref e.2.1))) { ({ s with heap := h1, toks := tk } : Shared) with heap := h', gens := s.gens, drawn := s.drawn, toks := tk' } := by
        refine I1.step (g' := s.gens) (d' := s.drawn) (t' := tk') (ch := []) (fun _ z => nomatch z) (fun b o nL _ _ e _ => keep1 b o nL e) (fun b o nL _ _ e _ => ⟨o.slots, keep1 b o nL e⟩) (fun b o _ e n => by rw [upd_ne (neD b o e)]; exact n)
          (fun b o _ e => ?_) (fun b xs e => by rw [upd_ne (nD b _ e)]; exact e) (fun b o u e => by rw [upd_ne (nD b _ e)]; exact e) (fun b ps e => ⟨#[], by rw [upd_ne (nD b _ e), e]; simp⟩) (fun m' hm => ?_) (fun b u e => ?_) I1.bare
        · by_cases hb : b = X.env.locals
          · obtain ⟨o', _, _, e', _⟩ := F'.ns
            exact ⟨o', by rw [hb]; exact e'⟩
          · exact ⟨o, keep1 b o hb e⟩
        · have hm2 : (h1.push (seqObj "list" acc.toList.toArray 0)).Ns X.env.locals m' := by
            obtain ⟨o', es', ep', e', r'⟩ := hm
            exact ⟨o', es', ep', kpush _ _ e', r'⟩
          rw [SlX.ns_only hm2 F.ns]
          exact F'.ns
        · by_cases hb : b = D
          · subst hb
            rw [upd_same] at e
            cases e
            refine ⟨hlen, ys0.map fun e => Value.ref e.2.1, c, vals_refs _ ys0, ?_⟩
            rw [hD', ← hout]
          · rw [upd_ne hb] at e
            refine (I1.hok b u e).stay (fun b' v hb' e' => keep1 b' v ?_ e') (fun b' e' => by rw [upd_ne (nD b' _ e')]; exact e') (fun b' xs e' => by rw [upd_ne (nD b' _ e')]; exact e')
            rcases hb' with rfl | hb'
            · exact neL _ _ e
            · exact neL _ _ hb'
      refine wpAny_pure ⟨_, rfl, .ref D, _, J, rfl, ?_⟩
      have fin := qq (ys0.map fun e => (e.1, e.2.1)) D ?_ ?_ ?_ hDn
      · rw [List.map_map] at fin
        exact fin
      · rw [List.map_map]
        have e1 : kvs.map (·.1) = es0.map (·.1) := paired_map pr fun a b z => z.1
        rw [e1]
        exact hp0.map _
      · intro y hy
        obtain ⟨e, he, rfl⟩ := List.mem_map.mp hy
        obtain ⟨kv, _, z1, z2, _⟩ := paired_mem pr e (hp0.mem_iff.mp he)
        rw [z1] at z2
        exact z2
      · rw [List.pairwise_map] at hsorted ⊢
        exact hsorted.imp fun {a b} z => by simpa using z
end
end Nr
namespace Nr
open PySem PySem.Spec PyProof.Rows L2 Evl
open LamX (TabS TabB CodeO ExtN)

/-- a lambda that captures nothing, as a value: its code object is made once, and told by the table at P -/
def tLamV (P : Addr) (q : Str) (params : Arguments) (body : Expr) (scope : Scope) : TE := fun σ H Q => TabS H P q ∧ ∀ (f c' : Addr) (pm ctv : Value) (G : Hp), ExtN H G → TabS G P q → G f = none → G c' = some (CodeO c' q) →
  Q (.ref f) (upd G f (LamO f (PySem.W.kla_obj "<lambda>" q params body scope [] pm c' ctv)))
theorem pe_lam {X : Cx} {c P : Addr} {params : Arguments} {body : Expr} {scope : Scope} {pos : Pos} (TB : TabB X.base X.mg c P) (hcode : X.env.code = .ref c) (hdef : defaultsOf params X.env = ([], [])) (hclo : closureFor scope X.env = pure []) :
    PE X (.Lambda params body scope pos) (tLamV P (X.env.qual ++ "<lambda>") params body scope) := by
  refine ⟨fun pins s σ H Q I h => ?_⟩
  obtain ⟨⟨ps, hP, ht, told⟩, h⟩ := h
  refine PySem.W.kla_eval hdef ?_
  have hPo : s.heap.get? P = some { cls := .none, data := .fields ps } := I.hok P _ hP
  cases hcm : codeAmong pos ps.toList with
  | none =>
    refine PySem.W.kla_makeFunction (mg := X.mg) (c := c) (P := P) (ps := ps) hclo I.ok.glob (I.mod.glob.keeps I.bk) hcode (TB.code.keeps I.bk) hPo ht hcm TB.gP (TB.bm.keeps I.bk) fun c' ctv h' tk kept hge hlt hrec htab => ?_
    obtain ⟨c2, oc, vs, t, e2, hoc, hdc, hvc⟩ := hrec
    cases e2
    have nC : H c' = none := I.hok.fresh hge
    have nPc : P ≠ c' := ne_of_none hP nC
    have J := LamX.inv_table (t' := tk) (q := X.env.qual ++ "<lambda>") (more := #[rawInt pos.line, rawInt pos.col, .ref c']) I hP kept htab hge ⟨oc, vs, t, hoc, hdc, hvc⟩
    have hE : ExtN H (upd (upd H P (.tbl (ps ++ #[rawInt pos.line, rawInt pos.col, .ref c']))) c' (CodeO c' (X.env.qual ++ "<lambda>"))) := fun b o e n => by
      have hbP : b ≠ P := fun z => n ps (by rw [z, hP] at e; exact (Option.some.inj e).symm)
      rw [upd_ne (ne_of_none e nC), upd_ne hbP]
      exact e
    have hTab : TabS (upd (upd H P (.tbl (ps ++ #[rawInt pos.line, rawInt pos.col, .ref c']))) c' (CodeO c' (X.env.qual ++ "<lambda>"))) P (X.env.qual ++ "<lambda>") := by
      have eL : (ps ++ #[rawInt pos.line, rawInt pos.col, .ref c']).toList = ps.toList ++ [rawInt pos.line, rawInt pos.col, .ref c'] := by simp
      refine ⟨_, by rw [upd_ne nPc, upd_same], by rw [eL]; exact PySem.TriplesOk_snoc _ _ _ _ ht, fun p' cv hcv => ?_⟩
      rw [eL] at hcv
      rcases LamX.among_app _ ht hcv with z | z
      · obtain ⟨c0, e1, e2⟩ := told p' cv z
        exact ⟨c0, e1, hE _ _ e2 LamX.codeO_ne⟩
      · exact ⟨c', z, upd_same⟩
    have hGc := upd_same (H := upd H P (.tbl (ps ++ #[rawInt pos.line, rawInt pos.col, .ref c']))) (a := c') (o := CodeO c' (X.env.qual ++ "<lambda>"))
    generalize upd (upd H P (.tbl (ps ++ #[rawInt pos.line, rawInt pos.col, .ref c']))) c' (CodeO c' (X.env.qual ++ "<lambda>")) = G at J hE hTab hGc
    have hfn : G h'.objs.size = none := J.hok.fresh (Nat.le_refl _)
    refine ⟨.ref h'.objs.size, _, J.laid (t' := tk) (fun b o e => Heap.get?_push_of_some _ e) (Nat.le_refl _) (lamO_ok (Heap.get?_push_size _ rfl)), rfl, h _ c' _ ctv G hE hTab hfn hGc⟩
  | some cv =>
    obtain ⟨c', rfl, hco⟩ := told pos cv hcm
    refine PySem.W.kla_makeFunctionHit (mg := X.mg) (c := c) (P := P) (ps := ps) hclo I.ok.glob (I.mod.glob.keeps I.bk) hcode (TB.code.keeps I.bk) hPo ht hcm (TB.bm.keeps I.bk) fun ctv h' tk kept hsz => ?_
    have J : Inv X pins σ H { s with heap := h', toks := tk } := I.kept kept
    refine ⟨.ref h'.objs.size, _, J.laid (t' := tk) (fun b o e => Heap.get?_push_of_some _ e) (Nat.le_refl _) (lamO_ok (Heap.get?_push_size _ rfl)), rfl, h _ c' _ ctv H (ExtN.refl H) ⟨ps, hP, ht, told⟩ (J.hok.fresh (Nat.le_refl _)) hco⟩
end Nr
namespace Nr
open PySem PySem.Spec PyProof.Rows L2 Evl
open LamX (TabS TabB CodeO ExtN)

/-! {k: v}, k a pair -/
def tDisp1 (tk tv : TE) : TE := fun σ H Q => ∀ p, H p = none → tk σ (upd H p (.dT [])) fun x H1 => tv σ H1 fun y H2 => H2 p = some (.dT []) ∧ ∃ b k, x = .ref b ∧ H2 b = some (.tup (k.map kV)) ∧ Q (.ref p) (upd H2 p (.dT (putK [] k y)))
section
variable {X : Cx} {k v : Expr} {pos : Pos} {tk tv : TE}
theorem pe_disp1 (hu : X.A.units + 1 < cLine) (hk : PE X k tk) (hv : PE X v tv) : PE X (.Dict [some k] [v] pos) (tDisp1 tk tv) := by
  refine ⟨fun pins s σ H Q I q => ?_⟩
  have hn := I.hok.fresh (Nat.le_refl s.heap.objs.size)
  have I1 := I.laid (a := s.heap.objs.size) (o := .dT []) (h' := s.heap.push { cls := .type "dict", data := .dict #[] }) (t' := s.toks) (fun _ _ q => Heap.get?_push_of_some _ q) (Nat.le_refl _) (dt_empty s.heap I.big)
  have hp : (evalEachOpt [some k] X.env).zip ((evalEach [v] X.env).map fun v => do let x ← v; standAt pos; pure x) = (pairTrees [some k] [v] X.env pos).map fun p => (some p.1, p.2) := zip_pairTrees _ _ _ _ rfl rfl
  rw [arm_eval_Dict, hp, dictDisplay_pairs _ (by simp [pairTrees]) (by simp [pairTrees])]
  refine wpAny_bind (wpAny_standAt (wpAny_bind ?_))
  unfold subDict
  refine wpAny_bind (wpAny_alloc ?_)
  refine wpAny_bind (wpAny_holding ?_)
  rw [if_pos (show (pairTrees [some k] [v] X.env pos).length ≤ 15 from by simp [pairTrees])]
  refine wpAny_bind (pairTrees_cons_walk (thn (hk.run pins _ σ _ _ I1 (q _ hn)) fun u s1 ⟨x, H1, I2, rx, q1⟩ => thn (hv.run pins s1 σ H1 _ I2 q1) fun r s2 ⟨y, H2, I3, ry, hD, b, kk, ex, eb, q2⟩ => pairTrees_nil_walk ?_))
  subst ex
  cases (show u = Value.ref b from rx)
  obtain ⟨z, hd, xs, rel, dd⟩ := dt_of I3.hok hD
  cases rel
  refine wpAny_holding ?_
  rw [List.forIn_cons]
  refine wpAny_bind (wpAny_bind (wpAny_bind (wpAny_dictSet_heap (hsz := Nat.zero_le _) (Nat.lt_of_le_of_lt (Nat.le_succ _) hu) (key_of I3.hok eb) dd fun h' dd' hs => ?_)))
  refine wpAny_pure ?_
  dsimp only
  rw [List.forIn_nil]
  refine wpAny_pure (wpAny_pure (wpAny_pure (wpAny_pure ⟨.ref s.heap.objs.size, _, ?_, rfl, q2⟩)))
  obtain ⟨o, es, ep, hq, h2, h3, h4, _, h5⟩ := dd'
  refine d_write I3 (by rw [hD]; exact True.intro) hs ⟨o, hq⟩ ⟨by show (putK [] kk y).length ≤ sizeLine; exact Nat.le_trans (length_putK [] kk y) (by decide), hd, _, (KT.put (H := H2) (kvs := []) (xs := []) .nil kk eb ry).keeps fun c ys ec => ?_, o, es, ep, hq, h2, h3, h4, h5⟩
  rw [upd_ne (ne_of ec hD (fun z => nomatch z))]
  exact ec
end
end Nr
namespace Nr
open PySem PySem.Spec PyProof.Rows L2 Evl
open LamX (TabS TabB CodeO ExtN)

/-! the angles at which a cell begins, in lowest terms -/
abbrev lowP (a b : Nat) : Nat × Nat := (a / Nat.gcd a b, b / Nat.gcd a b)
def rowB (q : Nat × Nat) (j : Nat) : List (Nat × Nat) := ((List.range j).filter (inRow q.1 q.2)).map (fun p => lowP (2 * p - q.1) q.2)
def rawB (n : Nat) (rws : List (Nat × Nat)) : List (Nat × Nat) := (rws.map (fun q => rowB q (n + 1))).flatten
theorem rowB_yes {q : Nat × Nat} {j : Nat} (h : inRow q.1 q.2 j = true) : rowB q (j + 1) = rowB q j ++ [lowP (2 * j - q.1) q.2] := by
  unfold rowB
  rw [List.range_succ, List.filter_append, List.map_append, List.filter_cons, if_pos h]
  rfl
theorem rowB_no {q : Nat × Nat} {j : Nat} (h : inRow q.1 q.2 j = false) : rowB q (j + 1) = rowB q j := by
  unfold rowB
  rw [List.range_succ, List.filter_append, List.map_append, List.filter_cons, if_neg (by rw [h]; decide)]
  simp
theorem rowB_len {whole : Nat} (q : Nat × Nat) (j : Nat) : (rowB q j).length = (rowPre whole q j).length := by
  unfold rowB rowPre
  rw [List.length_map, List.length_map]
theorem rawB_snoc {n : Nat} {rws : List (Nat × Nat)} {q : Nat × Nat} : rawB n (rws ++ [q]) = rawB n rws ++ rowB q (n + 1) := by
  unfold rawB
  rw [List.map_append, List.flatten_append]
  simp
theorem rawB_len {n whole : Nat} : ∀ rws : List (Nat × Nat), (rawB n rws).length = (rawM n whole rws).length
  | [] => rfl
  | q :: l => by
    have ih := rawB_len (n := n) (whole := whole) l
    unfold rawB rawM at ih ⊢
    rw [List.map_cons, List.map_cons, List.flatten_cons, List.flatten_cons, List.length_append, List.length_append, ih, rowB_len (whole := whole)]
theorem lowP_scale {x l m : Nat} (hl : 0 < l) (hm : 0 < m) : lowP (x * m) (l * m) = lowP x l := by
  unfold lowP
  have hg : 0 < Nat.gcd x l := Nat.gcd_pos_of_pos_right _ hl
  rw [Nat.gcd_mul_right, Nat.mul_div_mul_right _ _ hm, Nat.mul_div_mul_right _ _ hm]
theorem foldl_dvd : ∀ (l : List Nat) (m : Nat), m ∣ l.foldl (fun m n => m * n / Nat.gcd m n) m
  | [], m => Nat.dvd_refl m
  | x :: l, m => Nat.dvd_trans (Nat.dvd_lcm_left m x) (foldl_dvd l (m * x / Nat.gcd m x))
theorem foldl_mem_dvd : ∀ (l : List Nat) (m x : Nat), x ∈ l → x ∣ l.foldl (fun m n => m * n / Nat.gcd m n) m
  | [], _, _, h => by cases h
  | y :: l, m, x, h => by
    rcases List.mem_cons.mp h with rfl | h
    · exact Nat.dvd_trans (Nat.dvd_lcm_right m x) (foldl_dvd l (m * x / Nat.gcd m x))
    · exact foldl_mem_dvd l _ x h
theorem turnsF_pos : ∀ (f M b l h : Nat), 0 < l → ∀ q ∈ turnsF f M b l h, 0 < q.2
  | 0, _, _, _, _, _, q, hq => by simp [turnsF] at hq
  | f + 1, M, b, l, h, hl, q, hq => by
    rw [turnsF] at hq
    split at hq
    · rcases List.mem_cons.mp hq with rfl | hq
      · exact hl
      · exact turnsF_pos f M _ _ _ (by omega) q hq
    · cases hq
theorem whole_dvd {n g h : Nat} {q : Nat × Nat} (hq : q ∈ turnsM n g h) : q.2 ∣ wholeM n g h :=
  foldl_mem_dvd _ _ _ (List.mem_map.mpr ⟨q, hq, rfl⟩)
theorem whole_pos {n g h : Nat} (hg : 0 < g) : 0 < wholeM n g h := lcm_pos _ _ (by decide) fun x hx => by
  obtain ⟨q, hq, rfl⟩ := List.mem_map.mp hx
  exact turnsF_pos _ _ _ _ _ hg q hq
def brkM (n g h : Nat) : List (Nat × Nat) := (topsM n g h).map fun t => lowP t (wholeM n g h)
theorem mem_rawB {n : Nat} {rws : List (Nat × Nat)} {p : Nat × Nat} : p ∈ rawB n rws ↔ ∃ q ∈ rws, ∃ c, c < n + 1 ∧ inRow q.1 q.2 c = true ∧ p = lowP (2 * c - q.1) q.2 := by
  unfold rawB rowB
  rw [List.mem_flatten]
  constructor
  · rintro ⟨l, hl, hp⟩
    obtain ⟨q, hq, rfl⟩ := List.mem_map.mp hl
    obtain ⟨c, hc, rfl⟩ := List.mem_map.mp hp
    obtain ⟨h1, h2⟩ := List.mem_filter.mp hc
    exact ⟨q, hq, c, List.mem_range.mp h1, h2, rfl⟩
  · rintro ⟨q, hq, c, h1, h2, rfl⟩
    exact ⟨_, List.mem_map.mpr ⟨q, hq, rfl⟩, List.mem_map.mpr ⟨c, List.mem_filter.mpr ⟨List.mem_range.mpr h1, h2⟩, rfl⟩⟩
theorem mem_rawM {n whole : Nat} {rws : List (Nat × Nat)} {p : Nat} : p ∈ rawM n whole rws ↔ ∃ q ∈ rws, ∃ c, c < n + 1 ∧ inRow q.1 q.2 c = true ∧ p = (2 * c - q.1) * (whole / q.2) := by
  unfold rawM rowPre
  rw [List.mem_flatten]
  constructor
  · rintro ⟨l, hl, hp⟩
    obtain ⟨q, hq, rfl⟩ := List.mem_map.mp hl
    obtain ⟨c, hc, rfl⟩ := List.mem_map.mp hp
    obtain ⟨h1, h2⟩ := List.mem_filter.mp hc
    exact ⟨q, hq, c, List.mem_range.mp h1, h2, rfl⟩
  · rintro ⟨q, hq, c, h1, h2, rfl⟩
    exact ⟨_, List.mem_map.mpr ⟨q, hq, rfl⟩, List.mem_map.mpr ⟨c, List.mem_filter.mpr ⟨List.mem_range.mpr h1, h2⟩, rfl⟩⟩
theorem low_same {n g h : Nat} (hg : 0 < g) {q : Nat × Nat} (hq : q ∈ turnsM n g h) (x : Nat) : lowP (x * (wholeM n g h / q.2)) (wholeM n g h) = lowP x q.2 := by
  have hq0 : 0 < q.2 := turnsF_pos _ _ _ _ _ hg q hq
  obtain ⟨m, hm⟩ := whole_dvd hq
  have hw := whole_pos (n := n) (h := h) hg
  have hm0 : 0 < m := by
    rcases Nat.eq_zero_or_pos m with z | z
    · rw [z, Nat.mul_zero] at hm; omega
    · exact z
  rw [hm, Nat.mul_div_cancel_left _ hq0]
  exact lowP_scale hq0 hm0
theorem mem_brk {n g h : Nat} (hg : 0 < g) {p : Nat × Nat} : p ∈ brkM n g h ↔ p ∈ (0, 1) :: rawB n (turnsM n g h) := by
  have hw := whole_pos (n := n) (h := h) hg
  have h0 : lowP 0 (wholeM n g h) = (0, 1) := by
    unfold lowP
    rw [Nat.gcd_zero_left, Nat.zero_div, Nat.div_self hw]
  unfold brkM
  rw [List.mem_map, List.mem_cons, mem_rawB]
  constructor
  · rintro ⟨t, ht, rfl⟩
    rcases List.mem_cons.mp ((sortU_mem _ _).mp ht) with rfl | ht
    · exact .inl h0
    · obtain ⟨q, hq, c, h1, h2, rfl⟩ := mem_rawM.mp ht
      exact .inr ⟨q, hq, c, h1, h2, low_same hg hq _⟩
  · rintro (rfl | ⟨q, hq, c, h1, h2, rfl⟩)
    · exact ⟨0, (sortU_mem _ _).mpr List.mem_cons_self, h0⟩
    · exact ⟨_, (sortU_mem _ _).mpr (List.mem_cons_of_mem _ (mem_rawM.mpr ⟨q, hq, c, h1, h2, rfl⟩)), low_same hg hq _⟩
theorem key_low {t W : Nat} (hW : 0 < W) : keyI ((lowP t W).1 : Nat) ((lowP t W).2 : Nat) = ((t * 1000000000 / W : Nat) : Int) := by
  unfold keyI lowP
  have hg : 0 < Nat.gcd t W := Nat.gcd_pos_of_pos_right _ hW
  obtain ⟨a, ha⟩ := Nat.gcd_dvd_left t W
  obtain ⟨b, hb⟩ := Nat.gcd_dvd_right t W
  have e1 : t / Nat.gcd t W = a := by
    rw [Nat.div_eq_iff_eq_mul_left hg (Nat.gcd_dvd_left t W), Nat.mul_comm]; exact ha
  have e2 : W / Nat.gcd t W = b := by
    rw [Nat.div_eq_iff_eq_mul_left hg (Nat.gcd_dvd_right t W), Nat.mul_comm]; exact hb
  have e3 : t * 1000000000 / W = a * 1000000000 / b := by
    have h1 : t * 1000000000 = Nat.gcd t W * (a * 1000000000) := by rw [← Nat.mul_assoc, ← ha]
    have h2 : t * 1000000000 / W = Nat.gcd t W * (a * 1000000000) / (Nat.gcd t W * b) := by rw [← h1, ← hb]
    rw [h2, Nat.mul_div_mul_left _ _ hg]
  rw [e1, e2, e3, Int.natCast_ediv, Int.natCast_mul]
  rfl
theorem key_up {n g h : Nat} (hn : n ≤ 24) (hg : 4 ≤ g) (hg2 : g ≤ 16) (hh : h ≤ 8) : (brkM n g h).Pairwise fun u v => keyI (u.1 : Nat) (u.2 : Nat) < keyI (v.1 : Nat) (v.2 : Nat) := by
  have hw := whole_pos (n := n) (g := g) (h := h) (by omega)
  have hw6 := (ok_at6 hn hg hg2 hh).1
  unfold brkM
  rw [List.pairwise_map]
  refine (sortU_up _).imp fun {a b} lt => ?_
  rw [key_low hw, key_low hw]
  have h1 : a * 1000000000 + wholeM n g h ≤ b * 1000000000 := by omega
  have h2 : a * 1000000000 / wholeM n g h + 1 ≤ b * 1000000000 / wholeM n g h := by
    rw [← Nat.add_div_right _ hw]
    exact Nat.div_le_div_right h1
  omega
/-- two lists of the same members, the one rising by a key, the other too -/
theorem sorted_key {α : Type} {key : α → Int} : ∀ {l m : List α}, l.Perm m → l.Pairwise (fun u v => key u ≤ key v) → m.Pairwise (fun u v => key u < key v) → l = m
  | [], m, h, _, _ => h.symm.eq_nil.symm
  | x :: l, m, h, s1, s2 => by
    cases m with
    | nil => exact h.eq_nil
    | cons y m =>
      have p1 := List.pairwise_cons.mp s1
      have p2 := List.pairwise_cons.mp s2
      have e : x = y := by
        rcases List.mem_cons.mp (h.mem_iff.mp List.mem_cons_self) with e | hx
        · exact e
        · rcases List.mem_cons.mp (h.symm.mem_iff.mp List.mem_cons_self) with e | hy
          · exact e.symm
          · have a := p1.1 y hy
            have b := p2.1 x hx
            omega
      subst e
      rw [sorted_key (List.Perm.cons_inv h) p1.2 p2.2]
theorem nodup_of_key {α : Type} {key : α → Int} {m : List α} (h : m.Pairwise (fun u v => key u < key v)) : m.Nodup := h.imp fun {a b} lt e => by
  subst e
  omega
theorem perm_of_mem {α : Type} {l m : List α} (h1 : l.Nodup) (h2 : m.Nodup) (h : ∀ x, x ∈ l ↔ x ∈ m) : l.Perm m := (List.perm_ext_iff_of_nodup h1 h2).mpr h
abbrev pk (p : Nat × Nat) : List Key := [.inl (p.1 : Int), .inl (p.2 : Int)]
theorem pk_inj {p q : Nat × Nat} (h : pk p = pk q) : p = q := by
  injection h with h1 h2
  injection h2 with h2 _
  injection h1 with h1
  injection h2 with h2
  exact Prod.ext (Int.ofNat.inj h1) (Int.ofNat.inj h2)
open Classical in
theorem putK_keys {kvs : List (List Key × V)} {k : List Key} {v : V} : (putK kvs k v).map (·.1) = if k ∈ kvs.map (·.1) then kvs.map (·.1) else kvs.map (·.1) ++ [k] := by
  unfold putK
  have e : (kvs.any fun kv => decide (kv.1 = k)) = true ↔ k ∈ kvs.map (·.1) := by
    rw [List.any_eq_true, List.mem_map]
    constructor
    · rintro ⟨x, hx, hk⟩
      exact ⟨x, hx, of_decide_eq_true hk⟩
    · rintro ⟨x, hx, hk⟩
      exact ⟨x, hx, decide_eq_true hk⟩
  by_cases h : k ∈ kvs.map (·.1)
  · rw [if_pos (e.mpr h), if_pos h, List.map_map]
    refine List.map_congr_left fun x _ => ?_
    show (if x.1 = k then (x.1, v) else x).1 = x.1
    split <;> rfl
  · rw [if_neg (fun z => h (e.mp z)), if_neg h, List.map_append]
    rfl
/-- what stands in the dict: the members of S -/
structure Brk (kvs : List (List Key × V)) (S : List (Nat × Nat)) : Prop where
  nd : (kvs.map (·.1)).Nodup
  mem : ∀ k, k ∈ kvs.map (·.1) ↔ ∃ p ∈ S, k = pk p
  len : kvs.length ≤ S.length
theorem Brk.put {kvs : List (List Key × V)} {S : List (Nat × Nat)} {p : Nat × Nat} {v : V} (b : Brk kvs S) : Brk (putK kvs (pk p) v) (S ++ [p]) := by
  refine ⟨?_, fun k => ?_, ?_⟩
  · rw [putK_keys]
    split
    · exact b.nd
    · rename_i h
      refine List.nodup_append.mpr ⟨b.nd, by simp, fun x hx y hy => ?_⟩
      rw [List.mem_singleton.mp hy]
      exact fun e => h (e ▸ hx)
  · rw [putK_keys]
    constructor
    · intro hk
      have : k ∈ kvs.map (·.1) ∨ k = pk p := by
        split at hk
        · exact .inl hk
        · rcases List.mem_append.mp hk with h | h
          · exact .inl h
          · exact .inr (List.mem_singleton.mp h)
      rcases this with h | h
      · obtain ⟨q, hq, e⟩ := (b.mem k).mp h
        exact ⟨q, List.mem_append_left _ hq, e⟩
      · exact ⟨p, List.mem_append_right _ (List.mem_singleton.mpr rfl), h⟩
    · rintro ⟨q, hq, rfl⟩
      rcases List.mem_append.mp hq with hq | hq
      · have := (b.mem (pk q)).mpr ⟨q, hq, rfl⟩
        split
        · exact this
        · exact List.mem_append_left _ this
      · rw [List.mem_singleton.mp hq]
        split
        · assumption
        · exact List.mem_append_right _ (List.mem_singleton.mpr rfl)
  · have := length_putK kvs (pk p) v
    have := b.len
    rw [List.length_append, List.length_cons, List.length_nil]
    omega
theorem brk_one {v : V} : Brk (putK [] (pk (0, 1)) v) [(0, 1)] := by
  have : Brk ([] : List (List Key × V)) [] := ⟨.nil, fun k => by simp, Nat.le_refl _⟩
  exact this.put
theorem brk_sorted {n g h : Nat} (hn : n ≤ 24) (hg : 4 ≤ g) (hg2 : g ≤ 16) (hh : h ≤ 8) {kvs : List (List Key × V)} (b : Brk kvs ((0, 1) :: rawB n (turnsM n g h))) {ys : List (List Key × Addr)} (hp : (ys.map (·.1)).Perm (kvs.map (·.1)))
    (hs : ys.Pairwise fun u v => keyK u.1 ≤ keyK v.1) : ys.map (·.1) = (brkM n g h).map pk := by
  have up := key_up hn hg hg2 hh
  refine sorted_key (key := keyK) (hp.trans (perm_of_mem b.nd ?_ fun k => ?_)) (List.pairwise_map.mpr hs) ?_
  · refine List.pairwise_map.mpr ((nodup_of_key (key := fun p : Nat × Nat => keyI (p.1 : Nat) (p.2 : Nat)) up).imp fun {a b} ne e => ne (pk_inj e))
  · rw [b.mem k, List.mem_map]
    constructor
    · rintro ⟨p, h1, rfl⟩
      exact ⟨p, (mem_brk (by omega)).mpr h1, rfl⟩
    · rintro ⟨p, h1, rfl⟩
      exact ⟨p, (mem_brk (by omega)).mp h1, rfl⟩
  · exact List.pairwise_map.mpr up
end Nr
namespace Nr
open PySem PySem.Spec PyProof.Rows L2 Evl
open LamX (TabS TabB CodeO ExtN)

/-! what stays where all but the tables stays -/
section
variable {K : PySem.W.Frag} {H H' : Hp}
theorem exn_t {a : Addr} {xs : List V} (e : ExtN H H') (h : SqT K H a xs) : SqT K H' a xs := by
  rcases h with (h | ⟨o, h⟩) | h
  · exact .inl (.inl (e _ _ h (fun _ z => by cases z)))
  · exact .inl (.inr ⟨o, e _ _ h (fun _ z => by cases z)⟩)
  · exact .inr h
theorem exn_l {a : Addr} {xs : List V} (e : ExtN H H') (h : SqL K H a xs) : SqL K H' a xs := by
  rcases h with (h | ⟨o, h⟩) | h
  · exact .inl (.inl (e _ _ h (fun _ z => by cases z)))
  · exact .inl (.inr ⟨o, e _ _ h (fun _ z => by cases z)⟩)
  · exact .inr h
mutual
theorem dp_exN (e : ExtN H H') : ∀ (d : PyData) (v : V), Dp K H v d → Dp K H' v d
  | .none, _, h => by cases h; exact .non
  | .bool b, _, h => by cases h; exact .bl b
  | .int i, _, h => by cases h; exact .int i
  | .str x, _, h => by cases h; exact .str x
  | .list ds, _, h => by
    cases h with
    | lst hs ha => exact .lst (exn_l e hs) (dpa_exN e ds _ ha)
  | .tuple ds, _, h => by
    cases h with
    | tup hs ha => exact .tup (exn_t e hs) (dpa_exN e ds _ ha)
  | .dict _, _, h => by cases h
theorem dpa_exN (e : ExtN H H') : ∀ (ds : List PyData) (vs : List V), DpAll K H vs ds → DpAll K H' vs ds
  | [], _, h => by cases h; exact .nil
  | d :: ds, _, h => by
    cases h with
    | cons h1 h2 => exact .cons (dp_exN e d _ h1) (dpa_exN e ds _ h2)
end
theorem exn_of (e : Ex H H') : ExtN H H' := fun b o h _ => e b o h
theorem dpa_keys : ∀ {ys : List (List Key × Addr)} {bs : List (Nat × Nat)}, ys.map (·.1) = bs.map pk → (∀ y ∈ ys, H y.2 = some (.tup (y.1.map kV))) → DpAll K H (ys.map fun y => V.ref y.2) (bs.map td)
  | [], [], _, _ => .nil
  | [], _ :: _, e, _ => by simp at e
  | _ :: _, [], e, _ => by simp at e
  | y :: ys, b :: bs, e, h => by
    rw [List.map_cons, List.map_cons] at e
    injection e with e1 e2
    have h1 := h y List.mem_cons_self
    rw [e1] at h1
    exact .cons (.tup (st_of h1) (.cons (.int _) (.cons (.int _) .nil))) (dpa_keys e2 fun z hz => h z (List.mem_cons_of_mem _ hz))
end
theorem tops_lt {n g h t : Nat} (hg : 0 < g) (ht : t ∈ topsM n g h) : t < wholeM n g h := by
  have hw := whole_pos (n := n) (h := h) hg
  rcases List.mem_cons.mp ((sortU_mem _ _).mp ht) with rfl | ht
  · exact hw
  · obtain ⟨q, hq, c, h1, h2, rfl⟩ := mem_rawM.mp ht
    have hq0 : 0 < q.2 := turnsF_pos _ _ _ _ _ hg q hq
    have hd := Nat.div_pos (Nat.le_of_dvd hw (whole_dvd hq)) hq0
    have hlt : 2 * c - q.1 < q.2 := by
      unfold inRow at h2
      rw [Bool.and_eq_true, decide_eq_true_eq, decide_eq_true_eq] at h2
      omega
    have h3 : (2 * c - q.1) * (wholeM n g h / q.2) < q.2 * (wholeM n g h / q.2) := Nat.mul_lt_mul_of_pos_right hlt hd
    have h4 := Nat.mul_div_le (wholeM n g h) q.2
    omega
theorem rawB_le {n : Nat} : ∀ rws : List (Nat × Nat), (rawB n rws).length ≤ rws.length * (n + 1)
  | [] => Nat.zero_le _
  | q :: l => by
    have ih := rawB_le (n := n) l
    have : (rowB q (n + 1)).length ≤ n + 1 := by
      unfold rowB
      rw [List.length_map]
      exact Nat.le_trans (List.length_filter_le _ _) (by rw [List.length_range]; exact Nat.le_refl _)
    unfold rawB at ih ⊢
    rw [List.map_cons, List.flatten_cons, List.length_append, List.length_cons, Nat.add_mul, Nat.one_mul]
    omega
theorem rowB_le (q : Nat × Nat) (j : Nat) : (rowB q j).length ≤ j := by
  unfold rowB
  rw [List.length_map]
  exact Nat.le_trans (List.length_filter_le _ _) (by rw [List.length_range]; exact Nat.le_refl _)

/-- sorted(e, key=lambda x: x[0] * 10 ** 9 // x[1]) -/
theorem pe_sortLam {X : Cx} {x : Str} {params : Arguments} {scope : Scope} {p1 p2 p3 p4 p5 p6 p7 p8 p9 p10 p11 lpos kpos pos p : Pos} {j1 j2 j3 j4 k : Nat} {e : Expr} {ta : TA} {c T : Addr} (hr : Room k X.A) (hcalm : X.calm = true) (hg : Gl X "sorted") (ms : X.mg "sorted" = none) (ha : PA X [e] ta)
    (TB : TabB X.base X.mg c T) (hcode : X.env.code = .ref c)
    (hdef : defaultsOf params X.env = ([], []) := by rfl) (hclo : closureFor scope X.env = pure [] := by rfl)
    (hbind : ∀ (q : Str) (pm cv ctv : Value) (t : Addr), bindArgs (PySem.W.kla_fn "<lambda>" q params (kbody x p1 p2 p3 p4 p5 p6 p7 p8 p9 p10 p11 j1 j2 j3 j4) scope [] pm cv ctv) ⟨[.ref t], []⟩ = pure [(x, .ref t)] := by intros; rfl)
    (hco : scope.isCoroutine = false := by rfl) (hgen : scope.isGenerator = false := by rfl) (hk : scope.kind = .function := by rfl) (hcell : ∀ y ∈ scope.names, y.2 ≠ .cell := by decide) (hx : scope.names.lookup x = some .local := by rfl) (hdb : (x == ("__debug__" : Str)) = false := by decide)
    (hst : backTo pos (starEach [e] X.env) = (false, eval e X.env) :: backTo pos (starEach [] X.env) := by rfl) (hpl : (backTo pos (starEach [e] X.env)).any (·.1) = false := by rfl) :
    PE X (.Call (.Name "sorted" p) [e] [⟨some "key", .Lambda params (kbody x p1 p2 p3 p4 p5 p6 p7 p8 p9 p10 p11 j1 j2 j3 j4) scope lpos, kpos⟩] pos)
      (tCKw (rSortLam (X.env.qual ++ "<lambda>") params (kbody x p1 p2 p3 p4 p5 p6 p7 p8 p9 p10 p11 j1 j2 j3 j4) scope) ta (tCons (tLamV T (X.env.qual ++ "<lambda>") params (kbody x p1 p2 p3 p4 p5 p6 p7 p8 p9 p10 p11 j1 j2 j3 j4) scope) tNil)) :=
  pe_callBK (cr_sortLam hr hcalm (fun pm cv ctv t => hbind _ pm cv ctv t) hco hgen hk hcell hx hdb) hg ms boot_sorted ha (pk_cons (pe_lam TB hcode hdef hclo) pk_nil) (by decide) (by decide) hst hpl

/-- a def whose code object stands at c -/
structure FunC (K : PySem.W.Frag) (x qual : Str) (st : Stmt) (f c : Addr) (fd : FuncData) : Prop where
  ex : ∃ (oc : Value) (od : Option Addr) (kV doc pm : Value) (an : Option Addr) (ct : Value) (osl : Array (Option Value)),
    fd = PySem.W.fnOf x qual (defArgs st) (defBody st) (defScope st) .none kV doc pm an (.ref c) ct ∧ K.lookup f = some ⟨oc, od, .func fd, osl⟩ ∧ PySem.W.codeIn K (.ref c) qual = true
  kp : PySem.W.keepIn K (.ref f) = true
section
variable {P : Program} {w : World} {K : PySem.W.Frag} {mg : Str → Option Value} {base : Heap}
theorem FunC.ok {x qual : Str} {st : Stmt} {f c : Addr} {fd : FuncData} {N ps : List Str} {k : Nat} {sp : Sp} (F : FunC K x qual st f c fd) (S : FnScope N ps (defScope st)) (len : ∀ vs H Q E, sp vs H Q E → vs.length = ps.length)
    (hbody : ∀ (A : Around) (outer : List Env) (s : Shared) (H : Hp) (vs : List V) (Q : VK) (E : XK), Room k (A.deeper (envOfC qual (defScope st) s.heap.objs.size f (.ref c))) → sp vs H Q E →
      ∃ t, PSs (cxOf CX0 P w K mg base N qual (defScope st) f (.ref c) A outer s H E).nox (defBody st) t ∧ t { nx := fun _ H' => Q .non H', rt := Q } (start N vs) H) : FnOk P w K mg base CX0 (k + 1) f fd ps sp := by
  obtain ⟨oc, od, kV, doc, pm, an, ct, osl, rfl, lk, hcd⟩ := F.ex
  refine fn_of lk hcd S len fun A outer s H vs Q E hr hsp => ?_
  obtain ⟨t, h, q⟩ := hbody A outer s H vs Q E hr hsp
  exact ⟨t, h.nox, q⟩
theorem FunC.fn {x qual : Str} {st : Stmt} {f c : Addr} {fd : FuncData} (F : FunC K x qual st f c fd) : Fun K x qual st f fd := by
  obtain ⟨oc, od, kV, doc, pm, an, ct, osl, e, lk, hcd⟩ := F.ex
  exact ⟨⟨oc, od, kV, doc, pm, an, .ref c, ct, osl, e, lk, hcd⟩, F.kp⟩

/-! _law_breaks -/
abbrev sBreaks : Stmt := topS 23
theorem scBreaks : FnScope ["many", "winding", "found", "begin", "length", "cell"] ["many", "winding"] (defScope sBreaks) := ⟨rfl, rfl, rfl, by decide +kernel, rfl, by decide +kernel, by decide +kernel⟩
abbrev lamQ : Str := "_law_breaks" ++ ".<locals>." ++ "<lambda>"
def RetN (K : PySem.W.Frag) (T : Addr) (ds : List PyData) (H : Hp) (Q : VK) : Prop := ∀ p xs H2, ExtN H H2 → TabS H2 T lamQ → H2 p = some (.lst xs) → DpAll K H2 xs ds → Q (.ref p) H2
def spBreaks (K : PySem.W.Frag) (T : Addr) : Sp := fun vs H Q _ => ∃ (n g h e : Nat) (v : V), vs = [.int n, v] ∧ Dp K H v (wD g h e) ∧ n ≤ 24 ∧ 4 ≤ g ∧ g ≤ 16 ∧ h ≤ 8 ∧ TabS H T lamQ ∧ RetN K T ((brkM n g h).map td) H Q
theorem ok_breaks {f c T : Addr} {fd : FuncData} (F : FunC K "_law_breaks" "_law_breaks" sBreaks f c fd) (TB : TabB base mg c T) (ms : mg "sorted" = none) (mr : mg "range" = none)
    {fl : Addr} {fdl : FuncData} (L : Can P w K mg base "_law_lowest" 1 fl fdl ["top", "bottom"] spLow2) : FnOk P w K mg base CX0 2 f fd ["many", "winding"] (spBreaks K T) := by
  refine F.ok scBreaks (fun vs H Q E h => ?_) (fun A outer s H vs Q E hr h => ?_)
  · obtain ⟨n, g, h, e, v, rfl, _⟩ := h
    rfl
  obtain ⟨n, g, h, e, v, rfl, hw, hn, hg, hg2, hh, hT, q⟩ := h
  obtain ⟨wa, rfl, hwq⟩ := wd_get hw
  have hu := hu_of hr
  refine ⟨_, pss_cons (ps_par3 (i := 2) (j := 3) (l := 4) (by rfl) scBreaks.nd rfl rfl rfl (by decide) (by decide) (by decide) rfl rfl rfl (pa_cons (pe_disp1 hu (pe_tup (pa_cons pe_int (pa_cons pe_int pa_nil))) pe_bl) (pa_cons pe_int (pa_cons (pe_ix ix_tup (pv 1) pe_int (fun _ _ => rfl)) pa_nil))) (by rfl))
    (pss_cons (ps_while PassesOwn.never (pt_cmpR op_lt (pv 3) (pe_op op_mul pe_int (pv 0)) (nomark _))
      (pss_cons (ps_for PassesOwn.never rfl (pi_range1 rfl mr (pa_cons (pe_op op_add (pv 0) pe_int) pa_nil)) (pg_name (i := 5) scBreaks.nd rfl (.inl rfl))
        (pss_one (ps_if (pt_chain op_le op_lt (pv 3) (pe_op op_mul pe_int (pv 5)) (pe_op op_add (pv 3) (pv 4)))
          (pss_one (ps_dput hu (pv 2) (pcall L hr (pa_cons (pe_op op_sub (pe_op op_mul pe_int (pv 5)) (pv 3)) (pa_cons (pv 4) pa_nil))) pe_bl rfl)) pss_nil)))
      (pss_one (ps_par (i := 3) (j := 4) (by rfl) scBreaks.nd rfl rfl (by decide) rfl rfl (pa_cons (pe_op op_add (pv 3) (pv 4)) (pa_cons (pe_op op_add (pv 4) (pe_ix ix_tup (pv 1) pe_int (fun _ _ => rfl))) pa_nil)) (by rfl)))))
    (pss_one (ps_ret (pe_sortLam hr (by rfl) (by rfl) ms (pa_cons (pv 2) pa_nil) TB rfl)))), ?_⟩
  refine fun D hD => ⟨by show 2 ≤ sizeLine; decide, fun t0 ht0 => ?_⟩
  have hDt : D ≠ t0 := by
    rintro rfl
    rw [upd_same] at ht0
    cases ht0
  refine ⟨by rw [upd_ne hDt, upd_same], t0, pk (0, 1), rfl, upd_same, ?_⟩
  have ex0 : Ex H (upd (upd (upd H D (.dT [])) t0 (.tup [.int 0, .int 1])) D (.dT (putK [] (pk (0, 1)) (.bl true)))) := Ex.mut ((Ex.new hD).trans (Ex.new ht0)) hD
  have hD0 := upd_same (H := upd (upd H D (.dT [])) t0 (.tup [.int 0, .int 1])) (a := D) (o := .dT (putK [] (pk (0, 1)) (.bl true)))
  revert ex0 hD0
  generalize upd (upd (upd H D (.dT [])) t0 (.tup [.int 0, .int 1])) D (.dT (putK [] (pk (0, 1)) (.bl true))) = H0
  intro ex0 hD0
  refine ⟨.ref wa, rfl, wa, _, _, vi g, rfl, rfl, ex_t ex0 hwq, atI_nat (j := 0) rfl, .ref D, .int 0, vi g, rfl, ?_⟩
  refine q_while (fun m σ' H' => ∃ (bg l fu : Nat) (pre : List (Nat × Nat)) (y5 : Option V) (kvs : List (List Key × V)), σ' = [some (vi n), some (.ref wa), some (.ref D), some (vi bg), some (vi l), y5] ∧
    turnsM n g h = pre ++ turnsF fu (2 * n) bg l h ∧ 2 * n - bg ≤ fu ∧ 2 ≤ l ∧ l ≤ g + bg * h ∧ m = 2 * n - bg ∧ Ex H H' ∧ H' D = some (.dT kvs) ∧ Brk kvs ((0, 1) :: rawB n pre)) (2 * n)
    ⟨0, g, 2 * n, [], none, _, rfl, rfl, by omega, by omega, by omega, by omega, ex0, hD0, brk_one⟩ ?_
  rintro m σ' H' ⟨bg, l, fu, pre, y5, kvs, rfl, hTu, hfu, hl2, hlg, rfl, ex, hDx, hB⟩
  refine ⟨_, et_test (ev_op (ev_var rfl) (ev_op ev_c (ev_var rfl) (rv_I (.inl ⟨by decide, by decide⟩))) rv_I0), fun hbb H1 e1 => ?_, fun hbb H1 e1 => ?_⟩
  · have hbg : bg < 2 * n := by
      simp at hbb
      omega
    obtain ⟨fu, rfl⟩ : ∃ k, fu = k + 1 := ⟨fu - 1, by omega⟩
    rw [turnsF, if_pos hbg] at hTu
    have hprelen : pre.length ≤ 48 := by
      have l2 := congrArg List.length hTu
      have l3 := turnsF_len (2 * n) (2 * n) 0 g h
      rw [List.length_append] at l2
      unfold turnsM at l2
      omega
    have hlb : l ≤ 100000 := by
      have : bg * h ≤ 62 * 1000 := Nat.mul_le_mul (by omega) (by omega)
      omega
    have hraw : (rawB n pre).length ≤ 1200 := by
      have h1 := rawB_le (n := n) pre
      have h2 : pre.length * (n + 1) ≤ 48 * 25 := Nat.mul_le_mul hprelen (by omega)
      omega
    have exx := ex.trans e1
    obtain ⟨b0, eb0⟩ : ∃ b0, b0 = bg := ⟨bg, rfl⟩
    rw [show 2 * n - bg = 2 * n - b0 by rw [eb0]]
    refine ⟨fun σ2 H2 => ∃ (bg l fu : Nat) (pre : List (Nat × Nat)) (y5 : Option V) (kvs : List (List Key × V)), σ2 = [some (vi n), some (.ref wa), some (.ref D), some (vi bg), some (vi l), y5] ∧
      turnsM n g h = pre ++ turnsF fu (2 * n) bg l h ∧ 2 * n - bg ≤ fu ∧ 2 ≤ l ∧ l ≤ g + bg * h ∧ 2 * n - bg < 2 * n - b0 ∧ Ex H H2 ∧ H2 D = some (.dT kvs) ∧ Brk kvs ((0, 1) :: rawB n pre), ?_, ?_⟩
    · rintro σ2 H2 ⟨a1, a2, a3, a4, a5, a6, h1, h2, h3, h4, h5, h6, h7, h8, h9⟩
      exact ⟨_, h6, a1, a2, a3, a4, a5, a6, h1, h2, h3, h4, h5, rfl, h7, h8, h9⟩
    refine q_forR1 (n := (n : Int) + 1) (ea_cons (ev_op (ev_var rfl) ev_c rv_I0) ea_nil) (by omega) (fun j σ' H' => ∃ (y5 : Option V) (kvs : List (List Key × V)), σ' = [some (vi n), some (.ref wa), some (.ref D), some (vi bg), some (vi l), y5] ∧ Ex H H' ∧ H' D = some (.dT kvs) ∧ Brk kvs (((0, 1) :: rawB n pre) ++ rowB (bg, l) j))
      (fun H2 e2 => ⟨y5, kvs, rfl, exx.trans e2, e2 _ _ (e1 _ _ hDx), by
        have : rowB (bg, l) 0 = [] := rfl
        rw [this, List.append_nil]
        exact hB⟩) ?_ ?_
    · rintro j σ' H2 hj ⟨y5, kvs, rfl, ex2, hD2, hB2⟩
      have hj' : j ≤ n := by omega
      refine s_when (et_chain (ev_var rfl) (ev_op ev_c (ev_var rfl) (rv_I (.inl ⟨by decide, by decide⟩))) rv_I0 (fun _ => ev_op (ev_var rfl) (ev_var rfl) rv_I0) (fun _ => rv_I0)) (fun hb H3 e3 => ?_) (fun hb H3 e3 => ?_)
      · rw [Bool.and_eq_true, decide_eq_true_eq, decide_eq_true_eq] at hb
        have hin : inRow bg l j = true := by
          unfold inRow
          rw [Bool.and_eq_true, decide_eq_true_eq, decide_eq_true_eq]
          omega
        have ea : 2 * (j : Int) - (bg : Int) = ((2 * j - bg : Nat) : Int) := by omega
        refine ⟨.ref D, rfl, vi j, rfl, _, _, rfl, rfl, .inl ⟨by decide, by decide⟩, vi bg, rfl, _, _, rfl, rfl, vi l, rfl, 2 * j - bg, l, ?_, by omega, by omega, ?_⟩
        · show [V.int (2 * (j : Int) - (bg : Int)), V.int (l : Int)] = _
          rw [ea]
        · intro t H4 e4 ht
          have hD4 := e4 _ _ (e3 _ _ hD2)
          have hlen : kvs.length < sizeLine := by
            have h1 := hB2.len
            have h2 := rowB_le (bg, l) j
            rw [List.length_append, List.length_cons] at h1
            exact Nat.lt_of_le_of_lt (show kvs.length ≤ 2000 by omega) (by decide)
          refine ⟨D, _, rfl, DPut.t (k := pk (lowP (2 * j - bg) l)) hD4 ht hlen, _, _, rfl, Ex.mut (ex2.trans (e3.trans e4)) hD, upd_same, ?_⟩
          rw [rowB_yes (q := (bg, l)) hin, ← List.append_assoc]
          exact hB2.put
      · have hin : inRow bg l j = false := by
          unfold inRow
          rw [Bool.and_eq_false_iff, decide_eq_false_iff_not, decide_eq_false_iff_not] at hb ⊢
          omega
        refine ⟨_, _, rfl, ex2.trans e3, e3 _ _ hD2, ?_⟩
        rw [rowB_no (q := (bg, l)) hin]
        exact hB2
    · rintro σ' H2 ⟨y5, kvs, rfl, ex2, hD2, hB2⟩
      rw [show ((n : Int) + 1).toNat = n + 1 by omega] at hB2
      refine ⟨vi bg, rfl, vi l, rfl, _, _, rfl, rfl, vi l, rfl, .ref wa, rfl, wa, _, _, vi h, rfl, rfl, ex_t ex2 hwq, atI_nat (j := 1) rfl, _, _, rfl, rfl, _, _, rfl, ?_⟩
      refine ⟨bg + l, l + h, fu, pre ++ [(bg, l)], _, kvs, rfl, ?_, by omega, by omega, ?_, by omega, ex2, hD2, ?_⟩
      · rw [hTu, List.append_assoc]; rfl
      · have : h ≤ l * h := by
          have := Nat.mul_le_mul_right h (show 1 ≤ l by omega)
          omega
        rw [Nat.add_mul]
        omega
      · rw [rawB_snoc]
        exact hB2
  · have hbg : ¬ bg < 2 * n := by
      simp at hbb
      omega
    rw [turnsF_done _ _ _ _ _ hbg, List.append_nil] at hTu
    subst hTu
    have hlen : kvs.length < 64 := by
      have h1 := hB.len
      have h2 := rawB_len (n := n) (whole := wholeM n g h) (turnsM n g h)
      have h3 := (ok_at6 hn hg hg2 hh).2
      rw [List.length_cons] at h1
      omega
    have exx := ex.trans e1
    refine ⟨.ref D, rfl, hT.ext exx, fun fl c' pm ctv G eN tab nf hc => ?_⟩
    have e5 : ∀ o, Ex G (upd G fl o) := fun o => Ex.new nf
    refine ⟨D, fl, c', kvs, pm, ctv, rfl, rfl, e5 _ _ _ (eN _ _ (e1 _ _ hDx) (fun _ z => by cases z)), upd_same, e5 _ _ _ hc, hlen, ?_, fun ys p hp hy hs hpn => ?_⟩
    · intro kv hkv
      obtain ⟨p, hp, ek⟩ := (hB.mem kv.1).mp (List.mem_map.mpr ⟨kv, hkv, rfl⟩)
      have hp' := (mem_brk (by omega)).mpr hp
      obtain ⟨t, ht, rfl⟩ := List.mem_map.mp hp'
      have hw0 := whole_pos (n := n) (g := g) (h := h) (by omega)
      have hw6 := (ok_at6 hn hg hg2 hh).1
      have ht2 := tops_lt (by omega) ht
      have hg0 : 0 < Nat.gcd t (wholeM n g h) := Nat.gcd_pos_of_pos_right _ hw0
      have h1 : t / Nat.gcd t (wholeM n g h) ≤ t := Nat.div_le_self _ _
      have h2 : wholeM n g h / Nat.gcd t (wholeM n g h) ≤ wholeM n g h := Nat.div_le_self _ _
      have h3 : 0 < wholeM n g h / Nat.gcd t (wholeM n g h) := Nat.div_pos (Nat.le_of_dvd hw0 (Nat.gcd_dvd_right _ _)) hg0
      exact ⟨_, _, ek, by show Int.natAbs ((_ : Nat) : Int) < 2 ^ 60; rw [Int.natAbs_natCast]; show t / Nat.gcd t (wholeM n g h) < 2 ^ 60; omega, by show (0 : Int) < ((wholeM n g h / Nat.gcd t (wholeM n g h) : Nat) : Int); omega, by show ((wholeM n g h / Nat.gcd t (wholeM n g h) : Nat) : Int) < 1073741824; omega⟩
    · have e6 := Ex.new (o := .lst (ys.map fun y => V.ref y.2)) hpn
      refine q p _ _ (((exn_of exx).trans eN).trans ((exn_of (e5 _)).trans (exn_of e6))) ((tab.ext (e5 _)).ext e6) upd_same (dpa_ex e6 _ _ (dpa_keys (brk_sorted hn hg hg2 hh hB hp hs) hy))
end
end Nr
namespace Nr
open PySem PySem.Spec PyProof.Rows L2 Evl
open LamX (TabS TabB CodeO ExtN)

theorem placeN_scale {t b m : Nat} (hm : 0 < m) (q : Nat × Nat) : placeN (t * m) (b * m) q = placeN t b q := by
  unfold placeN
  rw [← Nat.mul_assoc q.1, ← Nat.mul_assoc q.2, ← Nat.add_mul, ← Nat.mul_assoc 2, Nat.mul_div_mul_right _ _ hm]
theorem pricks_scale {n g h e t b m : Nat} (hm : 0 < m) : pricksM n g h e (t * m) (b * m) = pricksM n g h e t b := by
  have : placesM n g h (t * m) (b * m) = placesM n g h t b := List.map_congr_left fun q _ => placeN_scale hm q
  unfold pricksM
  rw [this]
theorem pricks_low {n g h e t W : Nat} (hW : 0 < W) : pricksM n g h e (lowP t W).1 (lowP t W).2 = pricksM n g h e t W := by
  have hg : 0 < Nat.gcd t W := Nat.gcd_pos_of_pos_right _ hW
  have := pricks_scale (n := n) (g := g) (h := h) (e := e) (t := (lowP t W).1) (b := (lowP t W).2) hg
  rw [show (lowP t W).1 * Nat.gcd t W = t from Nat.div_mul_cancel (Nat.gcd_dvd_left _ _), show (lowP t W).2 * Nat.gcd t W = W from Nat.div_mul_cancel (Nat.gcd_dvd_right _ _)] at this
  exact this.symm
theorem lowP_self {W : Nat} (hW : 0 < W) : lowP W W = (1, 1) := by
  unfold lowP
  rw [Nat.gcd_self, Nat.div_self hW]
theorem lowP_pos {t W : Nat} (hW : 0 < W) : 0 < (lowP t W).2 := Nat.div_pos (Nat.le_of_dvd hW (Nat.gcd_dvd_right _ _)) (Nat.gcd_pos_of_pos_right _ hW)
theorem brk_next {n g h : Nat} (hg : 0 < g) : (brkM n g h).drop 1 ++ [(1, 1)] = ((topsM n g h).drop 1 ++ [wholeM n g h]).map fun t => lowP t (wholeM n g h) := by
  rw [List.map_append, List.map_drop, List.map_cons, List.map_nil, lowP_self (whole_pos hg)]
  rfl
theorem dpa_drop {K : PySem.W.Frag} {H : Hp} : ∀ {as : List V} {ds : List PyData}, DpAll K H as ds → ∀ k, DpAll K H (as.drop k) (ds.drop k)
  | _, _, h, 0 => h
  | [], _, h, k + 1 => by cases h; exact .nil
  | _ :: _, _, h, k + 1 => by
    cases h with
    | cons h1 h2 => exact dpa_drop h2 k
section
variable {P : Program} {w : World} {K : PySem.W.Frag} {mg : Str → Option Value} {base : Heap}
/-! _law_stretches -/
abbrev sLStr : Stmt := topS 24
theorem scLStr : FnScope ["many", "winding", "marks_v", "found", "first", "last"] ["many", "winding"] (defScope sLStr) := ⟨rfl, rfl, rfl, by decide +kernel, rfl, by decide +kernel, by decide +kernel⟩
def spLStr (K : PySem.W.Frag) (T : Addr) : Sp := fun vs H Q _ => ∃ (n g h e : Nat) (v : V), vs = [.int n, v] ∧ Dp K H v (wD g h e) ∧ n ≤ 24 ∧ 4 ≤ g ∧ g ≤ 16 ∧ h ≤ 8 ∧ e ≤ 1 ∧ TabS H T lamQ ∧ RetN K T (strM n g h e) H Q
theorem ok_lstr {f T : Addr} {fd : FuncData} (F : Fun K "_law_stretches" "_law_stretches" sLStr f fd) (mz : mg "zip" = none) (mt : mg "tuple" = none)
    {fb : Addr} {fdb : FuncData} (B : Can P w K mg base "_law_breaks" 2 fb fdb ["many", "winding"] (spBreaks K T)) {fp : Addr} {fdp : FuncData} (C : Can P w K mg base "_law_pricked" 1 fp fdp ["many", "winding", "angle"] (spLPr K)) :
    FnOk P w K mg base CX0 3 f fd ["many", "winding"] (spLStr K T) := by
  refine F.ok scLStr (fun vs H Q E h => ?_) (fun cdv A outer s H vs Q E hr h => ?_)
  · obtain ⟨n, g, h, e, v, rfl, _⟩ := h
    rfl
  obtain ⟨n, g, h, e, v, rfl, hw, hn, hg, hg2, hh, he, hT, q⟩ := h
  obtain ⟨hwh, hraw⟩ := ok_at6 hn hg hg2 hh
  have hwp : 0 < wholeM n g h := whole_pos (by omega)
  have hlt : (topsM n g h).length ≤ 61 := by
    have := sortU_len (0 :: rawM n (wholeM n g h) (turnsM n g h))
    rw [List.length_cons] at this
    unfold topsM marksM
    omega
  have hlp : 0 < (topsM n g h).length := sortU_pos _ (by simp)
  refine ⟨_, pss_cons (ps_set (i := 2) scLStr.nd rfl (.inl rfl) (pcall B hr (pa_cons (pv 0) (pa_cons (pv 1) pa_nil))))
    (pss_cons (ps_set (i := 3) scLStr.nd rfl (.inl rfl) (pe_lst pa_nil))
    (pss_cons (ps_for PassesOwn.never rfl (pi_zip (by rfl) mz (pa_cons (pv 2) (pa_cons (pe_op op_cat (pe_slice sl_list (pv 2) (po_some pe_int) po_none) (pe_lst (pa_cons (pe_tup (pa_cons pe_int (pa_cons pe_int pa_nil))) pa_nil))) pa_nil)))
        (pg_tup rfl (pgs_cons (pg_name (i := 4) scLStr.nd rfl (.inl rfl)) (pgs_cons (pg_name (i := 5) scLStr.nd rfl (.inl rfl)) pgs_nil)))
      (pss_one (ps_expr (pe_bm PySem.F.plainAttrs_list PySem.F.slot_list_append PySem.F.type_list_append mt_append (pv 3) (pa_cons (pe_tup (pa_cons (pv 4) (pa_cons (pv 5)
        (pa_cons (pe_callTy call_tuple_of (by rfl) mt PyProof.Rows.boot_tuple (pa_cons (pcall C hr (pa_cons (pv 0) (pa_cons (pv 1) (pa_cons (pv 4) pa_nil)))) pa_nil)) pa_nil)))) pa_nil)))))
    (pss_one (ps_ret (pv 3))))), ?_⟩
  -- marks
  refine ⟨vi n, rfl, v, rfl, n, g, h, e, v, rfl, hw, hn, hg, hg2, hh, hT, fun tp mx H4 e4 tab htx hmd => ?_⟩
  have hw4 := dp_exN e4 _ _ hw
  have hml : mx.length = (topsM n g h).length := by
    rw [dpa_len hmd, List.length_map]
    unfold brkM
    rw [List.length_map]
  -- found
  refine ⟨Nat.zero_le _, fun to hto => ?_⟩
  have n1 : tp ≠ to := ne_of_none htx hto
  refine ⟨.ref tp, rfl, .ref tp, rfl, 1, rfl, tp, _, rfl, sq_of (by rw [upd_ne n1]; exact htx), fun c1 hc1 => ?_⟩
  refine ⟨by show 2 ≤ sizeLine; decide, fun o1 ho1 => ?_⟩
  refine ⟨by show 1 ≤ sizeLine; decide, fun c2 hc2 => ?_⟩
  have x5 : Ex H4 (upd H4 to (.lst [])) := Ex.new hto
  have x6 := Ex.new (o := .lst (cutV mx (some 1) none)) hc1
  have x6b := Ex.new (o := .tup [.int 1, .int 1]) ho1
  have x7 := Ex.new (o := .lst [.ref o1]) hc2
  refine ⟨c1, c2, _, _, rfl, rfl, x7 _ _ (x6b _ _ upd_same), upd_same, ?_, fun c3 hc3 => ?_⟩
  · rw [cut_1, List.length_drop, List.length_cons, List.length_nil]
    exact Nat.le_of_lt (small1000 (by omega))
  have x8 := Ex.new (o := .lst (cutV mx (some 1) none ++ [.ref o1])) hc3
  have x58 := ((x6.trans x6b).trans x7).trans x8
  have h8to := x58 _ _ (upd_same (H := H4) (a := to) (o := .lst []))
  have h8tp := (x5.trans x58) _ _ htx
  have h8c3 := upd_same (H := upd (upd (upd (upd H4 to (.lst [])) c1 (.lst (cutV mx (some 1) none))) o1 (.tup [.int 1, .int 1])) c2 (.lst [.ref o1])) (a := c3) (o := .lst (cutV mx (some 1) none ++ [.ref o1]))
  have h8o := (x7.trans x8) _ _ (upd_same (H := upd (upd H4 to (.lst [])) c1 (.lst (cutV mx (some 1) none))) (a := o1) (o := .tup [.int 1, .int 1]))
  have e08 := x5.trans x58
  have n4 : to ≠ c3 := by
    have z := ((x6.trans x6b).trans x7) _ _ (upd_same (H := H4) (a := to) (o := .lst []))
    exact ne_of_none z hc3
  revert h8to h8tp h8c3 h8o e08
  generalize upd (upd (upd (upd (upd H4 to (.lst [])) c1 (.lst (cutV mx (some 1) none))) o1 (.tup [.int 1, .int 1])) c2 (.lst [.ref o1])) c3 (.lst (cutV mx (some 1) none ++ [.ref o1])) = H8
  intro h8to h8tp h8c3 h8o e08
  rw [cut_1] at h8c3
  have hd2 : DpAll K H8 (mx.drop 1 ++ [.ref o1]) ((((topsM n g h).drop 1 ++ [wholeM n g h]).map fun t => lowP t (wholeM n g h)).map td) := by
    rw [← brk_next (by omega), List.map_append, List.map_drop]
    refine dpa_append ?_ (.cons (.tup (st_of h8o) (.cons (.int _) (.cons (.int _) .nil))) .nil)
    exact dpa_drop (dpa_ex e08 _ _ hmd) 1
  have hpl : (pairsM n g h).length = (topsM n g h).length := by
    unfold pairsM
    rw [List.length_zip, zip_tops _ _ hlp, Nat.min_self]
  refine ⟨tp, c3, _, _, rfl, sq_of h8tp, sq_of h8c3, ?_⟩
  refine RZ.for_zipL (by rw [List.length_append, List.length_drop, List.length_cons, List.length_nil]; omega) (fun i σ' H' => ∃ (y4 y5 : Option V) (xs : List V), σ' = [some (vi n), some v, some (.ref tp), some (.ref to), y4, y5] ∧
      Ex H4 H' ∧ H' tp = some (.lst mx) ∧ H' c3 = some (.lst (mx.drop 1 ++ [.ref o1])) ∧ H' to = some (.lst xs) ∧ DpAll K H' xs ((strM n g h e).take i) ∧ DpAll K H' (mx.drop 1 ++ [.ref o1]) ((((topsM n g h).drop 1 ++ [wholeM n g h]).map fun t => lowP t (wholeM n g h)).map td))
    ⟨none, none, [], rfl, e08, h8tp, h8c3, h8to, .nil, hd2⟩ (fun i σ' H' ⟨_, _, _, _, _, a, b, _⟩ => ⟨sq_of a, sq_of b⟩) ?_ ?_
  · rintro i x y T' σ' H' hx hy ⟨y4, y5, xs, rfl, ex, htp', hc3', hto', hd', hd2'⟩ hT'
    obtain ⟨d1, hd1, dx⟩ := dpa_get (dpa_ex ex _ _ hmd) hx
    unfold brkM at hd1
    rw [List.getElem?_map, List.getElem?_map] at hd1
    obtain ⟨p1, hp1, rfl⟩ := Option.map_eq_some_iff.mp hd1
    obtain ⟨t, ht, rfl⟩ := Option.map_eq_some_iff.mp hp1
    obtain ⟨d2, hd2'', dy⟩ := dpa_get hd2' hy
    rw [List.getElem?_map, List.getElem?_map] at hd2''
    obtain ⟨p2, hp2, rfl⟩ := Option.map_eq_some_iff.mp hd2''
    obtain ⟨a, ha, rfl⟩ := Option.map_eq_some_iff.mp hp2
    have hp : (pairsM n g h)[i]? = some (t, a) := by
      unfold pairsM
      rw [List.getElem?_zip_eq_some]
      exact ⟨ht, ha⟩
    have hst : (strM n g h e)[i]? = some (strD n g h e (wholeM n g h) (t, a)) := by
      unfold strM
      rw [List.getElem?_map, hp]
      rfl
    have hi : i < (topsM n g h).length := (List.getElem?_eq_some_iff.mp ht).1
    have htlt := tops_lt (by omega) (List.mem_of_getElem? ht)
    have xT : Ex H' (upd H' T' (.tup [x, y])) := Ex.new hT'
    refine ⟨T', _, rfl, st_of upd_same, rfl, x, _, rfl, y, _, rfl, rfl, ?_⟩
    generalize upd H' T' (.tup [x, y]) = H9 at xT
    refine ⟨.ref to, rfl, .inl ⟨rfl, _, sq_of (xT _ _ hto')⟩, x, rfl, y, rfl, vi n, rfl, v, rfl, x, rfl, ?_⟩
    have b1 : (lowP t (wholeM n g h)).1 ≤ t := Nat.div_le_self _ _
    have b2 : (lowP t (wholeM n g h)).2 ≤ wholeM n g h := Nat.div_le_self _ _
    have b3 := lowP_pos (t := t) hwp
    refine ⟨n, g, h, e, (lowP t (wholeM n g h)).1, (lowP t (wholeM n g h)).2, v, x, rfl, dp_ex (ex.trans xT) _ _ hw4, dp_ex xT _ _ dx, by omega, by omega, by omega, he, by omega, b3, ?_, ?_, fun cp H10 hcp e10 hcx => ?_⟩
    · exact Nat.lt_of_lt_of_le (show _ < 1000000 by omega) (by decide)
    · exact Nat.lt_of_lt_of_le (show _ < 1000000 by omega) (by decide)
    rw [pricks_low hwp] at hcx
    refine ⟨cp, _, rfl, .inl ⟨sq_of hcx, fun ct hct => ?_⟩⟩
    have x11 : Ex H10 (upd H10 ct (.tup ((pricksM n g h e t (wholeM n g h)).map vi))) := Ex.new hct
    have hc11 := upd_same (H := H10) (a := ct) (o := .tup ((pricksM n g h e t (wholeM n g h)).map vi))
    have xx := xT.trans (e10.trans x11)
    generalize upd H10 ct (.tup ((pricksM n g h e t (wholeM n g h)).map vi)) = H11 at x11 hc11 xx
    refine ⟨by show 3 ≤ sizeLine; decide, fun r hr' => ?_⟩
    have x14 := Ex.new (o := .tup [x, y, .ref ct]) hr'
    have h14r := upd_same (H := H11) (a := r) (o := .tup [x, y, .ref ct])
    generalize upd H11 r (.tup [x, y, .ref ct]) = H14 at x14 h14r
    have z14 : Ex H' H14 := xx.trans x14
    have nt := noT_lst (z14 _ _ hto')
    refine ⟨to, xs, .ref r, rfl, rfl, z14 _ _ hto', ?_, some x, some y, xs ++ [.ref r], rfl, Ex.mut (ex.trans z14) hto, ?_, ?_, upd_same, ?_, ?_⟩
    · have l1 := dpa_len hd'
      rw [List.length_take] at l1
      exact small1000 (by omega)
    · rw [upd_ne n1]
      exact z14 _ _ htp'
    · rw [upd_ne (Ne.symm n4)]
      exact z14 _ _ hc3'
    · rw [List.take_add_one, hst]
      refine dpa_mut nt _ _ ?_ (dpa_append (dpa_ex z14 _ _ hd') (.cons (.tup (st_of h14r) (.cons (dp_ex z14 _ _ dx) (.cons (dp_ex z14 _ _ dy) (.cons (.tup (st_of (x14 _ _ hc11)) (dis_vis _)) .nil)))) .nil))
      rw [noLs_append]
      have k1 : noLs ((strM n g h e).take i) = true := by
        unfold strM
        rw [← List.map_take]
        exact noLs_map (noL_str n g h e _) _
      rw [k1]
      show noLs [strD n g h e (wholeM n g h) (t, a)] = true
      rw [noLs, noLs, noL_str]
      rfl
    · exact dpa_mut nt _ _ (noLs_map noL_td _) (dpa_ex z14 _ _ hd2')
  · rintro σ' H' ⟨y4, y5, xs, rfl, ex, htp', hc3', hto', hd', hd2'⟩
    rw [hml, List.take_of_length_le (by unfold strM; rw [List.length_map, hpl]; exact Nat.le_refl _)] at hd'
    exact ⟨.ref to, rfl, q to xs H' (e4.trans (exn_of ex)) (tab.ext ex) hto' hd'⟩
end
end Nr
namespace Nr
open PySem PySem.Spec PyProof.Rows L2 Evl

/-! zip of three tuples -/
def ItzT3 (K : PySem.W.Frag) (a b c : Addr) : It :=
  ⟨fun i H => ∃ (xs ys zs : List V) (x y z : V), SqT K H a xs ∧ SqT K H b ys ∧ SqT K H c zs ∧ xs[i]? = some x ∧ ys[i]? = some y ∧ zs[i]? = some z,
    fun i H v H' => ∃ T x y z, v = .ref T ∧ H T = none ∧ H' = upd H T (.tup [x, y, z]) ∧ (∀ xs, SqT K H a xs → xs[i]? = some x) ∧ (∀ ys, SqT K H b ys → ys[i]? = some y) ∧ ∀ zs, SqT K H c zs → zs[i]? = some z,
    fun i H => ∃ xs ys zs : List V, SqT K H a xs ∧ SqT K H b ys ∧ SqT K H c zs ∧ i = min (min xs.length ys.length) zs.length⟩
theorem turn_zipT3 {P : Program} {w : World} {K : PySem.W.Frag} {elts : List Expr} {kk : Nat} {tpos : Pos} {a b c z TI TO i1 i2 i3 : Addr} (D : ZipSep3 z TI TO i1 i2 i3 [i1, a] [i2, b] [i3, c]) (n1 : a ≠ i1) (n2 : b ≠ i2) (n3 : c ≠ i3) :
    Turn P w K (.Tuple elts kk tpos) (ItzT3 K a b c) [z, TI, TO, i1, i2, i3] z (fun i h => IsZip h z TI TO .none ∧ IsTupOf3 h TI (.ref i1) (.ref i2) (.ref i3) ∧ (∃ x y u, IsTupOf3 h TO x y u) ∧ h.IsTupleIter i1 a i ∧ h.IsTupleIter i2 b i ∧ h.IsTupleIter i3 c i) where
  mem := by simp
  obj := fun i h st c hc => by
    obtain ⟨hz, hTI, ⟨x, y, u, hTO⟩, ⟨o1, e1, _, d1⟩, ⟨o2, e2, _, d2⟩, ⟨o3, e3, _, d3⟩⟩ := st
    have e' : c = z ∨ c = TI ∨ c = TO ∨ c = i1 ∨ c = i2 ∨ c = i3 := by simpa using hc
    rcases e' with q | q | q | q | q | q
    · rw [q]; exact ⟨_, hz, fun v q => nomatch q⟩
    · rw [q]; exact ⟨_, hTI, fun v q => nomatch q⟩
    · rw [q]; exact ⟨_, hTO, fun v q => nomatch q⟩
    · rw [q]; exact ⟨o1, e1, fun v q => by rw [d1] at q; cases q⟩
    · rw [q]; exact ⟨o2, e2, fun v q => by rw [d2] at q; cases q⟩
    · rw [q]; exact ⟨o3, e3, fun v q => by rw [d3] at q; cases q⟩
  keep := fun i h h' st k => by
    obtain ⟨hz, hTI, ⟨x, y, u, hTO⟩, h1, h2, h3⟩ := st
    exact ⟨k z (by simp) _ hz, k TI (by simp) _ hTI, ⟨x, y, u, k TO (by simp) _ hTO⟩, h1.at fun o q => k i1 (by simp) o q, h2.at fun o q => k i2 (by simp) o q, h3.at fun o q => k i3 (by simp) o q⟩
  item := by
    intro X hP hw hK hc i pins s σ H E I hf st hg
    subst hP hw hK
    obtain ⟨hz, hTI, hTO, h1, h2, h3⟩ := st
    obtain ⟨xs, ys, zs, x, y, u, hqx, hqy, hqz, hx, hy, hu⟩ := hg
    obtain ⟨its, rv, p, _⟩ := I.tuple hqx
    obtain ⟨its2, rv2, p2, _⟩ := I.tuple hqy
    obtain ⟨its3, rv3, p3, _⟩ := I.tuple hqz
    obtain ⟨ux, hux, rux⟩ := rv.get hx
    obtain ⟨uy, huy, ruy⟩ := rv2.get hy
    obtain ⟨uu, huu, ruu⟩ := rv3.get hu
    have hh : X.A.in1.handled = none := I.ok.hd hc
    have W := GoesN.zip3 (prog := X.prog) (w := X.w) (A := X.A) (elts := elts) (x1 := kk) (pos := tpos) D (Draws.tuple hh i1 a n1 its.toArray) (Draws.tuple hh i2 b n2 its2.toArray) (Draws.tuple hh i3 c n3 its3.toArray)
    have l1 := (List.getElem?_eq_some_iff.mp hux).1
    have l2 := (List.getElem?_eq_some_iff.mp huy).1
    have l3 := (List.getElem?_eq_some_iff.mp huu).1
    refine W.goes i s _ E (by simp only [List.size_toArray]; omega) ⟨hz, hTI, hTO, ⟨h1, p⟩, ⟨h2, p2⟩, ⟨h3, p3⟩⟩ fun v h' tk hY st' hk _ => ?_
    obtain ⟨T, x', y', u', rfl, hT, px, py, pu, hTup⟩ := hY
    obtain ⟨z', TI', TO', ⟨h1', _⟩, ⟨h2', _⟩, ⟨h3', _⟩⟩ := st'
    have ex : x' = ux := by
      have : its.toArray[i]? = some ux := by simpa using hux
      rw [this] at px
      exact (Option.some.inj px).symm
    have ey : y' = uy := by
      have : its2.toArray[i]? = some uy := by simpa using huy
      rw [this] at py
      exact (Option.some.inj py).symm
    have eu : u' = uu := by
      have : its3.toArray[i]? = some uu := by simpa using huu
      rw [this] at pu
      exact (Option.some.inj pu).symm
    subst ex ey eu
    have new : ObjOk X.prog X.w (upd H T (.tup [x, y, u])) h' T (.tup [x, y, u]) := ⟨by show 3 ≤ sizeLine; decide, [x', y', u'], .cons rux (.cons ruy (.cons ruu .nil)), hTup⟩
    have I1 : Inv X pins σ (upd H T (.tup [x, y, u])) { s with heap := h', toks := tk } := I.turnedNew (ch := [z, TI, TO, i1, i2, i3]) (fun d o hb q => hk d o (fun hm => hb (by
      have : d = z ∨ d = TO ∨ d = i1 ∨ d = i2 ∨ d = i3 := by simpa using hm
      rcases this with e | e | e | e | e <;> simp [e])) q) hf hT new
    refine ⟨.ref T, _, I1, rfl, ⟨T, x, y, u, rfl, I.hok.fresh hT, rfl, fun l hl => by rw [I.tuple_inj hl hqx]; exact hx, fun l hl => by rw [I.tuple_inj hl hqy]; exact hy, fun l hl => by rw [I.tuple_inj hl hqz]; exact hu⟩, ⟨z', TI', TO', h1', h2', h3'⟩, fun d hd => ?_⟩
    have hlt : d < s.heap.objs.size := by
      have e' : d = z ∨ d = TI ∨ d = TO ∨ d = i1 ∨ d = i2 ∨ d = i3 := by simpa using hd
      rcases e' with q | q | q | q | q | q
      · rw [q]; exact Heap.lt_size hz
      · rw [q]; exact Heap.lt_size hTI
      · obtain ⟨_, _, _, e⟩ := hTO
        rw [q]; exact Heap.lt_size e
      · obtain ⟨_, e, _⟩ := h1
        rw [q]; exact Heap.lt_size e
      · obtain ⟨_, e, _⟩ := h2
        rw [q]; exact Heap.lt_size e
      · obtain ⟨_, e, _⟩ := h3
        rw [q]; exact Heap.lt_size e
    rw [upd_ne (Nat.ne_of_lt (Nat.lt_of_lt_of_le hlt hT))]
    exact (hf d hd).1
  done := by
    intro X hP hw hK hc i pins s σ H E I hf st hg
    subst hP hw hK
    obtain ⟨hz, hTI, hTO, h1, h2, h3⟩ := st
    obtain ⟨xs, ys, zs, hqx, hqy, hqz, rfl⟩ := hg
    obtain ⟨its, rv, p, _⟩ := I.tuple hqx
    obtain ⟨its2, rv2, p2, _⟩ := I.tuple hqy
    obtain ⟨its3, rv3, p3, _⟩ := I.tuple hqz
    have hh : X.A.in1.handled = none := I.ok.hd hc
    have W := GoesN.zip3 (prog := X.prog) (w := X.w) (A := X.A) (elts := elts) (x1 := kk) (pos := tpos) D (Draws.tuple hh i1 a n1 its.toArray) (Draws.tuple hh i2 b n2 its2.toArray) (Draws.tuple hh i3 c n3 its3.toArray)
    have el : min (min xs.length ys.length) zs.length = min (min its.toArray.size its2.toArray.size) its3.toArray.size := by
      rw [rv.length, rv2.length, rv3.length]
      simp only [List.size_toArray]
    rw [el] at h1 h2 h3
    refine W.stops s _ E ⟨hz, hTI, hTO, ⟨h1, p⟩, ⟨h2, p2⟩, ⟨h3, p3⟩⟩ fun h' tk hk _ => I.turnedL (t' := tk) (ch := [z, TI, TO, i1, i2, i3]) (fun d o hb q => hk d o (fun hm => hb (by
      have : d = z ∨ d = TO ∨ d = i1 ∨ d = i2 ∨ d = i3 := by simpa using hm
      rcases this with e | e | e | e | e <;> simp [e])) q) hf
  self := fun A i s Q E st h => wpAny_pyIter_zip st.1 h

def iZip3 (K : PySem.W.Frag) (ta : TA) : TI := fun σ H R => ta σ H fun vs H1 => ∃ a b c xs ys zs, vs = [.ref a, .ref b, .ref c] ∧ SqT K H1 a xs ∧ SqT K H1 b ys ∧ SqT K H1 c zs ∧ R (ItzT3 K a b c) H1
theorem pi_zip3 {X : Cx} {e e2 e3 : Expr} {ta : TA} {p pos tpos : Pos} {elts : List Expr} {kk : Nat} (hg : Gl X "zip") (hm : X.mg "zip" = none) (ha : PA X [e, e2, e3] ta)
    (hs : starEach [e, e2, e3] X.env = (false, eval e X.env) :: starEach [e2, e3] X.env := by rfl) (hpl : (backTo pos (starEach [e2, e3] X.env)).any (·.1) = false := by rfl) :
    PI X (.Tuple elts kk tpos) (.Call (.Name "zip" p) [e, e2, e3] [] pos) (iZip3 X.K ta) := by
  refine ⟨fun pins s σ H R I h => ?_⟩
  refine Call_ (ld_blt I hg hm PyProof.Rows.boot_zip (PyProof.Rows.callWith_type1 (thn (ha.run pos pins s σ H _ I h) fun us s1 ⟨vs, H1, I1, r1, q1⟩ => ?_) hs hpl))
  obtain ⟨a, b, c, xs, ys, zs, ex, hqx, hqy, hqz, q⟩ := q1
  subst ex
  cases r1 with
  | cons r rr =>
  cases rr with
  | cons r' rr =>
  cases rr with
  | cons r'' rr =>
  cases rr
  cases r
  cases r'
  cases r''
  obtain ⟨its, rv, p1, _⟩ := I1.tuple hqx
  obtain ⟨its2, rv2, p2, _⟩ := I1.tuple hqy
  obtain ⟨its3, rv3, p3, _⟩ := I1.tuple hqz
  obtain ⟨o1, ho1, _⟩ := id p1
  obtain ⟨o2, ho2, _⟩ := id p2
  obtain ⟨o3, ho3, _⟩ := id p3
  have la := Heap.lt_size ho1
  have lb := Heap.lt_size ho2
  have lc := Heap.lt_size ho3
  have fresh6 : ∀ d, d ∈ [s1.heap.objs.size + 5, s1.heap.objs.size + 3, s1.heap.objs.size + 4, s1.heap.objs.size, s1.heap.objs.size + 1, s1.heap.objs.size + 2] → FpOk X pins H1 d := fun d hdm => by
    have hle : s1.heap.objs.size ≤ d := by
      simp only [List.mem_cons, List.not_mem_nil, or_false] at hdm
      rcases hdm with z | z | z | z | z | z
      · rw [z]; exact Nat.le_add_right _ _
      · rw [z]; exact Nat.le_add_right _ _
      · rw [z]; exact Nat.le_add_right _ _
      · rw [z]; exact Nat.le_refl _
      · rw [z]; exact Nat.le_add_right _ _
      · rw [z]; exact Nat.le_add_right _ _
    exact I1.fpOk hle (I1.hok.fresh hle)
  refine zip_begins3 (begins_tuple a its.toArray) (begins_tuple b its2.toArray) (begins_tuple c its3.toArray) p1 p2 p3 fun h' hz hTI hTO h1 h2 h3 hsz hk => wpAny_pyIter_zip hz ?_
  have I2 : Inv X pins σ H1 { s1 with heap := h' } := I1.kept (t' := s1.toks) hk
  refine ⟨s1.heap.objs.size + 5, [s1.heap.objs.size + 5, s1.heap.objs.size + 3, s1.heap.objs.size + 4, s1.heap.objs.size, s1.heap.objs.size + 1, s1.heap.objs.size + 2], _, _, H1, rfl, I2,
    turn_zipT3 (zip_sep3 (N := s1.heap.objs.size) (fp1 := [a]) (fp2 := [b]) (fp3 := [c]) ?_ ?_ ?_) (Nat.ne_of_lt la) (Nat.ne_of_lt (Nat.lt_succ_of_lt lb)) (Nat.ne_of_lt (Nat.lt_succ_of_lt (Nat.lt_succ_of_lt lc))), ⟨hz, hTI, ⟨_, _, _, hTO⟩, ⟨_, h1, rfl, rfl⟩, ⟨_, h2, rfl, rfl⟩, ⟨_, h3, rfl, rfl⟩⟩, fresh6, q⟩
  · intro d hd; rw [List.mem_singleton.mp hd]; exact la
  · intro d hd; rw [List.mem_singleton.mp hd]; exact lb
  · intro d hd; rw [List.mem_singleton.mp hd]; exact lc
/-- a loop over zip of three tuples of one length -/
theorem for_zipT3 {K : PySem.W.Frag} {a b c : Addr} {xs ys zs : List V} {g : TG} {tb : TS} {D : Ends} {σ : L2.St} {H : Hp} (hl : xs.length = ys.length) (hl2 : xs.length = zs.length) (Pv : Nat → L2.St → Hp → Prop) (h0 : Pv 0 σ H)
    (hq : ∀ i σ H, Pv i σ H → SqT K H a xs ∧ SqT K H b ys ∧ SqT K H c zs)
    (hs : ∀ (i : Nat) (x y z : V) (T : Addr) (σ : L2.St) (H : Hp), xs[i]? = some x → ys[i]? = some y → zs[i]? = some z → Pv i σ H → H T = none → g (.ref T) σ (upd H T (.tup [x, y, z])) fun σ2 H2 => tb { D with nx := Pv (i + 1), ct := Pv (i + 1), bk := D.nx } σ2 H2) (hd : ∀ σ H, Pv xs.length σ H → D.nx σ H) :
    ∃ W : Nat → Nat → L2.St → Hp → Prop, (∃ m, W 0 m σ H) ∧ ∀ i m σ H, W i m σ H →
      ((ItzT3 K a b c).stop i H ∧ D.nx σ H) ∨ ((ItzT3 K a b c).go i H ∧ ∃ N : L2.St → Hp → Prop, (∀ σ' H', N σ' H' → ∃ m', m' < m ∧ W (i + 1) m' σ' H') ∧ ∀ v H', (ItzT3 K a b c).yld i H v H' → g v σ H' fun σ2 H2 => tb { D with nx := N, ct := N, bk := D.nx } σ2 H2) := by
  refine ⟨fun i m σ H => m = xs.length - i ∧ i ≤ xs.length ∧ Pv i σ H, ⟨xs.length, rfl, Nat.zero_le _, h0⟩, ?_⟩
  rintro i m σ H ⟨rfl, hi, p⟩
  obtain ⟨qx, qy, qz⟩ := hq i σ H p
  by_cases hlt : i < xs.length
  · have hx : xs[i]? = some xs[i] := List.getElem?_eq_getElem hlt
    have hy : ys[i]? = some (ys[i]'(by omega)) := List.getElem?_eq_getElem (by omega)
    have hz : zs[i]? = some (zs[i]'(by omega)) := List.getElem?_eq_getElem (by omega)
    refine .inr ⟨⟨xs, ys, zs, _, _, _, qx, qy, qz, hx, hy, hz⟩, Pv (i + 1), fun σ' H' p' => ⟨xs.length - (i + 1), by omega, rfl, hlt, p'⟩, fun v H' y => ?_⟩
    obtain ⟨T, x', y', z', rfl, hT, rfl, f1, f2, f3⟩ := y
    exact hs i x' y' z' T σ H (f1 xs qx) (f2 ys qy) (f3 zs qz) p hT
  · have e : i = xs.length := by omega
    subst e
    exact .inl ⟨⟨xs, ys, zs, qx, qy, qz, by omega⟩, hd σ H p⟩
end Nr
namespace Nr
open PySem PySem.Spec PyProof.Rows L2 Evl

/-! things of any kind -/
def tyD : PyData → String
  | .none => "NoneType"
  | .bool _ => "bool"
  | .int _ => "int"
  | .str _ => "str"
  | .list _ => "list"
  | .tuple _ => "tuple"
  | .dict _ => "dict"
theorem ty_of {K : PySem.W.Frag} {H : Hp} {v : V} {d : PyData} (h : Dp K H v d) : TyX K H v (.type (tyD d)) := by
  cases h with
  | non => exact .base .non
  | bl b => exact .base (.bl b)
  | int i => exact .base (.int i)
  | str x => exact .base (.str x)
  | lst hs _ =>
    rcases hs with (h | ⟨o, h⟩) | ⟨o, its, n, h, c, _⟩
    · exact .base (.lst h)
    · exact .base (.frz h)
    · exact .kList h c
  | tup hs _ =>
    rcases hs with (h | ⟨o, h⟩) | ⟨o, its, n, h, c, _⟩
    · exact .base (.tup h)
    · exact .fTuple h
    · exact .kTuple h c
def isTupD : PyData → Bool
  | .tuple _ => true
  | _ => false
def isBoolD : PyData → Bool
  | .bool _ => true
  | _ => false
def wholeD : PyData → Bool
  | .int _ => true
  | _ => false
theorem kit_tup (d : PyData) : kitB (tyD d) "tuple" = some (isTupD d) := by cases d <;> simp only [tyD, isTupD] <;> decide +kernel
theorem kit_int (d : PyData) : kitB (tyD d) "int" = some (wholeD d || isBoolD d) := by cases d <;> simp only [tyD, wholeD, isBoolD] <;> decide +kernel
theorem kit_bool (d : PyData) : kitB (tyD d) "bool" = some (isBoolD d) := by cases d <;> simp only [tyD, isBoolD] <;> decide +kernel
def inB (lo hi : Int) : PyData → Bool
  | .int i => decide (lo ≤ i) && decide (i ≤ hi)
  | _ => false
def isWinD : PyData → Bool
  | .tuple [a, b, c] => inB 4 16 a && (inB 0 8 b && inB 0 1 c)
  | _ => false
section
variable {K : PySem.W.Frag} {H : Hp} {σ : L2.St} {ta : TE} {v : V} {d : PyData}
theorem rc_isi {T : String} {b : Bool} (hd : Dp K H v d) (hk : kitB (tyD d) T = some b) : RC (rIsi K) [v, .ty T] H (.bl b) := fun H1 e Q q =>
  ⟨v, .ty T, _, _, b, rfl, .ty T, ty_of (dp_ex e _ _ hd), kit_ty hk, q H1 (Ex.refl H1)⟩
theorem ev_isi {T : String} {b : Bool} (hv : Ev ta σ H v) (hd : Dp K H v d) (hk : kitB (tyD d) T = some b) : Ev (tCB (rIsi K) (tCons ta (tCons (tC (.ty T)) tNil))) σ H (.bl b) := ev_cb (ea_cons hv (ea_cons ev_c ea_nil)) (rc_isi hd hk)
theorem ev_lenT {p : Addr} {xs : List V} (ha : Ev ta σ H (.ref p)) (h : SqT K H p xs) : Ev (tCB (rLenS K) (tCons ta tNil)) σ H (.int (xs.length : Int)) := fun H1 e Q q =>
  ha H1 e _ fun H2 e2 => ⟨p, xs, rfl, .inr (ex_t (e.trans e2) h), q H2 e2⟩
end
/-- a comprehension over zip of two tuples of one length -/
theorem lc_zipT {K : PySem.W.Frag} {a b : Addr} {xs ys : List V} {g : TG} {tt : TT} {te : TE} {vs : List Nat} {σ : L2.St} {H1 : Hp} {D : Addr} {Qd : Hp → Prop} (hl : xs.length = ys.length) (Pv : Nat → Hp → Prop) (h0 : Pv 0 (upd H1 D (.lst []))) (hq : ∀ i H, Pv i H → SqT K H a xs ∧ SqT K H b ys)
    (hs : ∀ i x y T H, xs[i]? = some x → ys[i]? = some y → Pv i H → H T = none → g (.ref T) (wipe σ vs) (upd H T (.tup [x, y])) fun σ2 H2 => wipe σ2 vs = wipe σ vs ∧ tt σ2 H2 fun b H3 =>
      if b = true then te σ2 H3 fun y H4 => ∃ acc, H4 D = some (.lst acc) ∧ acc.length < sizeLine ∧ Pv (i + 1) (upd H4 D (.lst (acc ++ [y]))) else Pv (i + 1) H3) (hd : ∀ H, Pv xs.length H → Qd H) :
    ∃ W : Nat → Nat → Hp → Prop, (∃ m, W 0 m (upd H1 D (.lst []))) ∧ ∀ i m H, W i m H →
      ((RZ.ItzT K a b).stop i H ∧ Qd H) ∨ ((RZ.ItzT K a b).go i H ∧ ∃ Nx : Hp → Prop, (∀ H', Nx H' → ∃ m', m' < m ∧ W (i + 1) m' H') ∧ ∀ x H', (RZ.ItzT K a b).yld i H x H' → g x (wipe σ vs) H' fun σ2 H2 => wipe σ2 vs = wipe σ vs ∧ tt σ2 H2 fun b H3 =>
        if b = true then te σ2 H3 fun y H4 => ∃ acc, H4 D = some (.lst acc) ∧ acc.length < sizeLine ∧ Nx (upd H4 D (.lst (acc ++ [y]))) else Nx H3) := by
  refine ⟨fun i m H => m = xs.length - i ∧ i ≤ xs.length ∧ Pv i H, ⟨xs.length, by simp, Nat.zero_le _, h0⟩, ?_⟩
  rintro i m H ⟨rfl, hi, p⟩
  obtain ⟨qx, qy⟩ := hq i H p
  by_cases hlt : i < xs.length
  · have hx : xs[i]? = some xs[i] := List.getElem?_eq_getElem hlt
    have hy : ys[i]? = some (ys[i]'(by omega)) := List.getElem?_eq_getElem (by omega)
    refine .inr ⟨⟨xs, ys, _, _, qx, qy, hx, hy⟩, Pv (i + 1), fun H' p' => ⟨xs.length - (i + 1), by omega, rfl, hlt, p'⟩, fun x H' y => ?_⟩
    obtain ⟨T, x', y', rfl, hT, rfl, f1, f2⟩ := y
    exact hs i x' y' T _ (f1 xs qx) (f2 ys qy) p hT
  · have e : i = xs.length := by omega
    subst e
    exact .inl ⟨⟨xs, ys, qx, qy, Or.inl (Nat.le_refl _)⟩, hd H p⟩

/-- a tuple of the written part -/
def KT' (K : PySem.W.Frag) (a : Addr) (xs : List V) : Prop := ∃ (o : Obj) (its : Array Value) (n : Nat), K.lookup a = some o ∧ o.cls = .type "tuple" ∧ o.data = .seq its n ∧ its.size ≤ sizeLine ∧ Vals xs its.toList
theorem KT'.sq {K : PySem.W.Frag} {a : Addr} {xs : List V} {H : Hp} (h : KT' K a xs) : SqT K H a xs := .inr h
/-- BOUNDS as it stands -/
structure Bnds (K : PySem.W.Frag) (bb b1 b2 b3 : Addr) : Prop where
  all : KT' K bb [.ref b1, .ref b2, .ref b3]
  one : KT' K b1 [.int 4, .int 16]
  two : KT' K b2 [.int 0, .int 8]
  three : KT' K b3 [.int 0, .int 1]
section
variable {P : Program} {w : World} {K : PySem.W.Frag} {mg : Str → Option Value} {base : Heap}
/-! is_whole -/
abbrev sIsWhole : Stmt := topS 1
theorem scIsWhole : FnScope ["thing"] ["thing"] (defScope sIsWhole) := ⟨rfl, rfl, rfl, by decide +kernel, rfl, by decide +kernel, by decide +kernel⟩
def spIsWhole (K : PySem.W.Frag) : Sp := fun vs H Q _ => ∃ (v : V) (d : PyData), vs = [v] ∧ Dp K H v d ∧ RetV (.bl (wholeD d)) H Q
theorem ok_isWhole {f : Addr} {fd : FuncData} {k : Nat} (F : Fun K "is_whole" "is_whole" sIsWhole f fd) (mi : mg "isinstance" = none) (mint : mg "int" = none) (mb : mg "bool" = none) : FnOk P w K mg base CX0 (k + 1) f fd ["thing"] (spIsWhole K) := by
  refine F.ok scIsWhole (fun vs H Q E h => ?_) (fun cdv A outer s H vs Q E hr h => ?_)
  · obtain ⟨v, d, rfl, _⟩ := h
    rfl
  obtain ⟨v, d, rfl, hd, q⟩ := h
  refine ⟨_, pss_one (ps_ret (pe_and (pe_callB call_isi (by rfl) mi boot_isinstance (pa_cons (pv 0) (pa_cons (pe_bltn (v := .ty "int") (by rfl) mint boot_int rfl) pa_nil)))
    (pe_one (pe_not (pe_callB call_isi (by rfl) mi boot_isinstance (pa_cons (pv 0) (pa_cons (pe_bltn (v := .ty "bool") (by rfl) mb boot_bool rfl) pa_nil))))))), ?_⟩
  refine s_ret (v := .bl (wholeD d)) (ev_is (ev_andV (ev_isi (ev_var rfl) hd (kit_int d)) fun _ => ev_notV (ev_isi (ev_var rfl) hd (kit_bool d))) ?_) (fun H1 e1 => q H1 e1)
  cases d <;> rfl
end
end Nr
namespace Nr
open PySem PySem.Spec PyProof.Rows L2 Evl

theorem isWin_noTup {d : PyData} (h : isTupD d = false) : isWinD d = false := by
  cases d with
  | tuple ds => cases h
  | _ => rfl
theorem isWin_len {ds : List PyData} (h : ds.length ≠ 3) : isWinD (.tuple ds) = false := by
  match ds, h with
  | [], _ => rfl
  | [_], _ => rfl
  | [_, _], _ => rfl
  | [_, _, _], h => exact absurd rfl h
  | _ :: _ :: _ :: _ :: _, _ => rfl
theorem tup_of {d : PyData} (h : isTupD d = true) : ∃ ds, d = .tuple ds := by
  cases d with
  | tuple ds => exact ⟨ds, rfl⟩
  | _ => cases h
def bnd : Nat → Int × Int
  | 0 => (4, 16)
  | 1 => (0, 8)
  | _ => (0, 1)
theorem win_no {d1 d2 d3 : PyData} {i : Nat} (hi : i < 3) (h : [inB 4 16 d1, inB 0 8 d2, inB 0 1 d3][i]? = some false) : isWinD (.tuple [d1, d2, d3]) = false := by
  show (inB 4 16 d1 && (inB 0 8 d2 && inB 0 1 d3)) = false
  match i, hi, h with
  | 0, _, h => rw [Option.some.inj h]; rfl
  | 1, _, h => rw [Option.some.inj h, Bool.false_and, Bool.and_false]
  | 2, _, h => rw [Option.some.inj h, Bool.and_false, Bool.and_false]
section
variable {P : Program} {w : World} {K : PySem.W.Frag} {mg : Str → Option Value} {base : Heap}
/-! is_within -/
abbrev sIsWithin : Stmt := topS 8 /- is_within -/
theorem scIsWithin : FnScope ["thing", "bounds", "low", "high"] ["thing", "bounds"] (defScope sIsWithin) := ⟨rfl, rfl, rfl, by decide +kernel, rfl, by decide +kernel, by decide +kernel⟩
def spIsWithin (K : PySem.W.Frag) : Sp := fun vs H Q _ => ∃ (v : V) (d : PyData) (yb : Addr) (lo hi : Int), vs = [v, .ref yb] ∧ Dp K H v d ∧ SqT K H yb [.int lo, .int hi] ∧ RetV (.bl (inB lo hi d)) H Q
theorem ok_isWithin {f : Addr} {fd : FuncData} (F : Fun K "is_within" "is_within" sIsWithin f fd) {fw : Addr} {fdw : FuncData} (Wh : Can P w K mg base "is_whole" 1 fw fdw ["thing"] (spIsWhole K)) : FnOk P w K mg base CX0 2 f fd ["thing", "bounds"] (spIsWithin K) := by
  refine F.ok scIsWithin (fun vs H Q E h => ?_) (fun cdv A outer s H vs Q E hr h => ?_)
  · obtain ⟨v, d, yb, lo, hi, rfl, _⟩ := h
    rfl
  obtain ⟨v, d, yb, lo, hi, rfl, hd, hy, q⟩ := h
  have nd := scIsWithin.nd
  refine ⟨_, pss_cons (ps_asg (pv 1) (pg_tup rfl (pgs_cons (pg_name (i := 2) nd rfl (.inl rfl)) (pgs_cons (pg_name (i := 3) nd rfl (.inl rfl)) pgs_nil))))
    (pss_one (ps_ret (pe_and (pcall Wh hr (pa_cons (pv 0) pa_nil)) (pe_one (pe_chain op_le op_le (pv 2) (pv 0) (pv 3)))))), ?_⟩
  refine ⟨.ref yb, rfl, yb, _, rfl, hy, rfl, .int lo, _, rfl, .int hi, _, rfl, rfl, ?_⟩
  refine ⟨v, rfl, v, d, rfl, hd, fun H3 e3 => ⟨wholeD d, rfl, ?_⟩⟩
  cases d with
  | int z =>
    cases hd
    refine ⟨.int lo, rfl, .int z, rfl, _, _, rfl, rfl, _, rfl, ?_⟩
    by_cases h1 : lo ≤ z
    · refine (if_pos (decide_eq_true h1)).mpr ⟨.int hi, rfl, _, _, rfl, rfl, ?_⟩
      have : inB lo hi (.int z) = decide (z ≤ hi) := by
        show (decide (lo ≤ z) && decide (z ≤ hi)) = _
        rw [decide_eq_true h1, Bool.true_and]
      rw [this] at q
      exact q _ e3
    · refine (if_neg (by rw [decide_eq_false h1]; decide)).mpr ?_
      have : inB lo hi (.int z) = false := by
        show (decide (lo ≤ z) && decide (z ≤ hi)) = _
        rw [decide_eq_false h1, Bool.false_and]
      rw [this] at q
      exact q _ e3
  | _ => exact q _ e3
/-! is_winding -/
abbrev sIsWinding : Stmt := topS 9
abbrev nIsWin : List Str := ["thing", "part", "bounds"]
theorem scIsWin : FnScope nIsWin ["thing"] (defScope sIsWinding) := ⟨rfl, rfl, rfl, by decide +kernel, rfl, by decide +kernel, by decide +kernel⟩
def spIsWin (K : PySem.W.Frag) : Sp := fun vs H Q _ => ∃ (v : V) (d : PyData), vs = [v] ∧ Dp K H v d ∧ RetV (.bl (isWinD d)) H Q
theorem ok_isWin {f : Addr} {fd : FuncData} (F : Fun K "is_winding" "is_winding" sIsWinding f fd) (mi : mg "isinstance" = none) (mt : mg "tuple" = none) (ml : mg "len" = none) (ma : mg "all" = none) (mz : mg "zip" = none)
    {bb b1 b2 b3 : Addr} (mB : mg "BOUNDS" = some (.ref bb)) (B : Bnds K bb b1 b2 b3) {fw : Addr} {fdw : FuncData} (Wi : Can P w K mg base "is_within" 2 fw fdw ["thing", "bounds"] (spIsWithin K)) : FnOk P w K mg base CX0 3 f fd ["thing"] (spIsWin K) := by
  refine F.ok scIsWin (fun vs H Q E h => ?_) (fun cdv A outer s H vs Q E hr h => ?_)
  · obtain ⟨v, d, rfl, _⟩ := h
    rfl
  obtain ⟨v, d, rfl, hd, q⟩ := h
  refine ⟨_, pss_cons (ps_if (PW.pt (pw_or (pt_not (pt_val (pe_callB call_isi (by rfl) mi boot_isinstance (pa_cons (pv 0) (pa_cons (pe_bltn (v := .ty "tuple") (by rfl) mt PyProof.Rows.boot_tuple rfl) pa_nil)))))
      (pw_or1 (pt_cmpR op_ne (pe_callB call_len_seq (by rfl) ml PySem.boot_len (pa_cons (pv 0) pa_nil)) (pe_callB call_len_seq (by rfl) ml PySem.boot_len (pa_cons (pe_glob (v := .ref bb) (by rfl) mB rfl) pa_nil)) (nomark _)))))
      (pss_one (ps_ret pe_bl)) pss_nil)
    (pss_one (ps_ret (pe_callB (cr_all (by rfl)) (by rfl) ma boot_all (pa_cons (pe_lc (own := [("part", 1), ("bounds", 2)]) (g := gTup K 2 (gCons (gName 1) (gCons (gName 2) gNil))) (tt := tYes) (by rfl) scIsWin.nd
      (RZ.pi_zipA (by rfl) mz (pa_cons (pv 0) (pa_cons (pe_glob (v := .ref bb) (by rfl) mB rfl) pa_nil)))
      (blkOk_by (N := nIsWin) (sc := defScope sIsWinding) (by decide +kernel))
      (fun _ _ _ _ _ => pg_tup rfl (pgs_cons (pg_name (i := 1) scIsWin.nd rfl (.inl rfl)) (pgs_cons (pg_name (i := 2) scIsWin.nd rfl (.inl rfl)) pgs_nil))) (fun _ _ _ _ _ => pts_nil)
      (fun _ _ _ _ _ => pcall Wi hr (pa_cons (pv 1) (pa_cons (pv 2) pa_nil)))) pa_nil)))), ?_⟩
  cases ht : isTupD d with
  | false =>
    refine q_when (et_or (et_not (et_B (ev_isi (ev_var rfl) hd (kit_tup d)))) (b := true) (fun z => by rw [ht] at z; cases z)) (fun _ H1 e1 => ?_) (fun hb H1 e1 => ?_)
    · show Q (.bl false) H1
      rw [isWin_noTup ht] at q
      exact q H1 e1
    · rw [ht] at hb
      cases hb
  | true =>
    obtain ⟨ds, rfl⟩ := tup_of ht
    obtain ⟨va, xs, rfl, hs, ha⟩ := dp_tup hd
    have hl := dpa_len ha
    refine q_when (et_or (et_not (et_B (ev_isi (ev_var rfl) hd (kit_tup (.tuple ds))))) (fun _ => et_test (ev_op (ev_lenT (ev_var rfl) hs) (ev_lenT ev_c B.all.sq) (rv_ne rfl)))) (fun hb H1 e1 => ?_) (fun hb H1 e1 => ?_)
    · show Q (.bl false) H1
      have hne : ds.length ≠ 3 := by
        intro z
        rw [hl, z] at hb
        simp [isTupD] at hb
      rw [isWin_len hne] at q
      exact q H1 e1
    · have h3 : xs.length = 3 := by
        simp [isTupD] at hb
        omega
      rw [h3] at hl
      match ds, xs, hl, h3, ha, hs, q, hd with
      | [d1, d2, d3], [x1, x2, x3], _, _, ha, hs, q, hd =>
      have hs1 := ex_t e1 hs
      refine ⟨.ref va, rfl, va, bb, _, _, rfl, .inr ⟨hs1, B.all.sq, fun D hD => ?_⟩⟩
      refine lc_zipT (xs := [x1, x2, x3]) (ys := [.ref b1, .ref b2, .ref b3]) rfl (fun i H' => Ex H1 H' ∧ H' D = some (.lst (([inB 4 16 d1, inB 0 8 d2, inB 0 1 d3].take i).map V.bl))) ⟨Ex.new hD, upd_same⟩ (fun i H' p' => ⟨ex_t p'.1 hs1, B.all.sq⟩) (fun i x y T H' hx hy p' hT => ?_) fun H' p' => ?_
      · obtain ⟨e2, hl2⟩ := p'
        have eT : Ex H' (upd H' T (.tup [x, y])) := Ex.new hT
        have hi : i < 3 := (List.getElem?_eq_some_iff.mp hx).1
        obtain ⟨dx, hdx, hpx⟩ := dpa_get (dpa_ex (e1.trans e2) _ _ ha) hx
        obtain ⟨yb, lo, hi', rfl, hyb, hnx⟩ : ∃ yb lo hi, y = .ref yb ∧ KT' K yb [.int lo, .int hi] ∧ [inB 4 16 d1, inB 0 8 d2, inB 0 1 d3][i]? = some (inB lo hi dx) := by
          match i, hi with
          | 0, _ => cases hy; cases hdx; exact ⟨b1, 4, 16, rfl, B.one, rfl⟩
          | 1, _ => cases hy; cases hdx; exact ⟨b2, 0, 8, rfl, B.two, rfl⟩
          | 2, _ => cases hy; cases hdx; exact ⟨b3, 0, 1, rfl, B.three, rfl⟩
        refine ⟨T, _, rfl, st_of upd_same, rfl, x, _, rfl, .ref yb, _, rfl, rfl, rfl, ?_⟩
        have fin : ∀ H3, Ex H' H3 → ∃ acc, H3 D = some (.lst acc) ∧ acc.length < sizeLine ∧ Ex H1 (upd H3 D (.lst (acc ++ [.bl (inB lo hi' dx)]))) ∧ upd H3 D (.lst (acc ++ [.bl (inB lo hi' dx)])) D = some (.lst (([inB 4 16 d1, inB 0 8 d2, inB 0 1 d3].take (i + 1)).map V.bl)) := fun H3 e3 => by
          refine ⟨_, e3 _ _ hl2, ?_, Ex.mut (e2.trans e3) hD, ?_⟩
          · rw [List.length_map, List.length_take]
            exact small1000 (by omega)
          · rw [upd_same, List.take_add_one, hnx, List.map_append]
            rfl
        exact ⟨x, rfl, .ref yb, rfl, x, dx, yb, lo, hi', rfl, dp_ex eT _ _ hpx, hyb.sq, fun H3 e3 => fin H3 (eT.trans e3)⟩
      · refine ⟨D, _, rfl, sq_of p'.2, ?_⟩
        have : ([inB 4 16 d1, inB 0 8 d2, inB 0 1 d3].take 3).all id = isWinD (.tuple [d1, d2, d3]) := by
          show (inB 4 16 d1 && (inB 0 8 d2 && (inB 0 1 d3 && true))) = (inB 4 16 d1 && (inB 0 8 d2 && inB 0 1 d3))
          rw [Bool.and_true]
        show Q (.bl (([inB 4 16 d1, inB 0 8 d2, inB 0 1 d3].take 3).all id)) H'
        rw [this]
        exact q H' (e1.trans p'.1)
/-! _law_is_winding -/
abbrev sLIsW : Stmt := topS 25
theorem scLIsW : FnScope ["thing", "one", "least", "most"] ["thing"] (defScope sLIsW) := ⟨rfl, rfl, rfl, by decide +kernel, rfl, by decide +kernel, by decide +kernel⟩
theorem ok_lisw {f : Addr} {fd : FuncData} {k : Nat} (F : Fun K "_law_is_winding" "_law_is_winding" sLIsW f fd) (mi : mg "isinstance" = none) (mt : mg "tuple" = none) (ml : mg "len" = none) (mz : mg "zip" = none) (mint : mg "int" = none) (mb : mg "bool" = none) :
    FnOk P w K mg base CX0 (k + 1) f fd ["thing"] (spIsWin K) := by
  refine F.ok scLIsW (fun vs H Q E h => ?_) (fun cdv A outer s H vs Q E hr h => ?_)
  · obtain ⟨v, d, rfl, _⟩ := h
    rfl
  obtain ⟨v, d, rfl, hd, q⟩ := h
  refine ⟨_, pss_cons (ps_if (PW.pt (pw_or (pt_not (pt_val (pe_callB call_isi (by rfl) mi boot_isinstance (pa_cons (pv 0) (pa_cons (pe_bltn (v := .ty "tuple") (by rfl) mt PyProof.Rows.boot_tuple rfl) pa_nil)))))
      (pw_or1 (pt_cmpR op_ne (pe_callB call_len_seq (by rfl) ml PySem.boot_len (pa_cons (pv 0) pa_nil)) pe_int (nomark _)))))
      (pss_one (ps_ret pe_bl)) pss_nil)
    (pss_cons (ps_for PassesOwn.never rfl (pi_zip3 (by rfl) mz (pa_cons (pv 0) (pa_cons (pe_tup (pa_cons pe_int (pa_cons pe_int (pa_cons pe_int pa_nil)))) (pa_cons (pe_tup (pa_cons pe_int (pa_cons pe_int (pa_cons pe_int pa_nil)))) pa_nil))))
        (pg_tup rfl (pgs_cons (pg_name (i := 1) scLIsW.nd rfl (.inl rfl)) (pgs_cons (pg_name (i := 2) scLIsW.nd rfl (.inl rfl)) (pgs_cons (pg_name (i := 3) scLIsW.nd rfl (.inl rfl)) pgs_nil))))
      (pss_one (ps_if (PW.pt (pw_or (pt_not (pt_val (pe_callB call_isi (by rfl) mi boot_isinstance (pa_cons (pv 1) (pa_cons (pe_bltn (v := .ty "int") (by rfl) mint boot_int rfl) pa_nil)))))
        (pw_or (pt_val (pe_callB call_isi (by rfl) mi boot_isinstance (pa_cons (pv 1) (pa_cons (pe_bltn (v := .ty "bool") (by rfl) mb boot_bool rfl) pa_nil))))
        (pw_or1 (pt_not (pt_chain op_le op_le (pv 2) (pv 1) (pv 3))))))) (pss_one (ps_ret pe_bl)) pss_nil)))
    (pss_one (ps_ret pe_bl))), ?_⟩
  cases ht : isTupD d with
  | false =>
    refine q_when (et_or (et_not (et_B (ev_isi (ev_var rfl) hd (kit_tup d)))) (b := true) (fun z => by rw [ht] at z; cases z)) (fun _ H1 e1 => ?_) (fun hb H1 e1 => ?_)
    · show Q (.bl false) H1
      rw [isWin_noTup ht] at q
      exact q H1 e1
    · rw [ht] at hb
      cases hb
  | true =>
    obtain ⟨ds, rfl⟩ := tup_of ht
    obtain ⟨va, xs, rfl, hs, ha⟩ := dp_tup hd
    have hl := dpa_len ha
    refine q_when (et_or (et_not (et_B (ev_isi (ev_var rfl) hd (kit_tup (.tuple ds))))) (fun _ => et_test (ev_op (ev_lenT (ev_var rfl) hs) ev_c (rv_ne rfl)))) (fun hb H1 e1 => ?_) (fun hb H1 e1 => ?_)
    · show Q (.bl false) H1
      have hne : ds.length ≠ 3 := by
        intro z
        rw [hl, z] at hb
        simp [isTupD] at hb
      rw [isWin_len hne] at q
      exact q H1 e1
    · have h3 : xs.length = 3 := by
        simp [isTupD] at hb
        omega
      rw [h3] at hl
      match ds, xs, hl, h3, ha, hs, q, hd with
      | [d1, d2, d3], [x1, x2, x3], _, _, ha, hs, q, hd =>
      refine ⟨.ref va, rfl, by show 3 ≤ sizeLine; decide, fun t1 ht1 => ?_⟩
      refine ⟨by show 3 ≤ sizeLine; decide, fun t2 ht2 => ?_⟩
      have x1e := Ex.new (o := .tup [.int 4, .int 0, .int 0]) ht1
      have x2e := Ex.new (o := .tup [.int 16, .int 8, .int 1]) ht2
      have q1 := x2e _ _ (upd_same (H := H1) (a := t1) (o := .tup [.int 4, .int 0, .int 0]))
      have q2 := upd_same (H := upd H1 t1 (.tup [.int 4, .int 0, .int 0])) (a := t2) (o := .tup [.int 16, .int 8, .int 1])
      have e12 := e1.trans (x1e.trans x2e)
      revert q1 q2 e12
      generalize upd (upd H1 t1 (.tup [.int 4, .int 0, .int 0])) t2 (.tup [.int 16, .int 8, .int 1]) = H2
      intro q1 q2 e2
      refine ⟨va, t1, t2, _, _, _, rfl, ex_t e2 hs, st_of q1, st_of q2, ?_⟩
      refine for_zipT3 (xs := [x1, x2, x3]) (ys := [.int 4, .int 0, .int 0]) (zs := [.int 16, .int 8, .int 1]) rfl rfl (fun i σ' H' => ∃ y1 y2 y3, σ' = [some (.ref va), y1, y2, y3] ∧ Ex H2 H' ∧ ([inB 4 16 d1, inB 0 8 d2, inB 0 1 d3].take i).all id = true) ⟨none, none, none, rfl, Ex.refl _, rfl⟩
        (fun i σ' H' ⟨_, _, _, _, e, _⟩ => ⟨ex_t (e2.trans e) hs, ex_t e (st_of q1), ex_t e (st_of q2)⟩) ?_ ?_
      · rintro i x y z T σ' H' hx hy hz ⟨y1, y2, y3, rfl, e3, hall⟩ hT
        have eT : Ex H' (upd H' T (.tup [x, y, z])) := Ex.new hT
        have hi : i < 3 := (List.getElem?_eq_some_iff.mp hx).1
        obtain ⟨dx, hdx, hpx⟩ := dpa_get (dpa_ex (e2.trans e3) _ _ ha) hx
        obtain ⟨lo, hi', rfl, rfl, hnx⟩ : ∃ lo hi, y = .int lo ∧ z = .int hi ∧ [inB 4 16 d1, inB 0 8 d2, inB 0 1 d3][i]? = some (inB lo hi dx) := by
          match i, hi with
          | 0, _ => cases hy; cases hz; cases hdx; exact ⟨4, 16, rfl, rfl, rfl⟩
          | 1, _ => cases hy; cases hz; cases hdx; exact ⟨0, 8, rfl, rfl, rfl⟩
          | 2, _ => cases hy; cases hz; cases hdx; exact ⟨0, 1, rfl, rfl, rfl⟩
        refine ⟨T, _, rfl, st_of upd_same, rfl, x, _, rfl, .int lo, _, rfl, .int hi', _, rfl, rfl, ?_⟩
        have hpx2 := dp_ex eT _ _ hpx
        generalize upd H' T (.tup [x, .int lo, .int hi']) = H4 at eT hpx2
        cases dx with
        | int k =>
          cases hpx2
          refine s_when (et_or (et_not (et_B (ev_isi (ev_var rfl) (.int k) (kit_int (.int k))))) (fun _ => et_or (et_B (ev_isi (ev_var rfl) (.int k) (kit_bool (.int k)))) (fun _ => et_not (et_chain (ev_var rfl) (ev_var rfl) rv_I0 (fun _ => ev_var rfl) (fun _ => rv_I0))))) (fun hb H5 e5 => ?_) (fun hb H5 e5 => ?_)
          · have hz : inB lo hi' (.int k) = false := by
              have : (!(decide (lo ≤ k) && decide (k ≤ hi'))) = true := hb
              show (decide (lo ≤ k) && decide (k ≤ hi')) = false
              cases h : (decide (lo ≤ k) && decide (k ≤ hi')) with
              | false => rfl
              | true => rw [h] at this; cases this
            have w' : isWinD (.tuple [d1, d2, d3]) = false := win_no hi (hz ▸ hnx)
            rw [w'] at q
            exact q H5 (((e2.trans e3).trans eT).trans e5)
          · have hz : inB lo hi' (.int k) = true := by
              have : (!(decide (lo ≤ k) && decide (k ≤ hi'))) = false := hb
              show (decide (lo ≤ k) && decide (k ≤ hi')) = true
              cases h : (decide (lo ≤ k) && decide (k ≤ hi')) with
              | true => rfl
              | false => rw [h] at this; cases this
            refine ⟨_, _, _, rfl, e3.trans (eT.trans e5), ?_⟩
            rw [List.take_add_one, hnx, List.all_append, hall, hz]
            rfl
        | bool b =>
          refine s_when (et_or (et_not (et_B (ev_isi (ev_var rfl) hpx2 (kit_int (.bool b))))) (fun _ => et_or (et_B (ev_isi (ev_var rfl) hpx2 (kit_bool (.bool b)))) (b := true) (fun z => by cases z))) (fun hb H5 e5 => ?_) (fun hb H5 e5 => by cases hb)
          rw [show isWinD (.tuple [d1, d2, d3]) = false from ?_] at q
          · exact q H5 (((e2.trans e3).trans eT).trans e5)
          · exact win_no hi hnx
        | _ =>
          refine s_when (et_or (et_not (et_B (ev_isi (ev_var rfl) hpx2 (kit_int _)))) (b := true) (fun z => by cases z)) (fun hb H5 e5 => ?_) (fun hb H5 e5 => by cases hb)
          rw [show isWinD (.tuple [d1, d2, d3]) = false from ?_] at q
          · exact q H5 (((e2.trans e3).trans eT).trans e5)
          · exact win_no hi hnx
      · rintro σ' H' ⟨y1, y2, y3, rfl, e3, hall⟩
        show Q (.bl true) H'
        have : isWinD (.tuple [d1, d2, d3]) = true := by
          have h := hall
          show (inB 4 16 d1 && (inB 0 8 d2 && inB 0 1 d3)) = true
          have h : (inB 4 16 d1 && (inB 0 8 d2 && (inB 0 1 d3 && true))) = true := h
          rw [Bool.and_true] at h
          exact h
        rw [this] at q
        exact q H' (e2.trans e3)
end
end Nr
namespace Nr
open PySem PySem.Spec PyProof.Rows L2 Evl

/-! a thing of some kind -/
def AD (K : PySem.W.Frag) (H : Hp) (v : V) : Prop := ∃ d, Dp K H v d
section
variable {K : PySem.W.Frag} {H H' : Hp} {σ : L2.St} {p : Addr}
theorem AD.ex {v : V} (h : AD K H v) (e : Ex H H') : AD K H' v := let ⟨d, h⟩ := h; ⟨d, dp_ex e _ _ h⟩
theorem ad_all : ∀ {vs : List V}, (∀ v ∈ vs, AD K H v) → ∃ ds, DpAll K H vs ds
  | [], _ => ⟨[], .nil⟩
  | v :: vs, h => by
    obtain ⟨d, hd⟩ := h v List.mem_cons_self
    obtain ⟨ds, hds⟩ := ad_all (vs := vs) fun x hx => h x (List.mem_cons_of_mem _ hx)
    exact ⟨d :: ds, .cons hd hds⟩
theorem all_ad : ∀ {vs : List V} {ds : List PyData}, DpAll K H vs ds → ∀ v ∈ vs, AD K H v
  | [], _, _, v, hv => by cases hv
  | _ :: _, _, h, v, hv => by
    cases h with
    | cons h1 h2 =>
      rcases List.mem_cons.mp hv with rfl | hv
      · exact ⟨_, h1⟩
      · exact all_ad h2 v hv
mutual
theorem ad_bx (b0 : Bag H p) (b1 : Bag H' p) (b : Bx p H H') : ∀ (d : PyData) (v : V), Dp K H v d → AD K H' v
  | .none, _, h => by cases h; exact ⟨_, .non⟩
  | .bool b, _, h => by cases h; exact ⟨_, .bl b⟩
  | .int i, _, h => by cases h; exact ⟨_, .int i⟩
  | .str x, _, h => by cases h; exact ⟨_, .str x⟩
  | .list ds, _, h => by
    cases h with
    | @lst a xs _ hs ha =>
      obtain ⟨ds', ha'⟩ := ada_bx b0 b1 b ds _ ha
      by_cases hp : a = p
      · obtain ⟨c, z, hz⟩ := b1
        subst hp
        exact ⟨.list [di c, di z], .lst (sq_of hz) (.cons (.int _) (.cons (.int _) .nil))⟩
      · refine ⟨.list ds', .lst ?_ ha'⟩
        rcases hs with (h | ⟨o, h⟩) | h
        · exact .inl (.inl (b _ _ hp h))
        · exact .inl (.inr ⟨o, b _ _ hp h⟩)
        · exact .inr h
  | .tuple ds, _, h => by
    cases h with
    | @tup a xs _ hs ha =>
      obtain ⟨ds', ha'⟩ := ada_bx b0 b1 b ds _ ha
      exact ⟨.tuple ds', .tup (sqt_bx b0.noT b hs) ha'⟩
  | .dict _, _, h => by cases h
theorem ada_bx (b0 : Bag H p) (b1 : Bag H' p) (b : Bx p H H') : ∀ (ds : List PyData) (vs : List V), DpAll K H vs ds → ∃ ds', DpAll K H' vs ds'
  | [], _, h => by cases h; exact ⟨[], .nil⟩
  | d :: ds, _, h => by
    cases h with
    | cons h1 h2 =>
      obtain ⟨d', h1'⟩ := ad_bx b0 b1 b d _ h1
      obtain ⟨ds', h2'⟩ := ada_bx b0 b1 b ds _ h2
      exact ⟨d' :: ds', .cons h1' h2'⟩
end
/-- an expression whose value is a thing of some kind -/
def EvD (K : PySem.W.Frag) (te : TE) (σ : L2.St) (H : Hp) : Prop := ∀ H1, Ex H H1 → ∀ Q : VK, (∀ v H2, Ex H1 H2 → AD K H2 v → Q v H2) → te σ H1 Q
def EvDA (K : PySem.W.Frag) (ta : TA) (n : Nat) (σ : L2.St) (H : Hp) : Prop := ∀ H1, Ex H H1 → ∀ Q : List V → Hp → Prop, (∀ vs H2, Ex H1 H2 → vs.length = n → (∀ v ∈ vs, AD K H2 v) → Q vs H2) → ta σ H1 Q
theorem ed_of {te : TE} {v : V} (h : Ev te σ H v) (hd : ∀ H1, Ex H H1 → AD K H1 v) : EvD K te σ H := fun H1 e Q q => h H1 e Q fun H2 e2 => q v H2 e2 (hd H2 (e.trans e2))
theorem ed_int {i : Int} : EvD K (tC (.int i)) σ H := ed_of ev_c fun _ _ => ⟨_, .int i⟩
theorem ed_bl {b : Bool} : EvD K (tC (.bl b)) σ H := ed_of ev_c fun _ _ => ⟨_, .bl b⟩
theorem ed_non : EvD K (tC .non) σ H := ed_of ev_c fun _ _ => ⟨_, .non⟩
theorem ed_var {i : Nat} {v : V} (h : σ[i]? = some (some v)) (hd : AD K H v) : EvD K (tVar i) σ H := ed_of (ev_var h) fun _ e => hd.ex e
theorem ed_nil : EvDA K tNil 0 σ H := fun H1 e Q q => q [] H1 (Ex.refl H1) rfl fun v hv => by cases hv
theorem ed_cons {te : TE} {ta : TA} {n : Nat} (h1 : EvD K te σ H) (h2 : EvDA K ta n σ H) : EvDA K (tCons te ta) (n + 1) σ H := fun H1 e Q q =>
  h1 H1 e _ fun v H2 e2 hv => h2 H2 (e.trans e2) _ fun vs H3 e3 hl hvs => q (v :: vs) H3 (e2.trans e3) (by rw [List.length_cons, hl]) fun x hx => by
    rcases List.mem_cons.mp hx with rfl | hx
    · exact hv.ex e3
    · exact hvs x hx
theorem ed_tup {ta : TA} {n : Nat} (h : EvDA K ta n σ H) (hn : n ≤ 1000) : EvD K (tTup ta) σ H := fun H1 e Q q =>
  h H1 e _ fun vs H2 e2 hl hvs => ⟨Nat.le_of_lt (small1000 (by omega)), fun t ht => by
    obtain ⟨ds, hds⟩ := ad_all hvs
    exact q _ _ (e2.trans (Ex.new ht)) ⟨_, .tup (st_of upd_same) (dpa_ex (Ex.new ht) _ _ hds)⟩⟩
end
section
variable {K : PySem.W.Frag} {H : Hp} {σ : L2.St} {D : Ends} {tz : TS} {ta : TA} {i n : Nat}
theorem q_asgD (h : EvDA K ta n σ H) (hn : n ≤ 1000) (k : ∀ vs l Hc, Ex H Hc → Hc l = none → vs.length = n → (∀ v ∈ vs, AD K Hc v) → tz D (σ.set i (some (.ref l))) (upd Hc l (.lst vs))) : tSeq (tAsg (tLst ta) (gName i)) tz D σ H :=
  h H (Ex.refl H) _ fun vs H2 e2 hl hvs => ⟨Nat.le_of_lt (small1000 (by omega)), fun l hl2 => k vs l H2 e2 hl2 hl hvs⟩
theorem q_asgCat {j : Nat} {l : Addr} {xs : List V} (hv : σ[j]? = some (some (.ref l))) (hx : H l = some (.lst xs)) (hxl : xs.length ≤ 1000) (hxs : ∀ v ∈ xs, AD K H v) (h : EvDA K ta n σ H) (hn : n ≤ 1000)
    (k : ∀ vs l2 Hc, Ex H Hc → Hc l2 = none → vs.length = n → (∀ v ∈ xs ++ vs, AD K Hc v) → tz D (σ.set i (some (.ref l2))) (upd Hc l2 (.lst (xs ++ vs)))) : tSeq (tAsg (tOp rCat (tVar j) (tLst ta)) (gName i)) tz D σ H :=
  ⟨.ref l, hv, h H (Ex.refl H) _ fun vs H2 e2 hl hvs => ⟨Nat.le_of_lt (small1000 (by omega)), fun l3 hl3 => ⟨l, l3, xs, vs, rfl, rfl, (e2.trans (Ex.new hl3)) _ _ hx, upd_same, Nat.le_trans (show xs.length + vs.length ≤ 2000 by omega) (by decide), fun l2 hl2 =>
    k vs l2 _ (e2.trans (Ex.new hl3)) hl2 hl fun v hv' => by
      rcases List.mem_append.mp hv' with h1 | h1
      · exact (hxs v h1).ex (e2.trans (Ex.new hl3))
      · exact (hvs v h1).ex (Ex.new hl3)⟩⟩⟩
end
section
variable {P : Program} {w : World} {K : PySem.W.Frag} {mg : Str → Option Value} {base : Heap}
abbrev sOdd : Stmt := topS 26
theorem scOdd : FnScope ["bag", "winding", "girth", "growth", "end", "some"] ["bag", "winding"] (defScope sOdd) := ⟨rfl, rfl, rfl, by decide +kernel, rfl, by decide +kernel, by decide +kernel⟩
def spOdd (K : PySem.W.Frag) : Sp := fun vs H Q _ => ∃ (p : Addr) (g h e : Nat) (v : V), vs = [.ref p, v] ∧ Bag H p ∧ Dp K H v (wD g h e) ∧ g ≤ 16 ∧
  ∀ l xs H2, Bx p H H2 → Bag H2 p → H2 l = some (.lst xs) → l ≠ p → xs.length ≤ 100 → (∀ x ∈ xs, AD K H2 x) → Q (.ref l) H2
theorem ok_odd {f : Addr} {fd : FuncData} (F : Fun K "_law_odd" "_law_odd" sOdd f fd) (ml : mg "list" = none) (ms : mg "str" = none) {fo : Addr} {fdo : FuncData} (O : Can P w K mg base "_law_of" 2 fo fdo ["bag", "some"] (spOf K)) :
    FnOk P w K mg base CX0 3 f fd ["bag", "winding"] (spOdd K) := by
  refine F.ok scOdd (fun vs H Q E h => ?_) (fun cdv A outer s H vs Q E hr h => ?_)
  · obtain ⟨p, g, h, e, v, rfl, _⟩ := h
    rfl
  obtain ⟨p, g, h, e, v, rfl, hb, hw, hg, q⟩ := h
  obtain ⟨wa, rfl, hwq⟩ := wd_get hw
  have tp3 : ∀ {X : Cx} {e1 e2 e3 : Expr} {t1 t2 t3 : TE}, True := trivial
  refine ⟨_, pss_cons (ps_asg (pv 1) (pg_tup rfl (pgs_cons (pg_name (i := 2) scOdd.nd rfl (.inl rfl)) (pgs_cons (pg_name (i := 3) scOdd.nd rfl (.inl rfl)) (pgs_cons (pg_name (i := 4) scOdd.nd rfl (.inl rfl)) pgs_nil)))))
    (pss_cons (ps_set (i := 5) scOdd.nd rfl (.inl rfl) (pe_lst (pa_cons (pv 1) (pa_cons (pe_callTy call_list_of (by rfl) ml PyProof.Rows.boot_list (pa_cons (pv 1) pa_nil)) (pa_cons (pe_slice sl_tup (pv 1) po_none (po_some pe_int)) (pa_cons (pe_op op_catT (pv 1) (pe_tup (pa_cons pe_int pa_nil)))
      (pa_cons (pe_tup (pa_cons pe_int (pa_cons pe_int (pa_cons pe_int pa_nil)))) (pa_cons (pe_tup (pa_cons pe_int (pa_cons pe_int (pa_cons pe_int pa_nil)))) (pa_cons (pe_tup (pa_cons pe_int (pa_cons pe_int (pa_cons pe_int pa_nil))))
      (pa_cons (pe_tup (pa_cons pe_int (pa_cons (pe_un un_neg pe_int) (pa_cons pe_int pa_nil)))) pa_nil))))))))))
    (pss_cons (ps_set (i := 5) scOdd.nd rfl (.inl rfl) (pe_op op_cat (pv 5) (pe_lst (pa_cons (pe_tup (pa_cons pe_int (pa_cons pe_int (pa_cons pe_int pa_nil)))) (pa_cons (pe_tup (pa_cons pe_bl (pa_cons pe_int (pa_cons pe_int pa_nil)))) (pa_cons (pe_tup (pa_cons pe_int (pa_cons pe_bl (pa_cons pe_int pa_nil))))
      (pa_cons (pe_tup (pa_cons pe_int (pa_cons pe_int (pa_cons pe_bl pa_nil)))) (pa_cons (pe_tup (pa_cons (pv 2) (pa_cons (pv 3) (pa_cons pe_non pa_nil)))) (pa_cons pe_non (pa_cons pe_int (pa_cons (pe_tup pa_nil) pa_nil)))))))))))
    (pss_cons (ps_expr (pe_bm PySem.F.plainAttrs_list PySem.F.slot_list_append PySem.F.type_list_append mt_append (pv 5) (pa_cons (pe_tup (pa_cons (pe_callTy call_str_int (by rfl) ms PyProof.Rows.boot_str (pa_cons (pv 2) pa_nil)) (pa_cons (pv 3) (pa_cons (pv 4) pa_nil)))) pa_nil)))
    (pss_one (ps_ret (pe_op op_cat (pv 5) (pe_lst (pa_cons (pe_tup (pa_cons (pe_op op_add (pv 2) (pcall O hr (pa_cons (pv 0) (pa_cons (pe_lst (pa_cons (pe_un un_neg pe_int) (pa_cons pe_int (pa_cons pe_int (pa_cons (pe_un un_neg pe_int) pa_nil))))) pa_nil)))) (pa_cons (pv 3) (pa_cons (pv 4) pa_nil))))
      (pa_cons (pe_tup (pa_cons (pv 3) (pa_cons (pv 2) (pa_cons (pv 4) pa_nil)))) pa_nil)))))))))  , ?_⟩
  refine ⟨_, rfl, wa, _, rfl, hwq, rfl, vi g, _, rfl, vi h, _, rfl, vi e, _, rfl, rfl, ?_⟩
  have edl : ∀ {σ : L2.St} {H1 : Hp}, Ex H H1 → σ[1]? = some (some (.ref wa)) → EvD K (tCB (fun xs H Q => ∃ p ys, xs = [.ref p] ∧ (SqL K H p ys ∨ SqT K H p ys) ∧ ∀ l, H l = none → Q (.ref l) (upd H l (.lst ys))) (tCons (tVar 1) tNil)) σ H1 := fun {σ H1} e1 hσ H2 e2 Q q =>
    ⟨.ref wa, hσ, wa, _, rfl, .inr (ex_t (e1.trans e2) hwq), fun l hl => q _ _ (Ex.new hl) ⟨.list [di g, di h, di e], .lst (sq_of upd_same) (.cons (.int _) (.cons (.int _) (.cons (.int _) .nil)))⟩⟩
  have edsl : ∀ {σ : L2.St} {H1 : Hp}, Ex H H1 → σ[1]? = some (some (.ref wa)) → EvD K (tSl (rSlT K) (tVar 1) tNoPart (tPart (tC (.int 2)))) σ H1 := fun {σ H1} e1 hσ H2 e2 Q q =>
    ⟨.ref wa, hσ, 2, rfl, wa, _, rfl, ex_t (e1.trans e2) hwq, (by show ¬ (HT.sIx 3 0 none = 0 ∧ HT.sIx 3 3 (some 2) = 3); decide), fun l hl => q _ _ (Ex.new hl) ⟨.tuple [di g, di h], .tup (st_of upd_same) (.cons (.int _) (.cons (.int _) .nil))⟩⟩
  have edc : ∀ {σ : L2.St} {H1 : Hp}, Ex H H1 → σ[1]? = some (some (.ref wa)) → EvD K (tOp (rCatT K) (tVar 1) (tTup (tCons (tC (.int 0)) tNil))) σ H1 := fun {σ H1} e1 hσ H2 e2 Q q =>
    ⟨.ref wa, hσ, by show 1 ≤ sizeLine; decide, fun t ht => ⟨wa, t, _, _, rfl, rfl, ex_t ((e1.trans e2).trans (Ex.new ht)) hwq, st_of upd_same, by simp, by show 4 ≤ sizeLine; decide, fun z => (by cases z), fun _ l hl => q _ _ ((Ex.new ht).trans (Ex.new hl)) ⟨.tuple [di g, di h, di e, .int 0], .tup (st_of upd_same) (.cons (.int _) (.cons (.int _) (.cons (.int _) (.cons (.int _) .nil))))⟩⟩⟩
  have edn : ∀ {σ : L2.St} {H1 : Hp} {i : Int}, EvD K (tUn (rU fun i => .int (-i)) (tC (.int i))) σ H1 := ed_of (ev_un ev_c ru_neg) fun _ _ => ⟨_, .int _⟩
  refine q_asgD (K := K) (n := 8) (ed_cons (ed_var rfl ⟨_, hw⟩) (ed_cons (edl (Ex.refl H) rfl) (ed_cons (edsl (Ex.refl H) rfl) (ed_cons (edc (Ex.refl H) rfl) (ed_cons (ed_tup (ed_cons ed_int (ed_cons ed_int (ed_cons ed_int ed_nil))) (by decide)) (ed_cons (ed_tup (ed_cons ed_int (ed_cons ed_int (ed_cons ed_int ed_nil))) (by decide))
    (ed_cons (ed_tup (ed_cons ed_int (ed_cons ed_int (ed_cons ed_int ed_nil))) (by decide)) (ed_cons (ed_tup (ed_cons ed_int (ed_cons edn (ed_cons ed_int ed_nil))) (by decide)) ed_nil)))))))) (by decide) fun vs l Hc ec hl hlen hvs => ?_
  have el := Ex.new (o := .lst vs) hl
  have hxl := upd_same (H := Hc) (a := l) (o := .lst vs)
  have e1 := ec.trans el
  have hvs1 : ∀ v ∈ vs, AD K (upd Hc l (.lst vs)) v := fun v hv => (hvs v hv).ex el
  generalize upd Hc l (.lst vs) = H1 at el hxl e1 hvs1
  refine q_asgCat (K := K) (n := 8) rfl hxl (by omega) hvs1 (ed_cons (ed_tup (ed_cons ed_int (ed_cons ed_int (ed_cons ed_int ed_nil))) (by decide)) (ed_cons (ed_tup (ed_cons ed_bl (ed_cons ed_int (ed_cons ed_int ed_nil))) (by decide)) (ed_cons (ed_tup (ed_cons ed_int (ed_cons ed_bl (ed_cons ed_int ed_nil))) (by decide))
    (ed_cons (ed_tup (ed_cons ed_int (ed_cons ed_int (ed_cons ed_bl ed_nil))) (by decide)) (ed_cons (ed_tup (ed_cons (ed_var rfl ⟨_, .int _⟩) (ed_cons (ed_var rfl ⟨_, .int _⟩) (ed_cons ed_non ed_nil))) (by decide)) (ed_cons ed_non (ed_cons ed_int (ed_cons (ed_tup ed_nil (by decide)) ed_nil)))))))) (by decide) fun ws l2 Hd ed hl2 hlen2 hws => ?_
  generalize hzs : vs ++ ws = zs at hws
  have hzl : zs.length = 16 := by rw [← hzs, List.length_append]; omega
  have el2 := Ex.new (o := .lst zs) hl2
  have hx2 := upd_same (H := Hd) (a := l2) (o := .lst zs)
  generalize upd Hd l2 (.lst zs) = H2 at el2 hx2
  have eHd := e1.trans ed
  refine ⟨.ref l2, rfl, .inl ⟨rfl, _, sq_of hx2⟩, vi g, rfl, _, rfl, ?_, vi h, rfl, vi e, rfl, by show 3 ≤ sizeLine; decide, fun t ht => ?_⟩
  · exact Nat.lt_of_le_of_lt (Nat.log2_le_self _) (by show g < 1920; omega)
  have et := Ex.new (o := .tup [.str (toString (g : Int)), vi h, vi e]) ht
  have hxt := upd_same (H := H2) (a := t) (o := .tup [.str (toString (g : Int)), vi h, vi e])
  generalize upd H2 t (.tup [.str (toString (g : Int)), vi h, vi e]) = H3 at et hxt
  have h3l := et _ _ hx2
  refine ⟨l2, zs, .ref t, rfl, rfl, h3l, small1000 (by omega), ?_⟩
  have e4 : Ex Hd (upd H3 l2 (.lst (zs ++ [.ref t]))) := Ex.mut (el2.trans et) hl2
  have h4 := upd_same (H := H3) (a := l2) (o := .lst (zs ++ [.ref t]))
  have h4t : upd H3 l2 (.lst (zs ++ [.ref t])) t = some (.tup [.str (toString (g : Int)), vi h, vi e]) := by
    rw [upd_ne (ne_of_none hx2 ht).symm]
    exact hxt
  generalize upd H3 l2 (.lst (zs ++ [.ref t])) = H4 at e4 h4 h4t
  have hal : ∀ v ∈ zs ++ [V.ref t], AD K H4 v := fun v hv => by
    rcases List.mem_append.mp hv with h1 | h1
    · exact (hws v h1).ex e4
    · rw [List.mem_singleton.mp h1]
      exact ⟨_, .tup (st_of h4t) (.cons (.str _) (.cons (.int _) (.cons (.int _) .nil)))⟩
  have eH4 := eHd.trans e4
  have hb4 := hb.ex eH4
  have hne : l2 ≠ p := bag_ne (hb.ex eHd) hl2
  refine ⟨.ref l2, rfl, vi g, rfl, .ref p, rfl, 1, rfl, 12, rfl, by show 4 ≤ sizeLine; decide, fun lo hlo => ?_⟩
  refine ⟨p, lo, _, rfl, hb4.ex (Ex.new hlo), upd_same, bag_ne hb4 hlo, by simp, by show 4 ≤ 1000; decide, fun v H5 b5 hb5 hv => ?_⟩
  have b45 : Bx p H4 H5 := (Bx.of (Ex.new hlo)).trans b5
  obtain ⟨k, rfl⟩ : ∃ k, v = .int k := by
    rcases List.mem_cons.mp hv with rfl | hv
    · exact ⟨_, rfl⟩
    rcases List.mem_cons.mp hv with rfl | hv
    · exact ⟨_, rfl⟩
    rcases List.mem_cons.mp hv with rfl | hv
    · exact ⟨_, rfl⟩
    · rw [List.mem_singleton.mp hv]
      exact ⟨_, rfl⟩
  refine ⟨_, _, rfl, rfl, vi h, rfl, vi e, rfl, by show 3 ≤ sizeLine; decide, fun t1 ht1 => ?_⟩
  refine ⟨vi h, rfl, vi g, rfl, vi e, rfl, by show 3 ≤ sizeLine; decide, fun t2 ht2 => ?_⟩
  refine ⟨by show 2 ≤ sizeLine; decide, fun l3 hl3 => ?_⟩
  have y1 := Ex.new (o := .tup [.int ((g : Int) + k), vi h, vi e]) ht1
  have y2 := Ex.new (o := .tup [vi h, vi g, vi e]) ht2
  have y3 := Ex.new (o := .lst [.ref t1, .ref t2]) hl3
  have z1 := (y2.trans y3) _ _ (upd_same (H := H5) (a := t1) (o := .tup [.int ((g : Int) + k), vi h, vi e]))
  have z2 := y3 _ _ (upd_same (H := upd H5 t1 (.tup [.int ((g : Int) + k), vi h, vi e])) (a := t2) (o := .tup [vi h, vi g, vi e]))
  have z3 := upd_same (H := upd (upd H5 t1 (.tup [.int ((g : Int) + k), vi h, vi e])) t2 (.tup [vi h, vi g, vi e])) (a := l3) (o := .lst [.ref t1, .ref t2])
  have y := (y1.trans y2).trans y3
  revert z1 z2 z3 y
  generalize upd (upd (upd H5 t1 (.tup [.int ((g : Int) + k), vi h, vi e])) t2 (.tup [vi h, vi g, vi e])) l3 (.lst [.ref t1, .ref t2]) = H6
  intro z1 z2 z3 y
  refine ⟨l2, l3, _, _, rfl, rfl, y _ _ (b45 _ _ hne h4), z3, ?_, fun p5 hp5 => ?_⟩
  · rw [List.length_append]
    exact Nat.le_of_lt (small1000 (by simp; omega))
  have y5 := Ex.new (o := .lst (zs ++ [.ref t] ++ [.ref t1, .ref t2])) hp5
  refine q p5 _ _ ((Bx.of eH4).trans (b45.trans (Bx.of (y.trans y5)))) (hb5.ex (y.trans y5)) upd_same (bag_ne (hb5.ex y) hp5) ?_ fun x hx => ?_
  · rw [List.length_append, List.length_append]
    simp
    omega
  · rcases List.mem_append.mp hx with h1 | h1
    · obtain ⟨d, hd⟩ := hal x h1
      exact (ad_bx hb4 hb5 b45 d x hd).ex (y.trans y5)
    · rcases List.mem_cons.mp h1 with rfl | h1
      · exact ⟨_, .tup (st_of (y5 _ _ z1)) (.cons (.int _) (.cons (.int _) (.cons (.int _) .nil)))⟩
      · rw [List.mem_singleton.mp h1]
        exact ⟨_, .tup (st_of (y5 _ _ z2)) (.cons (.int _) (.cons (.int _) (.cons (.int _) .nil)))⟩
end
end Nr
namespace Nr
open PySem PySem.Spec PyProof.Rows L2 Evl

/-! data that can be compared -/
def Shp (k : Nat) (d : PyData) : Prop := d.canLay0 = true ∧ d.depth ≤ k
theorem shp_int (k : Nat) (i : Int) : Shp k (.int i) := ⟨rfl, Nat.zero_le _⟩
theorem shp_all {α : Type} {f : α → PyData} {k : Nat} (h : ∀ x, Shp k (f x)) : ∀ l : List α, PyData.canLayAll0 (l.map f) = true ∧ PyData.depthAll (l.map f) ≤ k
  | [] => ⟨rfl, Nat.zero_le _⟩
  | x :: l => by
    have a := h x
    have b := shp_all h l
    rw [List.map_cons, PyData.canLayAll0, PyData.depthAll, a.1, b.1]
    exact ⟨rfl, Nat.max_le.mpr ⟨a.2, b.2⟩⟩
theorem shp_list {α : Type} {f : α → PyData} {k : Nat} (h : ∀ x, Shp k (f x)) (l : List α) : Shp (k + 1) (.list (l.map f)) := by
  have b := shp_all h l
  refine ⟨?_, ?_⟩
  · rw [PyData.canLay0]; exact b.1
  · rw [PyData.depth]; exact Nat.succ_le_succ b.2
theorem shp_tuple {α : Type} {f : α → PyData} {k : Nat} (h : ∀ x, Shp k (f x)) (l : List α) : Shp (k + 1) (.tuple (l.map f)) := by
  have b := shp_all h l
  refine ⟨?_, ?_⟩
  · rw [PyData.canLay0]; exact b.1
  · rw [PyData.depth]; exact Nat.succ_le_succ b.2
theorem Shp.ok {k : Nat} {d : PyData} (h : Shp k d) (hk : k ≤ 64) : SeqAt.shaped d = true := by
  unfold SeqAt.shaped
  rw [h.1, Bool.true_and, decide_eq_true_eq]
  exact Nat.le_trans h.2 hk
theorem sh_td (p : Nat × Nat) : SeqAt.shaped (td p) = true := (shp_tuple (f := di) (fun n : Nat => shp_int 0 (n : Int)) [p.1, p.2]).ok (by decide)
theorem sh_lst (l : List Nat) : SeqAt.shaped (.list (l.map di)) = true := (shp_list (f := di) (fun n : Nat => shp_int 0 (n : Int)) l).ok (by decide)
theorem sh_tup (l : List Nat) : SeqAt.shaped (.tuple (l.map di)) = true := (shp_tuple (f := di) (fun n : Nat => shp_int 0 (n : Int)) l).ok (by decide)
theorem eqvAll_dis : ∀ a b : List Nat, PyData.eqvAll (a.map di) (b.map di) = decide (a = b)
  | [], [] => rfl
  | [], y :: b => by simp [PyData.eqvAll]
  | x :: a, [] => by simp [PyData.eqvAll]
  | x :: a, y :: b => by
    rw [List.map_cons, List.map_cons, PyData.eqvAll, eqvAll_dis a b, PyData.eqv]
    rw [Bool.eq_iff_iff, Bool.and_eq_true, beq_iff_eq, decide_eq_true_eq, decide_eq_true_eq, List.cons.injEq]
    constructor
    · rintro ⟨h1, h2⟩
      exact ⟨by omega, h2⟩
    · rintro ⟨h1, h2⟩
      exact ⟨by omega, h2⟩
theorem eqv_lst (a b : List Nat) : PyData.eqv (.list (a.map di)) (.list (b.map di)) = decide (a = b) := by rw [PyData.eqv]; exact eqvAll_dis a b
theorem eqv_tup (a b : List Nat) : PyData.eqv (.tuple (a.map di)) (.tuple (b.map di)) = decide (a = b) := by rw [PyData.eqv]; exact eqvAll_dis a b
theorem eqv_td (p q : Nat × Nat) : PyData.eqv (td p) (td q) = decide (p = q) := by
  have k := eqv_tup [p.1, p.2] [q.1, q.2]
  refine Eq.trans k ?_
  rw [decide_eq_decide]
  constructor
  · intro z
    injection z with h1 h2
    injection h2 with h2 _
    exact Prod.ext h1 h2
  · rintro rfl
    rfl
section
variable {K : PySem.W.Frag} {σ : L2.St} {H : Hp} {x y : V} {d e : PyData}
theorem rv_neD (hx : Dp K H x d) (hy : Dp K H y e) (sd : SeqAt.shaped d = true) (se : SeqAt.shaped e = true) : RV (rNeD K) x y H (.bl (!PyData.eqv d e)) := fun H1 ex _ q => ⟨d, e, dp_ex ex _ _ hx, dp_ex ex _ _ hy, sd, se, q H1 (Ex.refl H1)⟩
theorem rv_eqD (hx : Dp K H x d) (hy : Dp K H y e) (sd : SeqAt.shaped d = true) (se : SeqAt.shaped e = true) : RV (rEqD K) x y H (.bl (PyData.eqv d e)) := fun H1 ex _ q => ⟨d, e, dp_ex ex _ _ hx, dp_ex ex _ _ hy, sd, se, q H1 (Ex.refl H1)⟩
theorem td_of {a : Addr} {p : Nat × Nat} (h : SqT K H a [vi p.1, vi p.2]) : Dp K H (.ref a) (td p) := .tup h (.cons (.int _) (.cons (.int _) .nil))
theorem cells_of {a : Addr} {l : List Nat} (h : SqT K H a (l.map vi)) : Dp K H (.ref a) (.tuple (l.map di)) := .tup h (dis_vis l)
theorem lst_of {a : Addr} {l : List Nat} (h : H a = some (.lst (l.map vi))) : Dp K H (.ref a) (.list (l.map di)) := .lst (sq_of h) (dis_vis l)
end
theorem td_noL (p : Nat × Nat) : noL (td p) = true := noL_td p
theorem wD_noL (g h e : Nat) : noL (wD g h e) = true := by simp [noL, noLs]
end Nr
namespace Nr
open PySem PySem.Spec PyProof.Rows L2 Evl
open LamX (TabS TabB CodeO ExtN)

/-! what stands at each turn -/
theorem tab_bx {H H' : Hp} {p T : Addr} {q : Str} (t : TabS H T q) (b0 : Bag H p) (b : Bx p H H') : TabS H' T q := by
  obtain ⟨ps, h1, h2, h3⟩ := t
  obtain ⟨c, z, hz⟩ := b0
  have nT : T ≠ p := by
    rintro rfl
    rw [hz] at h1
    cases h1
  refine ⟨ps, b _ _ nT h1, h2, fun pos cv hc => ?_⟩
  obtain ⟨c', e1, e2⟩ := h3 pos cv hc
  refine ⟨c', e1, b _ _ ?_ e2⟩
  rintro rfl
  rw [hz] at e2
  have e2 := Option.some.inj e2
  unfold CodeO at e2
  cases e2
theorem bag_exn {H H' : Hp} {p : Addr} (b : Bag H p) (e : ExtN H H') : Bag H' p := by
  obtain ⟨c, z, hz⟩ := b
  exact ⟨c, z, e _ _ hz (fun _ z => by cases z)⟩
structure LS (K : PySem.W.Frag) (Hs : Hp) (p T : Addr) (wv : V) (g h e : Nat) (H : Hp) : Prop where
  ext : ExtN Hs H
  bag : Bag H p
  tab : TabS H T lamQ
  win : Dp K H wv (wD g h e)
section
variable {K : PySem.W.Frag} {Hs : Hp} {p T : Addr} {wv : V} {g h e : Nat} {H H' : Hp}
theorem LS.ex (s : LS K Hs p T wv g h e H) (x : Ex H H') : LS K Hs p T wv g h e H' := ⟨s.ext.trans (exn_of x), s.bag.ex x, s.tab.ext x, dp_ex x _ _ s.win⟩
theorem LS.exn (s : LS K Hs p T wv g h e H) (x : ExtN H H') (t : TabS H' T lamQ) : LS K Hs p T wv g h e H' := ⟨s.ext.trans x, bag_exn s.bag x, t, dp_exN x _ _ s.win⟩
theorem LS.bx (s : LS K Hs p T wv g h e H) (hp : Hs p = none) (x : Bx p H H') (b : Bag H' p) : LS K Hs p T wv g h e H' :=
  ⟨fun a o ha no => x a o (ne_of_none ha hp) (s.ext a o ha no), b, tab_bx s.tab s.bag x, dp_bx s.bag.noT x _ _ (wD_noL g h e) s.win⟩
end
theorem sh_str (n g h e : Nat) : SeqAt.shaped (.list (strM n g h e)) = true := by
  unfold strM
  refine (shp_list (k := 2) (f := strD n g h e (wholeM n g h)) (fun q => ?_) _).ok (by decide)
  have a := shp_tuple (f := di) (fun n : Nat => shp_int 0 (n : Int)) [q.1 / Nat.gcd q.1 (wholeM n g h), wholeM n g h / Nat.gcd q.1 (wholeM n g h)]
  have b := shp_tuple (f := di) (fun n : Nat => shp_int 0 (n : Int)) [q.2 / Nat.gcd q.2 (wholeM n g h), wholeM n g h / Nat.gcd q.2 (wholeM n g h)]
  have c := shp_tuple (f := di) (fun n : Nat => shp_int 0 (n : Int)) (pricksM n g h e q.1 (wholeM n g h))
  unfold strD
  refine ⟨?_, ?_⟩
  · rw [PyData.canLay0, PyData.canLayAll0, PyData.canLayAll0, PyData.canLayAll0, PyData.canLayAll0, show (lowD q.1 (wholeM n g h)).canLay0 = true from a.1, show (lowD q.2 (wholeM n g h)).canLay0 = true from b.1, c.1]
    rfl
  · rw [PyData.depth, PyData.depthAll, PyData.depthAll, PyData.depthAll, PyData.depthAll]
    refine Nat.succ_le_succ ?_
    exact Nat.max_le.mpr ⟨a.2, Nat.max_le.mpr ⟨b.2, Nat.max_le.mpr ⟨c.2, Nat.zero_le _⟩⟩⟩
theorem str_self (n g h e : Nat) : PyData.eqv (.list (strM n g h e)) (.list (strM n g h e)) = true := by
  have := sh_str n g h e
  unfold SeqAt.shaped at this
  rw [Bool.and_eq_true] at this
  exact PySem.SeqAt.eqv_refl _ this.1
section
variable {K : PySem.W.Frag} {σ : L2.St} {H : Hp} {D : Ends} {tu : TS}
/-- if stretches(..) != _law_stretches(..): .. -/
theorem s_neStr {T : Addr} {wv : V} {n g h e i j : Nat} (hi : σ[i]? = some (some (vi n))) (hj : σ[j]? = some (some wv)) (hw : Dp K H wv (wD g h e)) (hn : n ≤ 24) (hg : 4 ≤ g) (hg2 : g ≤ 16) (hh : h ≤ 8) (he : e ≤ 1) (hT : TabS H T lamQ)
    (k : ∀ H', ExtN H H' → TabS H' T lamQ → D.nx σ H') :
    tIfS (tTest (tOp (rNeD K) (tCall (spStretches K) [] E0 (tCons (tVar i) (tCons (tVar j) tNil))) (tCall (spLStr K T) [] E0 (tCons (tVar i) (tCons (tVar j) tNil))))) tu tNext D σ H := by
  refine ⟨vi n, hi, wv, hj, n, g, h, e, wv, rfl, hw, hn, hg, hg2, hh, fun rp xs H1 hrp e1 hrx hrd => ?_⟩
  refine ⟨vi n, hi, wv, hj, n, g, h, e, wv, rfl, dp_ex e1 _ _ hw, hn, hg, hg2, hh, he, hT.ext e1, fun lp ys H2 e2 t2 hly hld => ?_⟩
  refine ⟨.list (strM n g h e), .list (strM n g h e), .lst (sq_of (e2 _ _ hrx (fun _ z => by cases z))) (dpa_exN e2 _ _ hrd), .lst (sq_of hly) hld, sh_str n g h e, sh_str n g h e, false, ?_, ?_⟩
  · rw [str_self]
    rfl
  · exact k H2 ((exn_of e1).trans e2) t2
theorem q_neStr {tz : TS} {T : Addr} {wv : V} {n g h e i j : Nat} (hi : σ[i]? = some (some (vi n))) (hj : σ[j]? = some (some wv)) (hw : Dp K H wv (wD g h e)) (hn : n ≤ 24) (hg : 4 ≤ g) (hg2 : g ≤ 16) (hh : h ≤ 8) (he : e ≤ 1) (hT : TabS H T lamQ)
    (k : ∀ H', ExtN H H' → TabS H' T lamQ → tz D σ H') :
    tSeq (tIfS (tTest (tOp (rNeD K) (tCall (spStretches K) [] E0 (tCons (tVar i) (tCons (tVar j) tNil))) (tCall (spLStr K T) [] E0 (tCons (tVar i) (tCons (tVar j) tNil))))) tu tNext) tz D σ H := s_neStr (D := { D with nx := tz D }) hi hj hw hn hg hg2 hh he hT k
/-- pricked(n, (g, h, e), (t, b)) == [x, y, z] -/
theorem ev_pr {n g h e t b x y z : Nat} (hl : pricksM n g h e t b = [x, y, z]) (hg : 2 ≤ g ∧ g ≤ 1000 ∧ h ≤ 1000 ∧ n ≤ 31 ∧ 0 < b ∧ b ≤ 1000) :
    Ev (tOp (rEqD K) (tCall (spPricked K) [] E0 (tCons (tC (vi n)) (tCons (tTup (tCons (tC (vi g)) (tCons (tC (vi h)) (tCons (tC (vi e)) tNil)))) (tCons (tTup (tCons (tC (vi t)) (tCons (tC (vi b)) tNil))) tNil)))) (tLst (tCons (tC (vi x)) (tCons (tC (vi y)) (tCons (tC (vi z)) tNil))))) σ H (.bl true) := by
  intro H1 e1 Q q
  refine ⟨by show 3 ≤ sizeLine; decide, fun t1 ht1 => ⟨by show 2 ≤ sizeLine; decide, fun t2 ht2 => ?_⟩⟩
  have y1 := Ex.new (o := .tup [vi g, vi h, vi e]) ht1
  have y2 := Ex.new (o := .tup [vi t, vi b]) ht2
  refine ⟨n, g, h, e, t, b, .ref t1, .ref t2, rfl, .tup (st_of (y2 _ _ upd_same)) (.cons (.int _) (.cons (.int _) (.cons (.int _) .nil))), .tup (st_of upd_same) (.cons (.int _) (.cons (.int _) .nil)), hg.1, hg.2.1, hg.2.2.1, hg.2.2.2.1, hg.2.2.2.2.1,
    Nat.lt_of_le_of_lt hg.2.2.2.2.2 (by decide), fun lp H2 hlp e2 hlx => ?_⟩
  refine ⟨by show 3 ≤ sizeLine; decide, fun l3 hl3 => ?_⟩
  rw [hl] at hlx
  have y3 := Ex.new (o := .lst [vi x, vi y, vi z]) hl3
  refine ⟨_, _, lst_of (l := [x, y, z]) (y3 _ _ hlx), lst_of (l := [x, y, z]) upd_same, sh_lst _, sh_lst _, ?_⟩
  rw [eqv_lst, decide_eq_true rfl]
  exact q _ ((y1.trans y2).trans (e2.trans y3))
end
end Nr
namespace Nr
open PySem PySem.Spec PyProof.Rows L2 Evl
open LamX (TabS TabB CodeO ExtN)
theorem pricks_few (n g h e t b : Nat) : (pricksM n g h e t b).length ≤ 2 * n := by
  have k : (placesM n g h t b).length ≤ 2 * n := by
    unfold placesM
    rw [List.length_map]
    exact turnsF_len _ _ _ _ _
  have k2 := List.length_filter_le (fun p => decide (p < n)) (placesM n g h t b)
  unfold pricksM
  split
  · rw [List.length_reverse, List.length_map]
    omega
  · omega
theorem str_some (n g h e : Nat) : 0 < (strM n g h e).length := by
  have hlp : 0 < (topsM n g h).length := sortU_pos _ (by simp)
  unfold strM pairsM
  rw [List.length_map, List.length_zip, zip_tops _ _ hlp, Nat.min_self]
  exact hlp
section
variable {P : Program} {w : World} {K : PySem.W.Frag} {mg : Str → Option Value} {base : Heap}
abbrev sLaw : Stmt := topS 27
abbrev nLaw : List Str := ["script", "k", "bag", "winding", "thing", "found", "many", "turn", "angle"]
theorem scLaw : FnScope nLaw ["script"] (defScope sLaw) := ⟨rfl, rfl, rfl, by decide +kernel, rfl, by decide +kernel, by decide +kernel⟩
def spLaw (K : PySem.W.Frag) (T : Addr) : Sp := fun vs H Q _ => ∃ (a : Addr) (ns : List Int), vs = [.ref a] ∧ SqL K H a (ns.map V.int) ∧ ns.length ≤ 63 ∧ TabS H T lamQ ∧ ∀ H', Q (.bl true) H'
theorem ok_law {f T : Addr} {fd : FuncData} (F : Fun K "law" "law" sLaw f fd) (mr : mg "range" = none) (mm : mg "min" = none) (ml : mg "len" = none) (mi : mg "isinstance" = none) (mb : mg "bool" = none)
    {f1 : Addr} {fd1 : FuncData} (CB : Can P w K mg base "_law_bag" 1 f1 fd1 ["script", "k"] (spBag K)) {f2 : Addr} {fd2 : FuncData} (CW : Can P w K mg base "_law_winding" 3 f2 fd2 ["bag"] (spWind K))
    {f3 : Addr} {fd3 : FuncData} (CT : Can P w K mg base "_law_take" 1 f3 fd3 ["bag", "count"] spTake) {f4 : Addr} {fd4 : FuncData} (CO : Can P w K mg base "_law_of" 2 f4 fd4 ["bag", "some"] (spOf K))
    {f5 : Addr} {fd5 : FuncData} (CD : Can P w K mg base "_law_odd" 3 f5 fd5 ["bag", "winding"] (spOdd K)) {f6 : Addr} {fd6 : FuncData} (CI : Can P w K mg base "is_winding" 3 f6 fd6 ["thing"] (spIsWin K))
    {f7 : Addr} {fd7 : FuncData} (CJ : Can P w K mg base "_law_is_winding" 1 f7 fd7 ["thing"] (spIsWin K)) {f8 : Addr} {fd8 : FuncData} (CS : Can P w K mg base "stretches" 3 f8 fd8 ["many", "winding"] (spStretches K))
    {f9 : Addr} {fd9 : FuncData} (CR : Can P w K mg base "_law_stretches" 3 f9 fd9 ["many", "winding"] (spLStr K T)) {f10 : Addr} {fd10 : FuncData} (CA : Can P w K mg base "_law_angle" 3 f10 fd10 ["bag"] (spAngle K))
    {f11 : Addr} {fd11 : FuncData} (CP : Can P w K mg base "pricked" 2 f11 fd11 ["many", "winding", "angle"] (spPricked K)) {f12 : Addr} {fd12 : FuncData} (CQ : Can P w K mg base "_law_pricked" 1 f12 fd12 ["many", "winding", "angle"] (spLPr K)) :
    FnOk P w K mg base CX0 4 f fd ["script"] (spLaw K T) := by
  refine F.ok scLaw (fun vs H Q E h => ?_) (fun cdv A outer s H vs Q E hr h => ?_)
  · obtain ⟨a, ns, rfl, _⟩ := h
    rfl
  obtain ⟨a, ns, rfl, hS, hlen, hT, q⟩ := h
  have nd := scLaw.nd
  refine ⟨_, pss_cons (ps_for PassesOwn.never rfl (pi_range1 (by rfl) mr (pa_cons (pe_op op_add (pe_callB (call_min2 (by rfl)) (by rfl) mm PyProof.Rows.boot_min (pa_cons (pe_callB call_len_seq (by rfl) ml PySem.boot_len (pa_cons (pv 0) pa_nil)) (pa_cons pe_int pa_nil))) pe_int) pa_nil)) (pg_name (i := 1) nd rfl (.inl rfl))
      (pss_cons (ps_set (i := 2) nd rfl (.inl rfl) (pcall CB hr (pa_cons (pv 0) (pa_cons (pv 1) pa_nil))))
      (pss_cons (ps_set (i := 3) nd rfl (.inl rfl) (pcall CW hr (pa_cons (pv 2) pa_nil)))
      (pss_cons (ps_for PassesOwn.never rfl (pi_list (pcall CD hr (pa_cons (pv 2) (pa_cons (pv 3) pa_nil)))) (pg_name (i := 4) nd rfl (.inl rfl))
        (pss_cons (ps_set (i := 5) nd rfl (.inl rfl) (pcall CI hr (pa_cons (pv 4) pa_nil)))
        (pss_one (ps_if (PW.pt (pw_or (pt_not (pt_val (pe_callB call_isi (by rfl) mi boot_isinstance (pa_cons (pv 5) (pa_cons (pe_bltn (v := .ty "bool") (by rfl) mb boot_bool rfl) pa_nil)))))
          (pw_or1 (pt_cmpR op_ne (pv 5) (pcall CJ hr (pa_cons (pv 4) pa_nil)) (nomark _))))) (pss_one (ps_ret pe_bl)) pss_nil))))
      (pss_one (ps_for PassesOwn.never rfl (pi_list (pe_lst (pa_cons (pe_op op_add pe_int (pcall CT hr (pa_cons (pv 2) (pa_cons pe_int pa_nil)))) (pa_cons (pcall CO hr (pa_cons (pv 2) (pa_cons (pe_lst (pa_cons pe_int (pa_cons pe_int (pa_cons pe_int (pa_cons pe_int pa_nil))))) pa_nil))) pa_nil)))) (pg_name (i := 6) nd rfl (.inl rfl))
        (pss_cons (ps_if (pt_cmpR (op_neD hr.units) (pcall CS hr (pa_cons (pv 6) (pa_cons (pv 3) pa_nil))) (pcall CR hr (pa_cons (pv 6) (pa_cons (pv 3) pa_nil))) (nomark _)) (pss_one (ps_ret pe_bl)) pss_nil)
        (pss_cons (ps_for PassesOwn.never rfl (pi_range1 (by rfl) mr (pa_cons pe_int pa_nil)) (pg_name (i := 7) nd rfl (.inl rfl))
          (pss_cons (ps_set (i := 8) nd rfl (.inl rfl) (pcall CA hr (pa_cons (pv 2) pa_nil)))
          (pss_one (ps_if (pt_cmpR (op_neD hr.units) (pcall CP hr (pa_cons (pv 6) (pa_cons (pv 3) (pa_cons (pv 8) pa_nil)))) (pcall CQ hr (pa_cons (pv 6) (pa_cons (pv 3) (pa_cons (pv 8) pa_nil)))) (nomark _)) (pss_one (ps_ret pe_bl)) pss_nil))))
        (pss_cons (ps_expr (pe_bm PySem.F.plainAttrs_list PySem.F.slot_list_append PySem.F.type_list_append mt_append (pcall CP hr (pa_cons (pv 6) (pa_cons (pv 3) (pa_cons (pe_tup (pa_cons pe_int (pa_cons pe_int pa_nil))) pa_nil)))) (pa_cons pe_int pa_nil)))
        (pss_cons (ps_expr (pe_bm0 PySem.F.plainAttrs_list PySem.F.slot_list_pop PySem.F.type_list_pop mt_pop (pcall CS hr (pa_cons (pv 6) (pa_cons (pv 3) pa_nil)))))
        (pss_one (ps_if (pt_cmpR (op_neD hr.units) (pcall CS hr (pa_cons (pv 6) (pa_cons (pv 3) pa_nil))) (pcall CR hr (pa_cons (pv 6) (pa_cons (pv 3) pa_nil))) (nomark _)) (pss_one (ps_ret pe_bl)) pss_nil))))))))))))
    (pss_one (ps_ret (pe_and (pe_cmpR (op_eqD hr.units) (pcall CP hr (pa_cons pe_int (pa_cons (pe_tup (pa_cons pe_int (pa_cons pe_int (pa_cons pe_int pa_nil)))) (pa_cons (pe_tup (pa_cons pe_int (pa_cons pe_int pa_nil))) pa_nil)))) (pe_lst (pa_cons pe_int (pa_cons pe_int (pa_cons pe_int pa_nil)))) (nomark _))
      (pe_one (pe_cmpR (op_eqD hr.units) (pcall CP hr (pa_cons pe_int (pa_cons (pe_tup (pa_cons pe_int (pa_cons pe_int (pa_cons pe_int pa_nil)))) (pa_cons (pe_tup (pa_cons pe_int (pa_cons pe_int pa_nil))) pa_nil)))) (pe_lst (pa_cons pe_int (pa_cons pe_int (pa_cons pe_int pa_nil)))) (nomark _)))))), ?_⟩
  refine ⟨.ref a, rfl, a, _, rfl, .inl hS, _, _, rfl, _, _, rfl, rfl, _, rfl, ?_, ?_, for_range (lo := 0) (fun i σ' H' => ∃ y1 y2 y3 y4 y5 y6 y7 y8 : Option V, σ' = [some (.ref a), y1, y2, y3, y4, y5, y6, y7, y8] ∧ ExtN H H' ∧ TabS H' T lamQ)
    ⟨none, none, none, none, none, none, none, none, rfl, ExtN.refl H, hT⟩ ?_ ?_⟩
  · rw [List.length_map]
    split <;> omega
  · rw [List.length_map]
    split <;> omega
  · rintro i σ' H1 hi ⟨y1, y2, y3, y4, y5, y6, y7, y8, rfl, ex, hT1⟩
    have hi2 : i < 12 := by
      rw [List.length_map] at hi
      revert hi
      split <;> omega
    have e0 : (0 : Int) + (i : Int) = (i : Int) := Int.zero_add _
    have hS1 := exn_l ex hS
    -- bag
    refine ⟨.ref a, rfl, .int (0 + (i : Int)), rfl, a, ns, i, by rw [e0]; rfl, hS1, by omega, fun p H2 hp e2 hb2 => ?_⟩
    -- winding
    refine ⟨.ref p, rfl, p, rfl, hb2, ?_⟩
    rintro wv H3 b3 hb3 ⟨g, h, e, hg, hg2, hh, he, hw3⟩
    have L3 : LS K H1 p T wv g h e H3 := ⟨exn_of (Bx.ex hp e2 b3), hb3, tab_bx (hT1.ext e2) hb2 b3, hw3⟩
    -- odd things
    refine ⟨.ref p, rfl, wv, rfl, p, g, h, e, wv, rfl, hb3, hw3, hg2, fun l xs H4 b4 hb4 hl hlp hxl hAD => ?_⟩
    have L4 := L3.bx hp b4 hb4
    refine ⟨l, rfl, ⟨xs, sq_of hl⟩, for_list (K := K) (xs := xs) (fun j σ' H' => ∃ y4 y5 : Option V, σ' = [some (.ref a), some (.int (0 + (i : Int))), some (.ref p), some wv, y4, y5, y6, y7, y8] ∧ Ex H4 H')
      ⟨y4, y5, rfl, Ex.refl H4⟩ (fun j σ' H' _ ⟨_, _, _, e⟩ => sq_of (e _ _ hl)) ?_ ?_⟩
    · rintro j x σ' H5 hx ⟨y4, y5, rfl, e5⟩
      obtain ⟨d, hd⟩ := hAD x (List.mem_of_getElem? hx)
      refine ⟨x, rfl, x, d, rfl, dp_ex e5 _ _ hd, fun H6 e6 => ?_⟩
      have hd6 := dp_ex (e5.trans e6) _ _ hd
      refine s_when (b := false) (et_is (et_or (et_not (et_B (ev_isi (ev_var rfl) (.bl (isWinD d)) (kit_bool (.bool (isWinD d)))))) (fun _ => et_test (ev_op (ev_var rfl) (ev_call (ea_cons (ev_var rfl) ea_nil) (z := .bl (isWinD d)) (fun H7 e7 Q q E => ⟨x, d, rfl, dp_ex e7 _ _ hd6, fun H8 e8 => q H8 e8⟩)) (rv_ne rfl)))) ?_)
        (fun hb => by cases hb) (fun _ H7 e7 => ⟨_, _, rfl, e5.trans (e6.trans e7)⟩)
      simp [isBoolD]
    -- strips
    rintro σ' H5 ⟨y4', y5', rfl, e5⟩
    have L5 := L4.ex e5
    refine ⟨.ref p, rfl, p, 24, rfl, L5.bag, by decide, by decide, ?_⟩
    rintro _ H6 b6 hb6 ⟨r, rfl, hr24⟩
    have L6 := L5.bx hp b6 hb6
    refine ⟨_, _, rfl, rfl, .ref p, rfl, by show 4 ≤ sizeLine; decide, fun lo hlo => ?_⟩
    refine ⟨p, lo, _, rfl, hb6.ex (Ex.new hlo), upd_same, bag_ne hb6 hlo, by simp, by show 4 ≤ 1000; decide, fun v H7 b7 hb7 hv => ?_⟩
    have L7 := (L6.ex (Ex.new (o := .lst _) hlo)).bx hp b7 hb7
    refine ⟨by show 2 ≤ sizeLine; decide, fun lm hlm => ?_⟩
    have L8 := L7.ex (Ex.new (o := .lst [.int (1 + (r : Int)), v]) hlm)
    have h8m := upd_same (H := H7) (a := lm) (o := .lst [.int (1 + (r : Int)), v])
    have hmp : lm ≠ p := bag_ne hb7 hlm
    refine ⟨lm, rfl, ⟨_, sq_of upd_same⟩, for_list (K := K) (xs := [.int (1 + (r : Int)), v]) (fun j σ' H' => ∃ y6 y7 y8 : Option V, σ' = [some (.ref a), some (.int (0 + (i : Int))), some (.ref p), some wv, y4', y5', y6, y7, y8] ∧ LS K H1 p T wv g h e H' ∧ H' lm = some (.lst [.int (1 + (r : Int)), v]))
      ⟨y6, y7, y8, rfl, L8, h8m⟩ (fun j σ' H' _ ⟨_, _, _, _, _, z⟩ => sq_of z) ?_ ?_⟩
    · rintro j x σ' H9 hx ⟨y6, y7, y8, rfl, L9, h9m⟩
      obtain ⟨n, rfl, hn1, hn2⟩ : ∃ n : Nat, x = vi n ∧ 1 ≤ n ∧ n ≤ 24 := by
        have hm := List.mem_of_getElem? hx
        rcases List.mem_cons.mp hm with rfl | hm
        · exact ⟨1 + r, by show V.int _ = V.int _; rw [show ((1 + r : Nat) : Int) = 1 + (r : Int) by omega], by omega, by omega⟩
        · rw [List.mem_singleton.mp hm]
          rcases List.mem_cons.mp hv with rfl | hv
          · exact ⟨1, rfl, by decide, by decide⟩
          rcases List.mem_cons.mp hv with rfl | hv
          · exact ⟨2, rfl, by decide, by decide⟩
          rcases List.mem_cons.mp hv with rfl | hv
          · exact ⟨8, rfl, by decide, by decide⟩
          · rw [List.mem_singleton.mp hv]
            exact ⟨24, rfl, by decide, by decide⟩
      refine q_neStr (K := K) (T := T) (n := n) rfl rfl L9.win hn2 hg hg2 hh he L9.tab fun H10 e10 t10 => ?_
      have L10 := L9.exn e10 t10
      have h10m := e10 _ _ h9m (fun _ z => by cases z)
      -- angles
      refine q_forR1 (n := 6) (ea_cons ev_c ea_nil) (by omega) (fun j σ' H' => ∃ y7 y8 : Option V, σ' = [some (.ref a), some (.int (0 + (i : Int))), some (.ref p), some wv, y4', y5', some (vi n), y7, y8] ∧ LS K H1 p T wv g h e H' ∧ H' lm = some (.lst [.int (1 + (r : Int)), v]))
        (fun H11 e11 => ⟨y7, y8, rfl, L10.ex e11, e11 _ _ h10m⟩) ?_ ?_
      · rintro j σ' H11 hj ⟨y7, y8, rfl, L11, h11m⟩
        refine ⟨.ref p, rfl, p, rfl, L11.bag, ?_⟩
        rintro av H12 b12 hb12 ⟨t, b, htb, hb, hgcd, hav⟩
        have L12 := L11.bx hp b12 hb12
        have h12m := b12 _ _ hmp h11m
        have hb200 : b < 2 ^ 200 := Nat.lt_of_le_of_lt hb (by decide)
        refine s_when (b := false) (et_is (et_test (ev_opLL (el_call (ea_cons (ev_var rfl) (ea_cons (ev_var rfl) (ea_cons (ev_var rfl) ea_nil))) (xs := (pricksM n g h e t b).map vi) (fun H13 e13 Q q E => ⟨n, g, h, e, t, b, wv, av, rfl, dp_ex e13 _ _ L12.win, dp_ex e13 _ _ hav, by omega, by omega, by omega, by omega, by omega, hb200, q⟩))
          (el_call (ea_cons (ev_var rfl) (ea_cons (ev_var rfl) (ea_cons (ev_var rfl) ea_nil))) (xs := (pricksM n g h e t b).map vi) (fun H13 e13 Q q E => ⟨n, g, h, e, t, b, wv, av, rfl, dp_ex e13 _ _ L12.win, dp_ex e13 _ _ hav, by omega, by omega, by omega, he, by omega, by omega, hb200, Nat.lt_trans htb hb200, q⟩))
          (fun p1 p2 H13 h1 h2 _ => rv_neD (K := K) (lst_of h1) (lst_of h2) (sh_lst _) (sh_lst _)))) ?_)
          (fun hb => by cases hb) (fun _ H13 e13 => ⟨_, _, rfl, L12.ex e13, e13 _ _ h12m⟩)
        rw [eqv_lst, decide_eq_true rfl]
        rfl
      rintro σ' H11 ⟨y7, y8, rfl, L11, h11m⟩
      -- pricked(..).append(99)
      refine ⟨vi n, rfl, wv, rfl, by show 2 ≤ sizeLine; decide, fun t1 ht1 => ?_⟩
      have x1 := Ex.new (o := .tup [.int 0, .int 1]) ht1
      refine ⟨n, g, h, e, 0, 1, wv, .ref t1, rfl, dp_ex x1 _ _ L11.win, .tup (st_of upd_same) (.cons (.int _) (.cons (.int _) .nil)), by omega, by omega, by omega, by omega, by decide, by decide, fun lp H12 hlp e12 hlx => ?_⟩
      refine ⟨.inl ⟨rfl, _, sq_of hlx⟩, lp, _, .int 99, rfl, rfl, hlx, ?_, ?_⟩
      · rw [List.length_map]
        have := pricks_few n g h e 0 1
        exact small1000 (by omega)
      have x12 : Ex H11 (upd H12 lp (.lst ((pricksM n g h e 0 1).map vi ++ [.int 99]))) := Ex.mut (x1.trans e12) (fresh_back x1 hlp)
      have L12 := L11.ex x12
      have h12m := x12 _ _ h11m
      revert L12 h12m
      generalize upd H12 lp (.lst ((pricksM n g h e 0 1).map vi ++ [.int 99])) = H13
      intro L13 h13m
      -- stretches(..).pop()
      refine ⟨vi n, rfl, wv, rfl, n, g, h, e, wv, rfl, L13.win, hn2, hg, hg2, hh, fun rp xs H14 hrp e14 hrx hrd => ?_⟩
      have hxn : xs.length - 1 < xs.length := by
        have h1 := dpa_len hrd
        have h2 := str_some n g h e
        omega
      refine ⟨.inl ⟨rfl, _, sq_of hrx⟩, rp, xs, _, rfl, rfl, hrx, List.getElem?_eq_getElem hxn, ?_⟩
      have x15 : Ex H13 (upd H14 rp (.lst xs.dropLast)) := Ex.mut e14 hrp
      have L15 := L13.ex x15
      have h15m := x15 _ _ h13m
      revert L15 h15m
      generalize upd H14 rp (.lst xs.dropLast) = H15
      intro L15 h15m
      refine s_neStr (K := K) (T := T) (n := n) rfl rfl L15.win hn2 hg hg2 hh he L15.tab fun H16 e16 t16 => ?_
      exact ⟨_, _, _, rfl, L15.exn e16 t16, e16 _ _ h15m (fun _ z => by cases z)⟩
    · rintro σ' H9 ⟨y6, y7, y8, rfl, L9, h9m⟩
      exact ⟨_, _, _, _, _, _, _, _, rfl, ex.trans L9.ext, L9.tab⟩
  · rintro σ' H1 ⟨y1, y2, y3, y4, y5, y6, y7, y8, rfl, ex, hT1⟩
    refine s_ret (v := .bl true) (ev_andV (a := true) (b := true) (ev_pr (n := 8) (g := 5) (h := 1) (e := 0) (t := 1) (b := 2) (x := 1) (y := 4) (z := 7) (by decide) (by decide)) (fun _ => ev_pr (n := 8) (g := 5) (h := 1) (e := 1) (t := 0) (b := 1) (x := 2) (y := 5) (z := 7) (by decide) (by decide))) (fun H2 _ => q H2)
end
end Nr
namespace Nr
open PySem PySem.Spec PyProof.Rows L2 Evl
/-! what the top has written -/
theorem all_mk {l : PySem.W.OpenLaw} {w : World} {K : PySem.W.Frag} {h : Heap} {mg : Str → Option Value} {fa : Addr} (X : K.In h) (G : h.Ns mainGlobals mg) (hfa : mg "law" = some (.ref fa))
    {f0 : Addr} {od0 an0 : Option Addr} {sl0 : Array (Option Value)} {oc0 kV0 dc0 pm0 cd0 ct0 : Value}
    (a0 : PySem.W.nsIn K mainGlobals "common_divisor" = some (some (.ref f0))) (l0 : K.lookup f0 = some ⟨oc0, od0, .func (PySem.W.fnOf "common_divisor" "common_divisor" (defArgs sGcd) (defBody sGcd) (defScope sGcd) .none kV0 dc0 pm0 an0 cd0 ct0), sl0⟩)
    (c0 : PySem.W.codeIn K cd0 "common_divisor" = true) (k0 : PySem.W.keepIn K (.ref f0) = true)
    {f1 : Addr} {od1 an1 : Option Addr} {sl1 : Array (Option Value)} {oc1 kV1 dc1 pm1 cd1 ct1 : Value}
    (a1 : PySem.W.nsIn K mainGlobals "common_multiple" = some (some (.ref f1))) (l1 : K.lookup f1 = some ⟨oc1, od1, .func (PySem.W.fnOf "common_multiple" "common_multiple" (defArgs sLcm) (defBody sLcm) (defScope sLcm) .none kV1 dc1 pm1 an1 cd1 ct1), sl1⟩)
    (c1 : PySem.W.codeIn K cd1 "common_multiple" = true) (k1 : PySem.W.keepIn K (.ref f1) = true)
    {f2 : Addr} {od2 an2 : Option Addr} {sl2 : Array (Option Value)} {oc2 kV2 dc2 pm2 cd2 ct2 : Value}
    (a2 : PySem.W.nsIn K mainGlobals "lowest" = some (some (.ref f2))) (l2 : K.lookup f2 = some ⟨oc2, od2, .func (PySem.W.fnOf "lowest" "lowest" (defArgs sLowest) (defBody sLowest) (defScope sLowest) .none kV2 dc2 pm2 an2 cd2 ct2), sl2⟩)
    (c2 : PySem.W.codeIn K cd2 "lowest" = true) (k2 : PySem.W.keepIn K (.ref f2) = true)
    {f3 : Addr} {od3 an3 : Option Addr} {sl3 : Array (Option Value)} {oc3 kV3 dc3 pm3 cd3 ct3 : Value}
    (a3 : PySem.W.nsIn K mainGlobals "turns" = some (some (.ref f3))) (l3 : K.lookup f3 = some ⟨oc3, od3, .func (PySem.W.fnOf "turns" "turns" (defArgs sTurns) (defBody sTurns) (defScope sTurns) .none kV3 dc3 pm3 an3 cd3 ct3), sl3⟩)
    (c3 : PySem.W.codeIn K cd3 "turns" = true) (k3 : PySem.W.keepIn K (.ref f3) = true)
    {f4 : Addr} {od4 an4 : Option Addr} {sl4 : Array (Option Value)} {oc4 kV4 dc4 pm4 cd4 ct4 : Value}
    (a4 : PySem.W.nsIn K mainGlobals "cell_at" = some (some (.ref f4))) (l4 : K.lookup f4 = some ⟨oc4, od4, .func (PySem.W.fnOf "cell_at" "cell_at" (defArgs sCellAt) (defBody sCellAt) (defScope sCellAt) .none kV4 dc4 pm4 an4 cd4 ct4), sl4⟩)
    (c4 : PySem.W.codeIn K cd4 "cell_at" = true) (k4 : PySem.W.keepIn K (.ref f4) = true)
    {f5 : Addr} {od5 an5 : Option Addr} {sl5 : Array (Option Value)} {oc5 kV5 dc5 pm5 cd5 ct5 : Value}
    (a5 : PySem.W.nsIn K mainGlobals "pricked" = some (some (.ref f5))) (l5 : K.lookup f5 = some ⟨oc5, od5, .func (PySem.W.fnOf "pricked" "pricked" (defArgs sPricked) (defBody sPricked) (defScope sPricked) .none kV5 dc5 pm5 an5 cd5 ct5), sl5⟩)
    (c5 : PySem.W.codeIn K cd5 "pricked" = true) (k5 : PySem.W.keepIn K (.ref f5) = true)
    {f6 : Addr} {od6 an6 : Option Addr} {sl6 : Array (Option Value)} {oc6 kV6 dc6 pm6 cd6 ct6 : Value}
    (a6 : PySem.W.nsIn K mainGlobals "marks" = some (some (.ref f6))) (l6 : K.lookup f6 = some ⟨oc6, od6, .func (PySem.W.fnOf "marks" "marks" (defArgs sMarks) (defBody sMarks) (defScope sMarks) .none kV6 dc6 pm6 an6 cd6 ct6), sl6⟩)
    (c6 : PySem.W.codeIn K cd6 "marks" = true) (k6 : PySem.W.keepIn K (.ref f6) = true)
    {f7 : Addr} {od7 an7 : Option Addr} {sl7 : Array (Option Value)} {oc7 kV7 dc7 pm7 cd7 ct7 : Value}
    (a7 : PySem.W.nsIn K mainGlobals "stretches" = some (some (.ref f7))) (l7 : K.lookup f7 = some ⟨oc7, od7, .func (PySem.W.fnOf "stretches" "stretches" (defArgs sStretches) (defBody sStretches) (defScope sStretches) .none kV7 dc7 pm7 an7 cd7 ct7), sl7⟩)
    (c7 : PySem.W.codeIn K cd7 "stretches" = true) (k7 : PySem.W.keepIn K (.ref f7) = true)
    {f8 : Addr} {od8 an8 : Option Addr} {sl8 : Array (Option Value)} {oc8 kV8 dc8 pm8 cd8 ct8 : Value}
    (a8 : PySem.W.nsIn K mainGlobals "is_whole" = some (some (.ref f8))) (l8 : K.lookup f8 = some ⟨oc8, od8, .func (PySem.W.fnOf "is_whole" "is_whole" (defArgs sIsWhole) (defBody sIsWhole) (defScope sIsWhole) .none kV8 dc8 pm8 an8 cd8 ct8), sl8⟩)
    (c8 : PySem.W.codeIn K cd8 "is_whole" = true) (k8 : PySem.W.keepIn K (.ref f8) = true)
    {f9 : Addr} {od9 an9 : Option Addr} {sl9 : Array (Option Value)} {oc9 kV9 dc9 pm9 cd9 ct9 : Value}
    (a9 : PySem.W.nsIn K mainGlobals "is_within" = some (some (.ref f9))) (l9 : K.lookup f9 = some ⟨oc9, od9, .func (PySem.W.fnOf "is_within" "is_within" (defArgs sIsWithin) (defBody sIsWithin) (defScope sIsWithin) .none kV9 dc9 pm9 an9 cd9 ct9), sl9⟩)
    (c9 : PySem.W.codeIn K cd9 "is_within" = true) (k9 : PySem.W.keepIn K (.ref f9) = true)
    {f10 : Addr} {od10 an10 : Option Addr} {sl10 : Array (Option Value)} {oc10 kV10 dc10 pm10 cd10 ct10 : Value}
    (a10 : PySem.W.nsIn K mainGlobals "is_winding" = some (some (.ref f10))) (l10 : K.lookup f10 = some ⟨oc10, od10, .func (PySem.W.fnOf "is_winding" "is_winding" (defArgs sIsWinding) (defBody sIsWinding) (defScope sIsWinding) .none kV10 dc10 pm10 an10 cd10 ct10), sl10⟩)
    (c10 : PySem.W.codeIn K cd10 "is_winding" = true) (k10 : PySem.W.keepIn K (.ref f10) = true)
    {f11 : Addr} {od11 an11 : Option Addr} {sl11 : Array (Option Value)} {oc11 kV11 dc11 pm11 cd11 ct11 : Value}
    (a11 : PySem.W.nsIn K mainGlobals "_law_bag" = some (some (.ref f11))) (l11 : K.lookup f11 = some ⟨oc11, od11, .func (PySem.W.fnOf "_law_bag" "_law_bag" (defArgs sBag) (defBody sBag) (defScope sBag) .none kV11 dc11 pm11 an11 cd11 ct11), sl11⟩)
    (c11 : PySem.W.codeIn K cd11 "_law_bag" = true) (k11 : PySem.W.keepIn K (.ref f11) = true)
    {f12 : Addr} {od12 an12 : Option Addr} {sl12 : Array (Option Value)} {oc12 kV12 dc12 pm12 cd12 ct12 : Value}
    (a12 : PySem.W.nsIn K mainGlobals "_law_take" = some (some (.ref f12))) (l12 : K.lookup f12 = some ⟨oc12, od12, .func (PySem.W.fnOf "_law_take" "_law_take" (defArgs sTake) (defBody sTake) (defScope sTake) .none kV12 dc12 pm12 an12 cd12 ct12), sl12⟩)
    (c12 : PySem.W.codeIn K cd12 "_law_take" = true) (k12 : PySem.W.keepIn K (.ref f12) = true)
    {f13 : Addr} {od13 an13 : Option Addr} {sl13 : Array (Option Value)} {oc13 kV13 dc13 pm13 cd13 ct13 : Value}
    (a13 : PySem.W.nsIn K mainGlobals "_law_of" = some (some (.ref f13))) (l13 : K.lookup f13 = some ⟨oc13, od13, .func (PySem.W.fnOf "_law_of" "_law_of" (defArgs sOf) (defBody sOf) (defScope sOf) .none kV13 dc13 pm13 an13 cd13 ct13), sl13⟩)
    (c13 : PySem.W.codeIn K cd13 "_law_of" = true) (k13 : PySem.W.keepIn K (.ref f13) = true)
    {f14 : Addr} {od14 an14 : Option Addr} {sl14 : Array (Option Value)} {oc14 kV14 dc14 pm14 cd14 ct14 : Value}
    (a14 : PySem.W.nsIn K mainGlobals "_law_winding" = some (some (.ref f14))) (l14 : K.lookup f14 = some ⟨oc14, od14, .func (PySem.W.fnOf "_law_winding" "_law_winding" (defArgs sWind) (defBody sWind) (defScope sWind) .none kV14 dc14 pm14 an14 cd14 ct14), sl14⟩)
    (c14 : PySem.W.codeIn K cd14 "_law_winding" = true) (k14 : PySem.W.keepIn K (.ref f14) = true)
    {f15 : Addr} {od15 an15 : Option Addr} {sl15 : Array (Option Value)} {oc15 kV15 dc15 pm15 cd15 ct15 : Value}
    (a15 : PySem.W.nsIn K mainGlobals "_law_lowest" = some (some (.ref f15))) (l15 : K.lookup f15 = some ⟨oc15, od15, .func (PySem.W.fnOf "_law_lowest" "_law_lowest" (defArgs sLow2) (defBody sLow2) (defScope sLow2) .none kV15 dc15 pm15 an15 cd15 ct15), sl15⟩)
    (c15 : PySem.W.codeIn K cd15 "_law_lowest" = true) (k15 : PySem.W.keepIn K (.ref f15) = true)
    {f16 : Addr} {od16 an16 : Option Addr} {sl16 : Array (Option Value)} {oc16 kV16 dc16 pm16 cd16 ct16 : Value}
    (a16 : PySem.W.nsIn K mainGlobals "_law_angle" = some (some (.ref f16))) (l16 : K.lookup f16 = some ⟨oc16, od16, .func (PySem.W.fnOf "_law_angle" "_law_angle" (defArgs sAngle) (defBody sAngle) (defScope sAngle) .none kV16 dc16 pm16 an16 cd16 ct16), sl16⟩)
    (c16 : PySem.W.codeIn K cd16 "_law_angle" = true) (k16 : PySem.W.keepIn K (.ref f16) = true)
    {f17 : Addr} {od17 an17 : Option Addr} {sl17 : Array (Option Value)} {oc17 kV17 dc17 pm17 cd17 ct17 : Value}
    (a17 : PySem.W.nsIn K mainGlobals "_law_pricked" = some (some (.ref f17))) (l17 : K.lookup f17 = some ⟨oc17, od17, .func (PySem.W.fnOf "_law_pricked" "_law_pricked" (defArgs sLPr) (defBody sLPr) (defScope sLPr) .none kV17 dc17 pm17 an17 cd17 ct17), sl17⟩)
    (c17 : PySem.W.codeIn K cd17 "_law_pricked" = true) (k17 : PySem.W.keepIn K (.ref f17) = true)
    {f18 : Addr} {od18 an18 : Option Addr} {sl18 : Array (Option Value)} {oc18 kV18 dc18 pm18  ct18 : Value}
    {cb T : Addr} {ecb : Value} {dcb : Option Addr} {vcb : Array Value} {scb : Array (Option Value)}
    (a18 : PySem.W.nsIn K mainGlobals "_law_breaks" = some (some (.ref f18))) (l18 : K.lookup f18 = some ⟨oc18, od18, .func (PySem.W.fnOf "_law_breaks" "_law_breaks" (defArgs sBreaks) (defBody sBreaks) (defScope sBreaks) .none kV18 dc18 pm18 an18 (.ref cb) ct18), sl18⟩)
    (c18 : PySem.W.codeIn K (.ref cb) "_law_breaks" = true) (k18 : PySem.W.keepIn K (.ref f18) = true)
    (lcb : K.lookup cb = some ⟨ecb, dcb, .fields vcb, scb⟩) (vT : vcb[11]? = some (.ref T)) (nT : K.lookup T = none) (hcdb : PySem.W.codeHdIn K cb T = true) (htb : h.get? T = some { cls := .none, data := .fields #[] })
    {f19 : Addr} {od19 an19 : Option Addr} {sl19 : Array (Option Value)} {oc19 kV19 dc19 pm19 cd19 ct19 : Value}
    (a19 : PySem.W.nsIn K mainGlobals "_law_stretches" = some (some (.ref f19))) (l19 : K.lookup f19 = some ⟨oc19, od19, .func (PySem.W.fnOf "_law_stretches" "_law_stretches" (defArgs sLStr) (defBody sLStr) (defScope sLStr) .none kV19 dc19 pm19 an19 cd19 ct19), sl19⟩)
    (c19 : PySem.W.codeIn K cd19 "_law_stretches" = true) (k19 : PySem.W.keepIn K (.ref f19) = true)
    {f20 : Addr} {od20 an20 : Option Addr} {sl20 : Array (Option Value)} {oc20 kV20 dc20 pm20 cd20 ct20 : Value}
    (a20 : PySem.W.nsIn K mainGlobals "_law_is_winding" = some (some (.ref f20))) (l20 : K.lookup f20 = some ⟨oc20, od20, .func (PySem.W.fnOf "_law_is_winding" "_law_is_winding" (defArgs sLIsW) (defBody sLIsW) (defScope sLIsW) .none kV20 dc20 pm20 an20 cd20 ct20), sl20⟩)
    (c20 : PySem.W.codeIn K cd20 "_law_is_winding" = true) (k20 : PySem.W.keepIn K (.ref f20) = true)
    {f21 : Addr} {od21 an21 : Option Addr} {sl21 : Array (Option Value)} {oc21 kV21 dc21 pm21 cd21 ct21 : Value}
    (a21 : PySem.W.nsIn K mainGlobals "_law_odd" = some (some (.ref f21))) (l21 : K.lookup f21 = some ⟨oc21, od21, .func (PySem.W.fnOf "_law_odd" "_law_odd" (defArgs sOdd) (defBody sOdd) (defScope sOdd) .none kV21 dc21 pm21 an21 cd21 ct21), sl21⟩)
    (c21 : PySem.W.codeIn K cd21 "_law_odd" = true) (k21 : PySem.W.keepIn K (.ref f21) = true)
    {f22 : Addr} {od22 an22 : Option Addr} {sl22 : Array (Option Value)} {oc22 kV22 dc22 pm22 cd22 ct22 : Value}
    (a22 : PySem.W.nsIn K mainGlobals "law" = some (some (.ref f22))) (l22 : K.lookup f22 = some ⟨oc22, od22, .func (PySem.W.fnOf "law" "law" (defArgs sLaw) (defBody sLaw) (defScope sLaw) .none kV22 dc22 pm22 an22 cd22 ct22), sl22⟩)
    (c22 : PySem.W.codeIn K cd22 "law" = true) (k22 : PySem.W.keepIn K (.ref f22) = true)
    (z_sorted : PySem.W.nsIn K mainGlobals "sorted" = some none)
    (z_range : PySem.W.nsIn K mainGlobals "range" = some none)
    (z_zip : PySem.W.nsIn K mainGlobals "zip" = some none)
    (z_tuple : PySem.W.nsIn K mainGlobals "tuple" = some none)
    (z_len : PySem.W.nsIn K mainGlobals "len" = some none)
    (z_int : PySem.W.nsIn K mainGlobals "int" = some none)
    (z_min : PySem.W.nsIn K mainGlobals "min" = some none)
    (z_list : PySem.W.nsIn K mainGlobals "list" = some none)
    (z_isinstance : PySem.W.nsIn K mainGlobals "isinstance" = some none)
    (z_bool : PySem.W.nsIn K mainGlobals "bool" = some none)
    (z_all : PySem.W.nsIn K mainGlobals "all" = some none)
    (z_str : PySem.W.nsIn K mainGlobals "str" = some none)
    {t_CELL : Tok} (z_CELL : PySem.W.nsIn K mainGlobals "CELL" = some (some (.int 2 t_CELL)))
    {bb b1 b2 b3 : Addr} {bd0 bd1 bd2 bd3 : Option Addr} {bs0 bs1 bs2 bs3 : Array (Option Value)} {bn0 bn1 bn2 bn3 : Nat} {bt1 bt2 bt3 bt4 bt5 bt6 : Tok}
    (z_B : PySem.W.nsIn K mainGlobals "BOUNDS" = some (some (.ref bb))) (lB0 : K.lookup bb = some ⟨.type "tuple", bd0, .seq #[.ref b1, .ref b2, .ref b3] bn0, bs0⟩) (lB1 : K.lookup b1 = some ⟨.type "tuple", bd1, .seq #[.int 4 bt1, .int 16 bt2] bn1, bs1⟩)
    (lB2 : K.lookup b2 = some ⟨.type "tuple", bd2, .seq #[.int 0 bt3, .int 8 bt4] bn2, bs2⟩) (lB3 : K.lookup b3 = some ⟨.type "tuple", bd3, .seq #[.int 0 bt5, .int 1 bt6] bn3, bs3⟩)
    : LamX.LawAtS l w K CX0 4 63 "script" mg fa h := by
  have e := hfa.symm.trans (PySem.W.mg_of X G a22)
  cases e
  have m_sorted := PySem.W.mg_none_of X G z_sorted
  have m_range := PySem.W.mg_none_of X G z_range
  have m_zip := PySem.W.mg_none_of X G z_zip
  have m_tuple := PySem.W.mg_none_of X G z_tuple
  have m_len := PySem.W.mg_none_of X G z_len
  have m_int := PySem.W.mg_none_of X G z_int
  have m_min := PySem.W.mg_none_of X G z_min
  have m_list := PySem.W.mg_none_of X G z_list
  have m_isinstance := PySem.W.mg_none_of X G z_isinstance
  have m_bool := PySem.W.mg_none_of X G z_bool
  have m_all := PySem.W.mg_none_of X G z_all
  have m_str := PySem.W.mg_none_of X G z_str
  have m_CELL := PySem.W.mg_of X G z_CELL
  have m_B := PySem.W.mg_of X G z_B
  have BB : Bnds K bb b1 b2 b3 := ⟨⟨_, _, _, lB0, rfl, rfl, by show 3 ≤ sizeLine; decide, .cons rfl (.cons rfl (.cons rfl .nil))⟩, ⟨_, _, _, lB1, rfl, rfl, by show 2 ≤ sizeLine; decide, .cons ⟨_, rfl⟩ (.cons ⟨_, rfl⟩ .nil)⟩, ⟨_, _, _, lB2, rfl, rfl, by show 2 ≤ sizeLine; decide, .cons ⟨_, rfl⟩ (.cons ⟨_, rfl⟩ .nil)⟩, ⟨_, _, _, lB3, rfl, rfl, by show 2 ≤ sizeLine; decide, .cons ⟨_, rfl⟩ (.cons ⟨_, rfl⟩ .nil)⟩⟩
  have F0 := fun_mk (st := sGcd) l0 c0 k0
  have F1 := fun_mk (st := sLcm) l1 c1 k1
  have F2 := fun_mk (st := sLowest) l2 c2 k2
  have F3 := fun_mk (st := sTurns) l3 c3 k3
  have F4 := fun_mk (st := sCellAt) l4 c4 k4
  have F5 := fun_mk (st := sPricked) l5 c5 k5
  have F6 := fun_mk (st := sMarks) l6 c6 k6
  have F7 := fun_mk (st := sStretches) l7 c7 k7
  have F8 := fun_mk (st := sIsWhole) l8 c8 k8
  have F9 := fun_mk (st := sIsWithin) l9 c9 k9
  have F10 := fun_mk (st := sIsWinding) l10 c10 k10
  have F11 := fun_mk (st := sBag) l11 c11 k11
  have F12 := fun_mk (st := sTake) l12 c12 k12
  have F13 := fun_mk (st := sOf) l13 c13 k13
  have F14 := fun_mk (st := sWind) l14 c14 k14
  have F15 := fun_mk (st := sLow2) l15 c15 k15
  have F16 := fun_mk (st := sAngle) l16 c16 k16
  have F17 := fun_mk (st := sLPr) l17 c17 k17
  have FC : FunC K "_law_breaks" "_law_breaks" sBreaks f18 cb _ := ⟨⟨oc18, od18, kV18, dc18, pm18, an18, ct18, sl18, rfl, l18, c18⟩, k18⟩
  have F18 := FC.fn
  have hcd := PySem.W.codeHd_of_K X hcdb
  have F19 := fun_mk (st := sLStr) l19 c19 k19
  have F20 := fun_mk (st := sLIsW) l20 c20 k20
  have F21 := fun_mk (st := sOdd) l21 c21 k21
  have F22 := fun_mk (st := sLaw) l22 c22 k22
  have one : ∀ {Pp : Addr × Addr → Prop}, Pp (cb, T) → ∀ p ∈ [(cb, T)], Pp p := fun hP p hp => by
    rw [List.mem_singleton.mp hp]
    exact hP
  refine ⟨PySem.W.fnOf "law" "law" (defArgs sLaw) (defBody sLaw) (defScope sLaw) .none kV22 dc22 pm22 an22 cd22 ct22, [(cb, T)], spLaw K T, one htb, one nT, one hcd, fun s v => .of_eq rfl,
    fun H a ns hl _ hH hS => ⟨a, ns, rfl, hS, hl, LamX.TabS.nil (hH (cb, T) (List.mem_singleton.mpr rfl)), fun _ => rfl⟩, fun base _ _ TBs => ?_⟩
  have TB : LamX.TabB base mg cb T := TBs (cb, T) (List.mem_singleton.mpr rfl)
  have Cgcd : Can l.prog w K mg base "common_divisor" 1 f0 _ ["first", "second"] _ := ⟨ok_gcd (k := 0) F0, PySem.W.mg_of X G a0, F0.kp, F0.binds (ps := ["first", "second"]) fun _ _ _ _ _ _ us hl => match us, hl with | [_, _], _ => rfl⟩
  have Clcm : Can l.prog w K mg base "common_multiple" 2 f1 _ ["numbers"] _ := ⟨ok_lcm F1 Cgcd, PySem.W.mg_of X G a1, F1.kp, F1.binds (ps := ["numbers"]) fun _ _ _ _ _ _ us hl => match us, hl with | [_], _ => rfl⟩
  have Clow : Can l.prog w K mg base "lowest" 2 f2 _ ["top", "bottom"] _ := ⟨ok_lowest F2 Cgcd, PySem.W.mg_of X G a2, F2.kp, F2.binds (ps := ["top", "bottom"]) fun _ _ _ _ _ _ us hl => match us, hl with | [_, _], _ => rfl⟩
  have Ctur : Can l.prog w K mg base "turns" 1 f3 _ ["many", "winding"] _ := ⟨ok_turns (k := 0) F3 m_CELL, PySem.W.mg_of X G a3, F3.kp, F3.binds (ps := ["many", "winding"]) fun _ _ _ _ _ _ us hl => match us, hl with | [_, _], _ => rfl⟩
  have Ccel : Can l.prog w K mg base "cell_at" 1 f4 _ ["many", "winding", "place"] _ := ⟨ok_cellAt (k := 0) F4, PySem.W.mg_of X G a4, F4.kp, F4.binds (ps := ["many", "winding", "place"]) fun _ _ _ _ _ _ us hl => match us, hl with | [_, _, _], _ => rfl⟩
  have Cpri : Can l.prog w K mg base "pricked" 2 f5 _ ["many", "winding", "angle"] _ := ⟨ok_pricked F5 m_CELL m_sorted Ctur Ccel, PySem.W.mg_of X G a5, F5.kp, F5.binds (ps := ["many", "winding", "angle"]) fun _ _ _ _ _ _ us hl => match us, hl with | [_, _, _], _ => rfl⟩
  have Cmar : Can l.prog w K mg base "marks" 1 f6 _ ["many", "rows", "whole"] _ := ⟨ok_marks (k := 0) F6 m_CELL m_sorted m_range, PySem.W.mg_of X G a6, F6.kp, F6.binds (ps := ["many", "rows", "whole"]) fun _ _ _ _ _ _ us hl => match us, hl with | [_, _, _], _ => rfl⟩
  have Cstr : Can l.prog w K mg base "stretches" 3 f7 _ ["many", "winding"] _ := ⟨ok_stretches F7 m_zip m_tuple Ctur Clcm Cmar Cpri Clow, PySem.W.mg_of X G a7, F7.kp, F7.binds (ps := ["many", "winding"]) fun _ _ _ _ _ _ us hl => match us, hl with | [_, _], _ => rfl⟩
  have Cwho : Can l.prog w K mg base "is_whole" 1 f8 _ ["thing"] _ := ⟨ok_isWhole (k := 0) F8 m_isinstance m_int m_bool, PySem.W.mg_of X G a8, F8.kp, F8.binds (ps := ["thing"]) fun _ _ _ _ _ _ us hl => match us, hl with | [_], _ => rfl⟩
  have Cwit : Can l.prog w K mg base "is_within" 2 f9 _ ["thing", "bounds"] _ := ⟨ok_isWithin F9 Cwho, PySem.W.mg_of X G a9, F9.kp, F9.binds (ps := ["thing", "bounds"]) fun _ _ _ _ _ _ us hl => match us, hl with | [_, _], _ => rfl⟩
  have Cisw : Can l.prog w K mg base "is_winding" 3 f10 _ ["thing"] _ := ⟨ok_isWin F10 m_isinstance m_tuple m_len m_all m_zip m_B BB Cwit, PySem.W.mg_of X G a10, F10.kp, F10.binds (ps := ["thing"]) fun _ _ _ _ _ _ us hl => match us, hl with | [_], _ => rfl⟩
  have Cbag : Can l.prog w K mg base "_law_bag" 1 f11 _ ["script", "k"] _ := ⟨ok_bag (k := 0) F11 m_len, PySem.W.mg_of X G a11, F11.kp, F11.binds (ps := ["script", "k"]) fun _ _ _ _ _ _ us hl => match us, hl with | [_, _], _ => rfl⟩
  have Ctak : Can l.prog w K mg base "_law_take" 1 f12 _ ["bag", "count"] _ := ⟨ok_take (k := 0) F12, PySem.W.mg_of X G a12, F12.kp, F12.binds (ps := ["bag", "count"]) fun _ _ _ _ _ _ us hl => match us, hl with | [_, _], _ => rfl⟩
  have Cof : Can l.prog w K mg base "_law_of" 2 f13 _ ["bag", "some"] _ := ⟨ok_of F13 m_len Ctak, PySem.W.mg_of X G a13, F13.kp, F13.binds (ps := ["bag", "some"]) fun _ _ _ _ _ _ us hl => match us, hl with | [_, _], _ => rfl⟩
  have Cwin : Can l.prog w K mg base "_law_winding" 3 f14 _ ["bag"] _ := ⟨ok_wind F14 Ctak Cof, PySem.W.mg_of X G a14, F14.kp, F14.binds (ps := ["bag"]) fun _ _ _ _ _ _ us hl => match us, hl with | [_], _ => rfl⟩
  have Clo2 : Can l.prog w K mg base "_law_lowest" 1 f15 _ ["top", "bottom"] _ := ⟨ok_low2 (k := 0) F15, PySem.W.mg_of X G a15, F15.kp, F15.binds (ps := ["top", "bottom"]) fun _ _ _ _ _ _ us hl => match us, hl with | [_, _], _ => rfl⟩
  have Cang : Can l.prog w K mg base "_law_angle" 3 f16 _ ["bag"] _ := ⟨ok_angle F16 Ctak Cof Clo2, PySem.W.mg_of X G a16, F16.kp, F16.binds (ps := ["bag"]) fun _ _ _ _ _ _ us hl => match us, hl with | [_], _ => rfl⟩
  have Clpr : Can l.prog w K mg base "_law_pricked" 1 f17 _ ["many", "winding", "angle"] _ := ⟨ok_lpr (k := 0) F17 m_sorted, PySem.W.mg_of X G a17, F17.kp, F17.binds (ps := ["many", "winding", "angle"]) fun _ _ _ _ _ _ us hl => match us, hl with | [_, _, _], _ => rfl⟩
  have Cbrk : Can l.prog w K mg base "_law_breaks" 2 f18 _ ["many", "winding"] _ := ⟨ok_breaks FC TB m_sorted m_range Clo2, PySem.W.mg_of X G a18, F18.kp, F18.binds (ps := ["many", "winding"]) fun _ _ _ _ _ _ us hl => match us, hl with | [_, _], _ => rfl⟩
  have Clst : Can l.prog w K mg base "_law_stretches" 3 f19 _ ["many", "winding"] _ := ⟨ok_lstr F19 m_zip m_tuple Cbrk Clpr, PySem.W.mg_of X G a19, F19.kp, F19.binds (ps := ["many", "winding"]) fun _ _ _ _ _ _ us hl => match us, hl with | [_, _], _ => rfl⟩
  have Clis : Can l.prog w K mg base "_law_is_winding" 1 f20 _ ["thing"] _ := ⟨ok_lisw (k := 0) F20 m_isinstance m_tuple m_len m_zip m_int m_bool, PySem.W.mg_of X G a20, F20.kp, F20.binds (ps := ["thing"]) fun _ _ _ _ _ _ us hl => match us, hl with | [_], _ => rfl⟩
  have Codd : Can l.prog w K mg base "_law_odd" 3 f21 _ ["bag", "winding"] _ := ⟨ok_odd F21 m_list m_str Cof, PySem.W.mg_of X G a21, F21.kp, F21.binds (ps := ["bag", "winding"]) fun _ _ _ _ _ _ us hl => match us, hl with | [_, _], _ => rfl⟩
  exact ok_law F22 m_range m_min m_len m_isinstance m_bool Cbag Cwin Ctak Cof Codd Cisw Clis Cstr Clst Cang Cpri Clpr
end Nr
open PySem PySem.W PyProof.Rows
set_option maxHeartbeats 0 in
theorem PySem.Challenge.cw_needleroll_k01_needles_through_turns_holds : PySem.Challenge.rw_needleroll_k01_needles_through_turns.Holds := by
  w_on; o_law; k_head; (case hw => w_witness2)
  k_fill
  refine LamX.walk_ofTs (l := PySem.Challenge.rw_needleroll_k01_needles_through_turns) (n := 63) (k := 4) (x := "script") (CX := fun _ => L2.CX0) rfl (by decide) rfl ⟨rfl, by decide, by decide⟩ (fun w h Y => PySem.W.km_in_of Y) ?F (fun _ _ _ _ _ h => h)
  case F =>
    intro w mg fa h Y KX G hmg
    refine' Nr.all_mk KX G hmg ?a0 ?l0 ?c0 ?k0 ?a1 ?l1 ?c1 ?k1 ?a2 ?l2 ?c2 ?k2 ?a3 ?l3 ?c3 ?k3 ?a4 ?l4 ?c4 ?k4 ?a5 ?l5 ?c5 ?k5 ?a6 ?l6 ?c6 ?k6 ?a7 ?l7 ?c7 ?k7 ?a8 ?l8 ?c8 ?k8 ?a9 ?l9 ?c9 ?k9 ?a10 ?l10 ?c10 ?k10 ?a11 ?l11 ?c11 ?k11 ?a12 ?l12 ?c12 ?k12 ?a13 ?l13 ?c13 ?k13 ?a14 ?l14 ?c14 ?k14 ?a15 ?l15 ?c15 ?k15 ?a16 ?l16 ?c16 ?k16 ?a17 ?l17 ?c17 ?k17 ?a18 ?l18 ?c18 ?k18 ?lcb ?vT ?nT ?hcdb ?htb ?a19 ?l19 ?c19 ?k19 ?a20 ?l20 ?c20 ?k20 ?a21 ?l21 ?c21 ?k21 ?a22 ?l22 ?c22 ?k22 ?z_sorted ?z_range ?z_zip ?z_tuple ?z_len ?z_int ?z_min ?z_list ?z_isinstance ?z_bool ?z_all ?z_str ?z_CELL ?z_B ?lB0 ?lB1 ?lB2 ?lB3
    (case a0 => k_is)
    (case l0 => k_is)
    (case c0 => k_is)
    (case k0 => k_is)
    (case a1 => k_is)
    (case l1 => k_is)
    (case c1 => k_is)
    (case k1 => k_is)
    (case a2 => k_is)
    (case l2 => k_is)
    (case c2 => k_is)
    (case k2 => k_is)
    (case a3 => k_is)
    (case l3 => k_is)
    (case c3 => k_is)
    (case k3 => k_is)
    (case a4 => k_is)
    (case l4 => k_is)
    (case c4 => k_is)
    (case k4 => k_is)
    (case a5 => k_is)
    (case l5 => k_is)
    (case c5 => k_is)
    (case k5 => k_is)
    (case a6 => k_is)
    (case l6 => k_is)
    (case c6 => k_is)
    (case k6 => k_is)
    (case a7 => k_is)
    (case l7 => k_is)
    (case c7 => k_is)
    (case k7 => k_is)
    (case a8 => k_is)
    (case l8 => k_is)
    (case c8 => k_is)
    (case k8 => k_is)
    (case a9 => k_is)
    (case l9 => k_is)
    (case c9 => k_is)
    (case k9 => k_is)
    (case a10 => k_is)
    (case l10 => k_is)
    (case c10 => k_is)
    (case k10 => k_is)
    (case a11 => k_is)
    (case l11 => k_is)
    (case c11 => k_is)
    (case k11 => k_is)
    (case a12 => k_is)
    (case l12 => k_is)
    (case c12 => k_is)
    (case k12 => k_is)
    (case a13 => k_is)
    (case l13 => k_is)
    (case c13 => k_is)
    (case k13 => k_is)
    (case a14 => k_is)
    (case l14 => k_is)
    (case c14 => k_is)
    (case k14 => k_is)
    (case a15 => k_is)
    (case l15 => k_is)
    (case c15 => k_is)
    (case k15 => k_is)
    (case a16 => k_is)
    (case l16 => k_is)
    (case c16 => k_is)
    (case k16 => k_is)
    (case a17 => k_is)
    (case l17 => k_is)
    (case c17 => k_is)
    (case k17 => k_is)
    (case a18 => k_is)
    (case l18 => k_is)
    (case c18 => k_is)
    (case k18 => k_is)
    (case lcb => k_is)
    (case vT => rfl)
    (case nT => rfl)
    (case hcdb => rfl)
    (case htb => exact PySem.W.km_tabs_of Y _ (List.mem_singleton.mpr rfl))
    (case a19 => k_is)
    (case l19 => k_is)
    (case c19 => k_is)
    (case k19 => k_is)
    (case a20 => k_is)
    (case l20 => k_is)
    (case c20 => k_is)
    (case k20 => k_is)
    (case a21 => k_is)
    (case l21 => k_is)
    (case c21 => k_is)
    (case k21 => k_is)
    (case a22 => k_is)
    (case l22 => k_is)
    (case c22 => k_is)
    (case k22 => k_is)
    (case z_sorted => k_is)
    (case z_range => k_is)
    (case z_zip => k_is)
    (case z_tuple => k_is)
    (case z_len => k_is)
    (case z_int => k_is)
    (case z_min => k_is)
    (case z_list => k_is)
    (case z_isinstance => k_is)
    (case z_bool => k_is)
    (case z_all => k_is)
    (case z_str => k_is)
    (case z_CELL => k_is)
    (case z_B => k_is)
    (case lB0 => k_is)
    (case lB1 => k_is)
    (case lB2 => k_is)
    (case lB3 => k_is)

