import PyProof.Rows.All
import Wide.All
import OpenK.AllK
import Wide.FinOn
import HandS.Base
import HandS.Call
import HandS.List
import HandS.Comp
import HandS.Ends
import HandS.Dict
import HandS.Iter
import HandS.Words
import HandS.Evl
import HandS.Strs
import HandS.SetBool
import HandS.Wide
import HandS.Zip
import HandS.Conv
import KE.KSortedM
import HandS.Style
import HandS.Lambda
import HandS.SortKw
import KE.KDictCopyH
import KE.KDictSum
import KE.KSortKey
import HandS.Slots
import HandS.IsInst
import HandS.SetFor
import HandS.Deep
import KE.DataAny
import HandS.TupAny
import HandS.Flow
import HandS.More
import KE.DataMinKey
import KE.GoesNew
import HandS.TupMul
import PyProof.TupleOfSeq
import HandS.OwnEq
import HandS.TryOnly
import HandS.HotCalls
import HandS.ExcIs
import HandS.Text
import HandS.ExcCtx
import HandS.EndTab
import PySem.Challenge.RW_needleroll_k09_whole_a_roll_deed_by_deed
set_option Elab.async false
set_option linter.all false
set_option maxRecDepth 100000
set_option maxHeartbeats 4000000

namespace Nr
open PySem PySem.Spec PyProof.Rows L2 Evl

abbrev prg : Program := PySem.Challenge.pw_needleroll_k09_whole_a_roll_deed_by_deed
def topS (i : Nat) : Stmt := prg.main.body.getD i (.Pass ⟨0, 0, 0, 0⟩)

/-- a def that can be called: where it stands, what it keeps -/
structure Can (P : Program) (w : World) (K : PySem.W.Frag) (mg : Str → Option Value) (base : Heap) (x : Str) (k : Nat) (f : Addr) (fd : FuncData) (ps : List Str) (sp : Sp) : Prop where
  ok : FnOk P w K mg base CX0 k f fd ps sp
  at_ : mg x = some (.ref f)
  kp : PySem.W.keepIn K (.ref f) = true
  bd : Binds K fd ps []

section
variable {X : Cx} {x : Str} {k j : Nat} {f : Addr} {fd : FuncData} {ps : List Str} {sp : Sp} {e : Expr} {es : List Expr} {t : TA} {p pos : Pos}
theorem pcall (F : Can X.prog X.w X.K X.mg X.base x k f fd ps sp) (hr : Room j X.A) (ha : PA X (e :: es) t) (hk : k ≤ j := by decide) (hg : Gl X x := by rfl)
    (hdb : (x == ("__debug__" : Str)) = false := by decide) (he : starEach (e :: es) X.env = (false, eval e X.env) :: starEach es X.env := by rfl) (hpl : (backTo pos (starEach es X.env)).any (·.1) = false := by rfl) :
    PE X (.Call (.Name x p) (e :: es) [] pos) (tCall sp [] E0 t) :=
  pe_call F.ok (hr.mono hk) hg F.at_ F.kp F.bd .nil pass0 ha hdb he hpl
end

section
variable {P : Program} {w : World} {K : PySem.W.Frag} {mg : Str → Option Value} {base : Heap}
/-! common_divisor -/
abbrev sGcd : Stmt := topS 9
theorem scGcd : FnScope ["first", "second"] ["first", "second"] (defScope sGcd) := ⟨rfl, rfl, rfl, by decide +kernel, rfl, by decide +kernel, by decide +kernel⟩
def spGcd : Sp := fun vs H Q _ => ∃ a b : Nat, vs = [.int a, .int b] ∧ RetV (.int (Nat.gcd a b : Nat)) H Q
theorem ok_gcd {f : Addr} {fd : FuncData} {k : Nat} (F : Fun K "common_divisor" "common_divisor" sGcd f fd) : FnOk P w K mg base CX0 (k + 1) f fd ["first", "second"] spGcd := by
  refine F.ok scGcd (fun vs H Q E h => ?_) (fun cdv A outer s H vs Q E hr h => ?_)
  · obtain ⟨a, b, rfl, _⟩ := h
    rfl
  obtain ⟨a, b, rfl, q⟩ := h
  refine ⟨_, pss_cons (ps_while PassesOwn.never (pt_cmpR op_ne (pv 1) pe_int (nomark _))
    (pss_one (ps_par (i := 0) (j := 1) (by rfl) scGcd.nd rfl rfl (by decide) rfl rfl (pa_cons (pv 1) (pa_cons (pe_op op_mod (pv 0) (pv 1)) pa_nil)) (by rfl))))
    (pss_one (ps_ret (pv 0))), ?_⟩
  refine q_while (fun m σ' H' => ∃ c d : Nat, σ' = [some (.int c), some (.int d)] ∧ Nat.gcd c d = Nat.gcd a b ∧ m = d ∧ Ex H H') b ⟨a, b, rfl, rfl, rfl, Ex.refl H⟩ ?_
  rintro m σ' H' ⟨c, d, rfl, hg, rfl, hx⟩
  refine ⟨_, et_test (ev_op (ev_var rfl) ev_c (rv_ne rfl)), fun hb H1 e1 => ?_, fun hb H1 e1 => ?_⟩
  · have hd : m ≠ 0 := by
      rintro rfl
      simp at hb
    refine ⟨fun σ2 H2 => ∃ c d : Nat, σ2 = [some (.int c), some (.int d)] ∧ Nat.gcd c d = Nat.gcd a b ∧ d < m ∧ Ex H H2, ?_, ?_⟩
    · rintro σ2 H2 ⟨c2, d2, rfl, g2, l2, x2⟩
      exact ⟨d2, l2, c2, d2, rfl, g2, rfl, x2⟩
    · refine ⟨.int m, rfl, .int c, rfl, .int m, rfl, c, m, rfl, rfl, by omega, .int m, .int ((c : Int) % (m : Int)), rfl, m, c % m, rfl, ?_, Nat.mod_lt _ (by omega), hx.trans e1⟩
      rw [← hg, Nat.gcd_comm c m, Nat.gcd_rec m c, Nat.gcd_comm]
  · have hd : m = 0 := by
      simp at hb
      omega
    subst hd
    refine ⟨.int c, rfl, ?_⟩
    have : c = Nat.gcd a b := by rw [← hg]; simp
    rw [this]
    exact q H1 (hx.trans e1)
end
end Nr
namespace Nr
open PySem PySem.Spec PyProof.Rows L2 Evl

/-! data -/
abbrev di (n : Nat) : PyData := .int (n : Int)
abbrev vi (n : Nat) : V := .int (n : Int)
mutual
def noL : PyData → Bool
  | .list _ => false
  | .tuple ds => noLs ds
  | .dict _ => false
  | .none => true
  | .bool _ => true
  | .int _ => true
  | .str _ => true
def noLs : List PyData → Bool
  | [] => true
  | d :: ds => noL d && noLs ds
end
theorem noLs_map {α : Type} {f : α → PyData} (h : ∀ x, noL (f x) = true) : ∀ l : List α, noLs (l.map f) = true
  | [] => by rw [List.map_nil, noLs]
  | x :: l => by rw [List.map_cons, noLs, h x, noLs_map h l]; rfl
theorem noLs_append : ∀ a b : List PyData, noLs (a ++ b) = (noLs a && noLs b)
  | [], b => by rw [List.nil_append, noLs, Bool.true_and]
  | d :: a, b => by rw [List.cons_append, noLs, noLs, noLs_append a b, Bool.and_assoc]

section
variable {K : PySem.W.Frag} {H H' : Hp}
mutual
theorem dp_ex (e : Ex H H') : ∀ (d : PyData) (v : V), Dp K H v d → Dp K H' v d
  | .none, _, h => by cases h; exact .non
  | .bool b, _, h => by cases h; exact .bl b
  | .int i, _, h => by cases h; exact .int i
  | .str x, _, h => by cases h; exact .str x
  | .list ds, _, h => by
    cases h with
    | lst hs ha => exact .lst (ex_l e hs) (dpa_ex e ds _ ha)
  | .tuple ds, _, h => by
    cases h with
    | tup hs ha => exact .tup (ex_t e hs) (dpa_ex e ds _ ha)
  | .dict _, _, h => by cases h
theorem dpa_ex (e : Ex H H') : ∀ (ds : List PyData) (vs : List V), DpAll K H vs ds → DpAll K H' vs ds
  | [], _, h => by cases h; exact .nil
  | d :: ds, _, h => by
    cases h with
    | cons h1 h2 => exact .cons (dp_ex e d _ h1) (dpa_ex e ds _ h2)
end
/-- no tuple stands at p -/
def NoT (H : Hp) (p : Addr) : Prop := ∀ xs, ¬ Rd H p (.tup xs)
theorem noT_none {p : Addr} (h : H p = none) : NoT H p := fun xs r => by
  rcases r with r | ⟨o, r⟩
  · rw [h] at r; cases r
  · rw [h] at r; cases r
theorem noT_lst {p : Addr} {ys : List V} (h : H p = some (.lst ys)) : NoT H p := fun xs r => by
  rcases r with r | ⟨o, r⟩
  · rw [h] at r; cases r
  · rw [h] at r; cases r
theorem noT_ext {p : Addr} {φ : Heap → Prop} (h : H p = some (.ext φ)) : NoT H p := fun xs r => by
  rcases r with r | ⟨o, r⟩
  · rw [h] at r; cases r
  · rw [h] at r; cases r
theorem noT_dT {p : Addr} {kvs : List (List Key × V)} (h : H p = some (.dT kvs)) : NoT H p := fun xs r => by
  rcases r with r | ⟨o, r⟩
  · rw [h] at r; cases r
  · rw [h] at r; cases r
theorem sqt_mut {p a : Addr} {o : HO} {xs : List V} (n : NoT H p) (h : SqT K H a xs) : SqT K (upd H p o) a xs := by
  rcases h with h | h
  · have hne : a ≠ p := fun z => n xs (z ▸ h)
    refine .inl ?_
    rcases h with h | ⟨u, h⟩
    · exact .inl (by rw [upd_ne hne]; exact h)
    · exact .inr ⟨u, by rw [upd_ne hne]; exact h⟩
  · exact .inr h
mutual
theorem dp_mut {p : Addr} {o : HO} (n : NoT H p) : ∀ (d : PyData) (v : V), noL d = true → Dp K H v d → Dp K (upd H p o) v d
  | .none, _, _, h => by cases h; exact .non
  | .bool b, _, _, h => by cases h; exact .bl b
  | .int i, _, _, h => by cases h; exact .int i
  | .str x, _, _, h => by cases h; exact .str x
  | .list ds, _, z, h => by rw [noL] at z; cases z
  | .tuple ds, _, z, h => by
    rw [noL] at z
    cases h with
    | tup hs ha => exact .tup (sqt_mut n hs) (dpa_mut n ds _ z ha)
  | .dict _, _, _, h => by cases h
theorem dpa_mut {p : Addr} {o : HO} (n : NoT H p) : ∀ (ds : List PyData) (vs : List V), noLs ds = true → DpAll K H vs ds → DpAll K (upd H p o) vs ds
  | [], _, _, h => by cases h; exact .nil
  | d :: ds, _, z, h => by
    rw [noLs, Bool.and_eq_true] at z
    cases h with
    | cons h1 h2 => exact .cons (dp_mut n d _ z.1 h1) (dpa_mut n ds _ z.2 h2)
end
theorem dp_int {v : V} {i : Int} (h : Dp K H v (.int i)) : v = .int i := by cases h; rfl
theorem dp_tup {v : V} {ds : List PyData} (h : Dp K H v (.tuple ds)) : ∃ a xs, v = .ref a ∧ SqT K H a xs ∧ DpAll K H xs ds := by
  cases h with
  | tup hs ha => exact ⟨_, _, rfl, hs, ha⟩
theorem dpa_append : ∀ {as : List V} {ds : List PyData} {bs : List V} {es : List PyData}, DpAll K H as ds → DpAll K H bs es → DpAll K H (as ++ bs) (ds ++ es)
  | [], _, _, _, h, k => by cases h; exact k
  | _ :: _, _, _, _, h, k => by
    cases h with
    | cons h1 h2 => exact .cons h1 (dpa_append h2 k)
theorem dpa_len : ∀ {as : List V} {ds : List PyData}, DpAll K H as ds → as.length = ds.length
  | [], _, h => by cases h; rfl
  | _ :: _, _, h => by
    cases h with
    | cons h1 h2 => rw [List.length_cons, List.length_cons, dpa_len h2]
theorem dpa_get : ∀ {as : List V} {ds : List PyData} {i : Nat} {v : V}, DpAll K H as ds → as[i]? = some v → ∃ d, ds[i]? = some d ∧ Dp K H v d
  | [], _, _, _, h, e => by simp at e
  | _ :: _, _, 0, _, h, e => by
    cases h with
    | cons h1 h2 => simp at e; subst e; exact ⟨_, rfl, h1⟩
  | _ :: _, _, i + 1, _, h, e => by
    cases h with
    | cons h1 h2 =>
      obtain ⟨d, k1, k2⟩ := dpa_get (i := i) h2 (by simpa using e)
      exact ⟨d, by simpa using k1, k2⟩
theorem dpa_ints : ∀ {as : List V} {ns : List Int}, DpAll K H as (ns.map PyData.int) → as = ns.map V.int
  | [], [], h => rfl
  | [], _ :: _, h => by cases h
  | _ :: _, [], h => by cases h
  | _ :: _, _ :: _, h => by
    cases h with
    | cons h1 h2 => rw [dp_int h1, dpa_ints h2]; rfl
theorem dpa_ints_of : ∀ (ns : List Int), DpAll K H (ns.map V.int) (ns.map PyData.int)
  | [] => .nil
  | n :: ns => .cons (.int n) (dpa_ints_of ns)
theorem dp_itup {v : V} {ns : List Int} (h : Dp K H v (.tuple (ns.map PyData.int))) : ∃ a, v = .ref a ∧ SqT K H a (ns.map V.int) := by
  obtain ⟨a, xs, rfl, hs, ha⟩ := dp_tup h
  rw [dpa_ints ha] at hs
  exact ⟨a, rfl, hs⟩
theorem dp_itup_of {a : Addr} {ns : List Int} (h : SqT K H a (ns.map V.int)) : Dp K H (.ref a) (.tuple (ns.map PyData.int)) := .tup h (dpa_ints_of ns)
end
/-- what is handed back: any data; a new list -/
def RetD (K : PySem.W.Frag) (d : PyData) (H : Hp) (Q : VK) : Prop := ∀ v H2, Ex H H2 → Dp K H2 v d → Q v H2
def RetFL (K : PySem.W.Frag) (ds : List PyData) (H : Hp) (Q : VK) : Prop := ∀ p xs H2, H p = none → Ex H H2 → H2 p = some (.lst xs) → DpAll K H2 xs ds → Q (.ref p) H2

section
variable {P : Program} {w : World} {K : PySem.W.Frag} {mg : Str → Option Value} {base : Heap}
/-! lowest -/
abbrev sLowest : Stmt := topS 11
theorem scLowest : FnScope ["top", "bottom", "shared"] ["top", "bottom"] (defScope sLowest) := ⟨rfl, rfl, rfl, by decide +kernel, rfl, by decide +kernel, by decide +kernel⟩
def lowD (a b : Nat) : PyData := .tuple [di (a / Nat.gcd a b), di (b / Nat.gcd a b)]
def spLowest (K : PySem.W.Frag) : Sp := fun vs H Q _ => ∃ a b : Nat, vs = [.int a, .int b] ∧ 0 < b ∧ b < 1073741824 ∧ RetD K (lowD a b) H Q
theorem gcd_lt {a b : Nat} (h : 0 < b) (h2 : b < 1073741824) : 0 < Nat.gcd a b ∧ Nat.gcd a b < 1073741824 :=
  ⟨Nat.gcd_pos_of_pos_right _ h, Nat.lt_of_le_of_lt (Nat.gcd_le_right _ h) h2⟩
theorem ok_lowest {f : Addr} {fd : FuncData} (F : Fun K "lowest" "lowest" sLowest f fd) {fg : Addr} {fdg : FuncData} (G : Can P w K mg base "common_divisor" 1 fg fdg ["first", "second"] spGcd) :
    FnOk P w K mg base CX0 2 f fd ["top", "bottom"] (spLowest K) := by
  refine F.ok scLowest (fun vs H Q E h => ?_) (fun cdv A outer s H vs Q E hr h => ?_)
  · obtain ⟨a, b, rfl, _⟩ := h
    rfl
  obtain ⟨a, b, rfl, hb, hb2, q⟩ := h
  have hg := gcd_lt (a := a) hb hb2
  refine ⟨_, pss_cons (ps_set (i := 2) scLowest.nd rfl (.inl rfl) (pcall G hr (pa_cons (pv 0) (pa_cons (pv 1) pa_nil))))
    (pss_one (ps_ret (pe_tup (pa_cons (pe_op op_fdiv (pv 0) (pv 2)) (pa_cons (pe_op op_fdiv (pv 1) (pv 2)) pa_nil))))), ?_⟩
  refine ⟨.int a, rfl, .int b, rfl, a, b, rfl, fun H1 e1 => ?_⟩
  refine ⟨.int a, rfl, .int (Nat.gcd a b : Nat), rfl, _, _, rfl, rfl, ⟨by omega, by omega⟩, .int b, rfl, .int (Nat.gcd a b : Nat), rfl, _, _, rfl, rfl, ⟨by omega, by omega⟩, by show 2 ≤ sizeLine; decide, fun t ht => ?_⟩
  refine q _ _ (e1.trans (Ex.new ht)) (.tup (st_of upd_same) (.cons (.int _) (.cons (.int _) .nil)))

/-! common_multiple -/
abbrev sLcm : Stmt := topS 10
theorem scLcm : FnScope ["numbers", "multiple", "number"] ["numbers"] (defScope sLcm) := ⟨rfl, rfl, rfl, by decide +kernel, rfl, by decide +kernel, by decide +kernel⟩
def lcmL (l : List Nat) : Nat := l.foldl (fun m n => m * n / Nat.gcd m n) 1
theorem lcm_step (m n : Nat) : m * n / Nat.gcd m n = Nat.lcm m n := rfl
theorem lcm_pos : ∀ (l : List Nat) (m : Nat), 0 < m → (∀ x ∈ l, 0 < x) → 0 < l.foldl (fun m n => m * n / Nat.gcd m n) m
  | [], m, h, _ => h
  | x :: l, m, h, k => lcm_pos l _ (by show 0 < Nat.lcm m x; exact Nat.lcm_pos h (k x (List.mem_cons_self))) fun y hy => k y (List.mem_cons_of_mem _ hy)
/-- numbers all of whose multiples on the way stay small -/
def spLcm (K : PySem.W.Frag) : Sp := fun vs H Q _ => ∃ (a : Addr) (ns : List Nat), vs = [.ref a] ∧ SqL K H a (ns.map vi) ∧ (∀ n ∈ ns, 0 < n ∧ n < 1073741824) ∧ RetV (.int (lcmL ns : Nat)) H Q
theorem ok_lcm {f : Addr} {fd : FuncData} (F : Fun K "common_multiple" "common_multiple" sLcm f fd) {fg : Addr} {fdg : FuncData} (G : Can P w K mg base "common_divisor" 1 fg fdg ["first", "second"] spGcd) :
    FnOk P w K mg base CX0 2 f fd ["numbers"] (spLcm K) := by
  refine F.ok scLcm (fun vs H Q E h => ?_) (fun cdv A outer s H vs Q E hr h => ?_)
  · obtain ⟨a, b, rfl, _⟩ := h
    rfl
  obtain ⟨a, ns, rfl, hs, hb, q⟩ := h
  refine ⟨_, pss_cons (ps_set (i := 1) scLcm.nd rfl (.inl rfl) pe_int)
    (pss_cons (ps_for PassesOwn.never rfl (pi_list (pv 0)) (pg_name (i := 2) scLcm.nd rfl (.inl rfl))
      (pss_one (ps_set (i := 1) scLcm.nd rfl (.inl rfl) (pe_op op_fdiv (pe_op op_mul (pv 1) (pv 2)) (pcall G hr (pa_cons (pv 1) (pa_cons (pv 2) pa_nil)))))))
    (pss_one (ps_ret (pv 1)))), ?_⟩
  refine q_asg ev_c fun H1 e1 => ?_
  refine q_forLn (ev_var rfl) (ex_l e1 hs) (fun i σ' H' => Ex H H' ∧ ∃ y, σ' = [some (.ref a), some (.int ((ns.take i).foldl (fun m n => m * n / Nat.gcd m n) 1 : Nat)), y]) (fun H2 e2 => ⟨e1.trans e2, none, rfl⟩) (fun i σ' H' _ h => ex_l h.1 hs) ?_ ?_
  · rintro i x σ' H' hx ⟨e2, y, rfl⟩
    rw [List.getElem?_map] at hx
    obtain ⟨n, hn, rfl⟩ := Option.map_eq_some_iff.mp hx
    have hm := hb n (List.mem_of_getElem? hn)
    have hg := gcd_lt (a := (ns.take i).foldl (fun m n => m * n / Nat.gcd m n) 1) hm.1 hm.2
    have et : (ns.take (i + 1)).foldl (fun m n => m * n / Nat.gcd m n) 1 = (ns.take i).foldl (fun m n => m * n / Nat.gcd m n) 1 * n / Nat.gcd ((ns.take i).foldl (fun m n => m * n / Nat.gcd m n) 1) n := by
      rw [List.take_add_one, hn, List.foldl_append]; rfl
    rw [et]
    generalize (ns.take i).foldl (fun m n => m * n / Nat.gcd m n) 1 = m at hg ⊢
    refine ⟨.int m, rfl, .int n, rfl, _, _, rfl, rfl, .inr ⟨by omega, by omega⟩, .int m, rfl, .int n, rfl, m, n, rfl, fun H2 e3 => ⟨_, _, rfl, rfl, ⟨by omega, by omega⟩, e2.trans e3, some (.int n), rfl⟩⟩
  · rintro σ' H' ⟨e2, y, rfl⟩
    refine ⟨_, rfl, ?_⟩
    rw [List.length_map, List.take_length]
    exact q _ e2
end
end Nr
namespace Nr
open PySem PySem.Spec PyProof.Rows L2 Evl

/-! turns -/
def turnsF : Nat → Nat → Nat → Nat → Nat → List (Nat × Nat)
  | 0, _, _, _, _ => []
  | f + 1, M, b, l, h => if b < M then (b, l) :: turnsF f M (b + l) (l + h) h else []
def turnsM (n g h : Nat) : List (Nat × Nat) := turnsF (2 * n) (2 * n) 0 g h
abbrev td (p : Nat × Nat) : PyData := .tuple [di p.1, di p.2]
abbrev wD (g h e : Nat) : PyData := .tuple [di g, di h, di e]
theorem noL_td (p : Nat × Nat) : noL (td p) = true := by simp [noL, noLs]
theorem turnsF_done : ∀ (f M b l h : Nat), ¬ b < M → turnsF f M b l h = []
  | 0, _, _, _, _, _ => rfl
  | f + 1, M, b, l, h, z => by rw [turnsF, if_neg z]
theorem turnsF_len : ∀ (f M b l h : Nat), (turnsF f M b l h).length ≤ f
  | 0, _, _, _, _ => Nat.le_refl _
  | f + 1, M, b, l, h => by
    rw [turnsF]
    split
    · rw [List.length_cons]; have := turnsF_len f M (b + l) (l + h) h; omega
    · exact Nat.zero_le _
theorem wd_get {K : PySem.W.Frag} {H : Hp} {v : V} {g h e : Nat} (d : Dp K H v (wD g h e)) : ∃ a, v = .ref a ∧ SqT K H a [vi g, vi h, vi e] := dp_itup (ns := [(g : Int), (h : Int), (e : Int)]) d
theorem td_get {K : PySem.W.Frag} {H : Hp} {v : V} {p : Nat × Nat} (d : Dp K H v (td p)) : ∃ a, v = .ref a ∧ SqT K H a [vi p.1, vi p.2] := dp_itup (ns := [(p.1 : Int), (p.2 : Int)]) d
section
variable {P : Program} {w : World} {K : PySem.W.Frag} {mg : Str → Option Value} {base : Heap}
abbrev sTurns : Stmt := topS 21
theorem scTurns : FnScope ["many", "winding", "girth", "growth", "end", "begin", "length", "rows"] ["many", "winding"] (defScope sTurns) := ⟨rfl, rfl, rfl, by decide +kernel, rfl, by decide +kernel, by decide +kernel⟩
def spTurns (K : PySem.W.Frag) : Sp := fun vs H Q _ => ∃ (n g h e : Nat) (v : V), vs = [.int n, v] ∧ Dp K H v (wD g h e) ∧ 0 < g ∧ n ≤ 1000 ∧ RetFL K ((turnsM n g h).map td) H Q
theorem ok_turns {f : Addr} {fd : FuncData} {k : Nat} {tc : Tok} (F : Fun K "turns" "turns" sTurns f fd) (gC : mg "CELL" = some (.int 2 tc)) :
    FnOk P w K mg base CX0 (k + 1) f fd ["many", "winding"] (spTurns K) := by
  refine F.ok scTurns (fun vs H Q E h => ?_) (fun cdv A outer s H vs Q E hr h => ?_)
  · obtain ⟨n, g, h, e, v, rfl, _⟩ := h
    rfl
  obtain ⟨n, g, h, e, v, rfl, hw, hg0, hn, q⟩ := h
  obtain ⟨wa, rfl, hq⟩ := wd_get hw
  refine ⟨_, pss_cons (ps_asg (pv 1) (pg_tup rfl (pgs_cons (pg_name (i := 2) scTurns.nd rfl (.inl rfl)) (pgs_cons (pg_name (i := 3) scTurns.nd rfl (.inl rfl)) (pgs_cons (pg_name (i := 4) scTurns.nd rfl (.inl rfl)) pgs_nil)))))
    (pss_cons (ps_set (i := 5) scTurns.nd rfl (.inl rfl) pe_int)
    (pss_cons (ps_set (i := 6) scTurns.nd rfl (.inl rfl) (pv 2))
    (pss_cons (ps_set (i := 7) scTurns.nd rfl (.inl rfl) (pe_lst pa_nil))
    (pss_cons (ps_while PassesOwn.never (PW.pt (pw_and (pt_cmpR op_lt (pv 5) (pe_op op_mul (pe_glob (v := .int 2) (by rfl) gC ⟨_, rfl⟩) (pv 0)) (nomark _)) (pw_and1 (pt_cmpR op_gt (pv 6) pe_int (nomark _)))))
      (pss_cons (ps_expr (pe_bm PySem.F.plainAttrs_list PySem.F.slot_list_append PySem.F.type_list_append mt_append (pv 7) (pa_cons (pe_tup (pa_cons (pv 5) (pa_cons (pv 6) pa_nil))) pa_nil)))
      (pss_cons (ps_aug (i := 5) scTurns.nd rfl (.inl rfl) (pv 6) ip_add)
      (pss_one (ps_aug (i := 6) scTurns.nd rfl (.inl rfl) (pv 3) ip_add)))))
    (pss_one (ps_ret (pv 7))))))), ?_⟩
  refine ⟨_, rfl, wa, _, rfl, hq, rfl, vi g, _, rfl, vi h, _, rfl, vi e, _, rfl, rfl, ?_⟩
  refine ⟨_, rfl, ?_⟩
  refine ⟨Nat.zero_le _, fun p hp => ?_⟩
  refine q_while (fun m σ' H' => ∃ (b l fu : Nat) (pre : List (Nat × Nat)) (xs : List V), σ' = [some (vi n), some (.ref wa), some (vi g), some (vi h), some (vi e), some (vi b), some (vi l), some (.ref p)] ∧ 0 < l ∧
    turnsM n g h = pre ++ turnsF fu (2 * n) b l h ∧ 2 * n - b ≤ fu ∧ m = 2 * n - b ∧ Ex H H' ∧ H' p = some (.lst xs) ∧ DpAll K H' xs (pre.map td)) (2 * n)
    ⟨0, g, 2 * n, [], [], rfl, hg0, rfl, by omega, by omega, Ex.new hp, upd_same, .nil⟩ ?_
  rintro m σ' H' ⟨b, l, fu, pre, xs, rfl, hl0, ht, hfu, rfl, ex, hpx, hd⟩
  refine ⟨_, et_and (et_test (ev_op (ev_var rfl) (ev_op ev_c (ev_var rfl) (rv_I (.inl ⟨by decide, by decide⟩))) rv_I0)) (fun _ => et_test (ev_op (ev_var rfl) ev_c rv_I0)), fun hb H1 e1 => ?_, fun hb H1 e1 => ?_⟩
  · have hb1 : b < 2 * n := by
      simp at hb
      omega
    obtain ⟨fu, rfl⟩ : ∃ k, fu = k + 1 := ⟨fu - 1, by omega⟩
    rw [turnsF, if_pos hb1] at ht
    have hlen : xs.length < 100000 := by
      have l1 := dpa_len hd
      have l2 := congrArg List.length ht
      have l3 := turnsF_len (2 * n) (2 * n) 0 g h
      rw [List.length_map] at l1
      rw [List.length_append] at l2
      unfold turnsM at l2
      omega
    obtain ⟨b0, eb0⟩ : ∃ b0, b0 = b := ⟨b, rfl⟩
    rw [show 2 * n - b = 2 * n - b0 by rw [eb0]]
    refine ⟨fun σ2 H2 => ∃ (b l fu : Nat) (pre : List (Nat × Nat)) (xs : List V), σ2 = [some (vi n), some (.ref wa), some (vi g), some (vi h), some (vi e), some (vi b), some (vi l), some (.ref p)] ∧ 0 < l ∧
      turnsM n g h = pre ++ turnsF fu (2 * n) b l h ∧ 2 * n - b ≤ fu ∧ 2 * n - b < 2 * n - b0 ∧ Ex H H2 ∧ H2 p = some (.lst xs) ∧ DpAll K H2 xs (pre.map td), ?_, ?_⟩
    · rintro σ2 H2 ⟨b2, l2, fu2, pre2, xs2, h1, h2, h3, h4, h5, h6, h7, h8⟩
      exact ⟨_, h5, b2, l2, fu2, pre2, xs2, h1, h2, h3, h4, rfl, h6, h7, h8⟩
    · refine q_appU (e1 _ _ hpx) (ev_var rfl) (eu_tup (ea_cons (ev_var rfl) (ea_cons (ev_var rfl) ea_nil)) (by show 2 ≤ 100000; decide)) hlen fun t H2 ht2 e2 h2t => ?_
      refine q_aug rfl (ev_var rfl) fun H3 e3 => ?_
      refine s_aug rfl (ev_var rfl) fun H4 e4 => ?_
      refine ⟨b + l, l + h, fu, pre ++ [(b, l)], xs ++ [.ref t], rfl, by omega, ?_, by omega, by omega, ?_, (e3.trans e4) _ _ upd_same, ?_⟩
      · rw [ht, List.append_assoc]; rfl
      · exact (Ex.mut ((ex.trans e1).trans e2) hp).trans (e3.trans e4)
      · rw [List.map_append]
        refine dpa_ex (e3.trans e4) _ _ (dpa_mut (noT_lst (e2 _ _ (e1 _ _ hpx))) _ _ ?_ (dpa_append (dpa_ex (e1.trans e2) _ _ hd) (.cons (.tup (st_of h2t) (.cons (.int _) (.cons (.int _) .nil))) .nil)))
        rw [noLs_append, noLs_map noL_td]
        simp [noLs, noL]
  · have hb1 : ¬ b < 2 * n := by
      simp at hb
      omega
    rw [turnsF_done _ _ _ _ _ hb1, List.append_nil] at ht
    rw [← ht] at hd
    exact ⟨_, rfl, q p xs H1 hp (ex.trans e1) (e1 _ _ hpx) (dpa_ex e1 _ _ hd)⟩

/-! cell_at -/
abbrev sCellAt : Stmt := topS 22
theorem scCellAt : FnScope ["many", "winding", "place"] ["many", "winding", "place"] (defScope sCellAt) := ⟨rfl, rfl, rfl, by decide +kernel, rfl, by decide +kernel, by decide +kernel⟩
def cellI (n e : Nat) (p : Int) : Int := if e = 1 then (n : Int) - 1 - p else p
def spCellAt (K : PySem.W.Frag) : Sp := fun vs H Q _ => ∃ (n g h e : Nat) (p : Int) (v : V), vs = [.int n, v, .int p] ∧ Dp K H v (wD g h e) ∧ RetV (.int (cellI n e p)) H Q
theorem ok_cellAt {f : Addr} {fd : FuncData} {k : Nat} (F : Fun K "cell_at" "cell_at" sCellAt f fd) : FnOk P w K mg base CX0 (k + 1) f fd ["many", "winding", "place"] (spCellAt K) := by
  refine F.ok scCellAt (fun vs H Q E h => ?_) (fun cdv A outer s H vs Q E hr h => ?_)
  · obtain ⟨n, g, h, e, p, v, rfl, _⟩ := h
    rfl
  obtain ⟨n, g, h, e, p, v, rfl, hw, q⟩ := h
  obtain ⟨wa, rfl, hq⟩ := wd_get hw
  refine ⟨_, pss_one (ps_ret (pe_ifExp (pt_cmpR op_eq (pe_ix ix_tup (pv 1) pe_int (fun _ _ => rfl)) pe_int (nomark _)) (pe_op op_sub (pe_op op_sub (pv 0) pe_int) (pv 2)) (pv 2))), ?_⟩
  refine s_ret (v := .int (cellI n e p)) (ev_if (et_test (ev_op (ev_op (ev_var rfl) ev_c (rv_ixT hq (atI_nat (j := 2) rfl))) ev_c (rv_eq rfl))) (fun hb => ?_) (fun hb => ?_)) (fun H1 e1 => q H1 e1)
  · refine ev_is (ev_op (ev_op (ev_var rfl) ev_c rv_I0) (ev_var rfl) rv_I0) ?_
    simp at hb
    unfold cellI
    rw [if_pos (by omega)]
  · refine ev_is (ev_var rfl) ?_
    simp at hb
    unfold cellI
    rw [if_neg (by omega)]
end
end Nr
namespace Nr
open PySem PySem.Spec PyProof.Rows L2 Evl

/-- a def's rule that hands its body what is known of its code object -/
theorem fun_okC {P : Program} {w : World} {K : PySem.W.Frag} {mg : Str → Option Value} {base : Heap} {x qual : Str} {st : Stmt} {f : Addr} {fd : FuncData} {N ps : List Str} {k : Nat} {sp : Sp}
    (F : Fun K x qual st f fd) (S : FnScope N ps (defScope st)) (len : ∀ vs H Q E, sp vs H Q E → vs.length = ps.length)
    (body : ∀ (cdv : Value) (A : Around) (outer : List Env) (s : Shared) (H : Hp) (vs : List V) (Q : VK) (E : XK), PySem.W.kdsCode K cdv = true →
      Room k (A.deeper (envOfC qual (defScope st) s.heap.objs.size f cdv)) → sp vs H Q E →
      ∃ t, PSs (cxOf CX0 P w K mg base N qual (defScope st) f cdv A outer s H E).nox (defBody st) t ∧ t { nx := fun _ H' => Q .non H', rt := Q } (start N vs) H) :
    FnOk P w K mg base CX0 (k + 1) f fd ps sp := by
  obtain ⟨oc, od, kV, doc, pm, an, cdv, ct, osl, rfl, lk, hcd⟩ := F.ex
  have hk : PySem.W.kdsCode K cdv = true := by
    unfold PySem.W.codeIn at hcd
    unfold PySem.W.kdsCode
    split at hcd
    · split at hcd
      · next e =>
        show (match List.lookup _ K with
          | some ⟨_, _, .fields _, _⟩ => true
          | _ => false) = true
        rw [e]
      · cases hcd
    · cases hcd
  refine fn_of lk hcd S len fun A outer s H vs Q E hr hsp => ?_
  obtain ⟨t, h, q⟩ := body cdv A outer s H vs Q E hk hr hsp
  exact ⟨t, h.nox, q⟩

section
variable {X : Cx} {pins : List (Addr × Obj)} {σ : L2.St} {H : Hp} {s : Shared}
/-- the set at D gets one int more -/
theorem setAdd_int {E : Value → Shared → Prop} {D : Addr} {S : Int → Bool} {n : Nat} {k : Int} {tk : Tok} {Q : Bool → Shared → Prop} (I : Inv X pins σ H s) (hD : H D = some (SetO X.w D S n)) (room : n + 1 < scanBound)
    (h : ∀ b s', Inv X pins σ (upd H D (SetO X.w D (fun j => S j || decide (j = k)) (if S k = true then n else n + 1))) s' → Q b s') :
    wpAny (model X.prog X.w) X.A (setAdd D (.int k tk)) Q E s := by
  have R := setO_get I hD
  unfold setAdd
  refine wpAny_holding (wpAny_bind ((intKind X.prog X.w).pyHash (intKind_is _ _ _ _) ?_))
  refine setR_add_hashed (s := { s with toks := s.toks + 1 }) R room fun h' sb new => h _ _ ?_
  have he : ∃ u, h'.get? D = some u := by
    obtain ⟨o, _, _, _, ho, _⟩ := id new
    exact ⟨o, ho⟩
  exact I.write (e := D) (t' := s.toks + 1) (by rw [hD]; trivial) (.inl rfl) (fun b u hb hu => (sb.2 b hb).trans hu) he (setO_new new)
theorem setCall_int {E : Value → Shared → Prop} {D : Addr} {S : Int → Bool} {n : Nat} {k : Int} {tk : Tok} {Q : Value → Shared → Prop} (I : Inv X pins σ H s) (hD : H D = some (SetO X.w D S n)) (room : n + 1 < scanBound)
    (h : ∀ s', Inv X pins σ (upd H D (SetO X.w D (fun j => S j || decide (j = k)) (if S k = true then n else n + 1))) s' → Q .none s') :
    wpAny (model X.prog X.w) X.A (call (.builtin "set.add") [.ref D, .int k tk]) Q E s := by
  have R := setO_get I hD
  refine setR_add R room fun h' sb new => h _ ?_
  have he : ∃ u, h'.get? D = some u := by
    obtain ⟨o, _, _, _, ho, _⟩ := id new
    exact ⟨o, ho⟩
  exact I.write (e := D) (t' := s.toks + 1) (by rw [hD]; trivial) (.inl rfl) (fun b u hb hu => (sb.2 b hb).trans hu) he (setO_new new)
end

section
variable {X : Cx}
/-- {e}, e an int -/
def tSet1 (w : World) (te : TE) : TE := fun σ H Q => ∀ p, H p = none → te σ (upd H p (SetO w p (fun _ => false) 0)) fun y H1 => ∃ k : Int, y = .int k ∧ H1 p = some (SetO w p (fun _ => false) 0) ∧ Q (.ref p) (upd H1 p (SetO w p (fun j => decide (j = k)) 1))
theorem pe_set1 {e : Expr} {pos : Pos} {te : TE} (he : PE X e te) (hcd : PySem.W.kdsCode X.K X.env.code = true) (hs : starEach [e] X.env = [(false, eval e X.env)] := by rfl) : PE X (.Set [e] 0 pos) (tSet1 X.w te) := by
  refine ⟨fun pins s σ H Q I h => ?_⟩
  rw [arm_eval_Set, hs]
  refine wpAny_bind (wpAny_standAt (wpAny_bind (PySem.W.kds_main I.kIn hcd fun b => ?_)))
  unfold setDisplay
  have er : (displayRoad 0 [e] == DisplayRoad.constants) = false := rfl
  have eu : (displayRoad 0 [e] == DisplayRoad.unsure) = false := rfl
  rw [er, eu]
  dsimp only [Bool.false_eq_true, if_false, List.map_cons, List.map_nil, List.length_cons, List.length_nil]
  refine wpAny_bind (PpSet.newSet_ok ?_)
  have hp : H s.heap.objs.size = none := I.hok.fresh (Nat.le_refl _)
  have I1 : Inv X pins σ (upd H s.heap.objs.size (SetO X.w s.heap.objs.size (fun _ => false) 0)) { s with heap := s.heap.push { cls := .type "set", dict := none, data := .set #[] 0 (.fresh 0 0 (!X.w.params.followText "set-order")) } } :=
    I.laid (t' := s.toks) (fun b u e => Heap.get?_push_of_some _ e) (Nat.le_refl _) (setO_new (setR_fresh X.w))
  have h1 := h _ hp
  generalize s.heap.objs.size = D at hp I1 h1 ⊢
  dsimp only
  refine wpAny_bind (wpAny_holding ?_)
  change wpAny _ _ (evalAll [do let v ← eval e X.env; standAt pos; pure v] >>= _) _ _ _
  unfold evalAll
  refine wpAny_bind (wpAny_bind (wpAny_bind (thn (he.run pins _ σ _ _ I1 h1) fun v s2 ⟨y, H2, I2, r2, k, ey, hD, q⟩ => ?_)))
  subst ey
  obtain ⟨tk, rfl⟩ := r2
  refine wpAny_bind (wpAny_standAt (wpAny_pure ?_))
  refine wpAny_bind (wpAny_holding (wpAny_pure (wpAny_pure ?_)))
  refine wpAny_bind (wpAny_holding ?_)
  rw [List.forIn_cons]
  refine wpAny_bind (wpAny_bind (wpAny_bind (setAdd_int I2 hD (by decide) fun b' s3 I3 => ?_)))
  refine wpAny_pure ?_
  refine wpAny_pure ?_
  show wpAny _ _ (if false = true then _ else pure ()) _ _ _
  rw [if_neg Bool.false_ne_true]
  refine wpAny_pure (wpAny_bind ?_)
  show wpAny _ _ (forIn [] PUnit.unit _) _ _ _
  rw [List.forIn_nil]
  refine wpAny_pure (wpAny_pure (wpAny_pure ⟨.ref D, _, I3, rfl, ?_⟩))
  have e1 : (fun j : Int => false || decide (j = k)) = fun j => decide (j = k) := funext fun j => Bool.false_or _
  rw [e1, if_neg Bool.false_ne_true]
  exact q

/-- {elt for target in iter if ..}, elt an int: D the new set -/
def tScI (w : World) (wi : TI) (g : TG) (tt : TT) (te : TE) (vs : List Nat) : TE := fun σ H Q => wi σ H fun J H1 => ∀ D, H1 D = none →
  ∃ W : Nat → Nat → Hp → Prop, (∃ m, W 0 m (upd H1 D (SetO w D (fun _ => false) 0))) ∧ ∀ i m H, W i m H →
    (J.stop i H ∧ Q (.ref D) H) ∨
    (J.go i H ∧ ∃ Nx : Hp → Prop, (∀ H', Nx H' → ∃ m', m' < m ∧ W (i + 1) m' H') ∧
      ∀ x H', J.yld i H x H' → g x (wipe σ vs) H' fun σ2 H2 => wipe σ2 vs = wipe σ vs ∧ tt σ2 H2 fun b H3 =>
        if b = true then te σ2 H3 fun y H4 => ∃ (c : Int) (S : Int → Bool) (n : Nat), y = .int c ∧ H4 D = some (SetO w D S n) ∧ n + 1 < scanBound ∧
          Nx (upd H4 D (SetO w D (fun j => S j || decide (j = c)) (if S c = true then n else n + 1)))
        else Nx H3)
theorem pe_scI {elt tg iter : Expr} {ifs : List Expr} {scope : Scope} {own : List (PySem.Str × Nat)} {pos : Pos} {wi : TI} {g : TG} {tt : TT} {te : TE}
    (hc : X.calm = true) (hN : X.N.Nodup) (hi : PI X tg iter wi) (ok : BlkOk X.N X.env.scope scope own)
    (hg : ∀ (s : Shared) (H : Hp) (C : Addr) (cl : List (PySem.Str × Addr)) (fp : List Addr), PG (X.blk s H scope (compEnvC scope cl C X.env) fp) tg g)
    (ht : ∀ (s : Shared) (H : Hp) (C : Addr) (cl : List (PySem.Str × Addr)) (fp : List Addr), PTs (X.blk s H scope (compEnvC scope cl C X.env) fp) ifs tt)
    (he : ∀ (s : Shared) (H : Hp) (C : Addr) (cl : List (PySem.Str × Addr)) (fp : List Addr), PE (X.blk s H scope (compEnvC scope cl C X.env) fp) elt te)
    (hs : ∀ x, foldedSetIterable iter X.env x = pure x := by intro _; rfl) :
    PE X (.SetComp elt [⟨tg, iter, ifs, 0⟩] scope pos) (tScI X.w wi g tt te (own.map (·.2))) := by
  refine ⟨fun pins s σ H Q I h => ?_⟩
  rw [PpSet.eval_SetComp]
  have cells : ∀ y ∈ scope.names, y.2 = .free → ∃ c, X.env.cells.lookup y.1 = some c := fun y hy e =>
    (ok.free y hy e).elim (fun k => I.ok.has _ (.inl k)) (fun k => I.ok.has _ (.inr k))
  refine wpAny_comprehension_free rfl hs (closure_ok cells) ok.kind (fun y hy e => by rw [ok.uniq y hy, e])
    (thn (hi.run pins s σ H _ I h) fun xv sA hA => thn hA fun itv sB hB => ?_)
  obtain ⟨it, fp, tn, J, HB, rfl, IB, T, stB, fB, q⟩ := hB
  refine PpSet.newSet_ok (newEnv_comp ?_)
  have freeB : HB sB.heap.objs.size = none := IB.hok.fresh (Nat.le_refl _)
  have IC := IB.laid (t' := sB.toks) (a := sB.heap.objs.size) (fun b o e => Heap.get?_push_of_some _ e) (Nat.le_refl _) (setO_new (setR_fresh (h := sB.heap) X.w))
  have fpLt : ∀ b ∈ fp, b < sB.heap.objs.size := fun b hb => by
    obtain ⟨o, e, _⟩ := T.obj _ _ stB b hb
    exact Heap.lt_size e
  obtain ⟨W, ⟨m0, w0⟩, turn⟩ := q _ freeB
  generalize eD : sB.heap.objs.size = D at freeB IC fpLt w0 turn ⊢
  generalize eC : ({ sB with heap := sB.heap.push { cls := .type "set", dict := none, data := .set #[] 0 (.fresh 0 0 (!X.w.params.followText "set-order")) } } : Shared) = sC
  have heC : sC.heap = sB.heap.push { cls := .type "set", dict := none, data := .set #[] 0 (.fresh 0 0 (!X.w.params.followText "set-order")) } := by rw [← eC]
  have IC : Inv X pins σ (upd HB D (SetO X.w D (fun _ => false) 0)) sC := by rw [← eC]; exact IC
  generalize eH : upd HB D (SetO X.w D (fun _ => false) 0) = HC at IC w0
  have fC : ∀ b ∈ fp, FpOk X pins HC b ∧ b < sC.heap.objs.size := fun b hb => by
    have lt := fpLt b hb
    have ne : b ≠ D := Nat.ne_of_lt lt
    refine ⟨⟨?_, (fB b hb).2⟩, ?_⟩
    · rw [← eH, upd_ne ne]; exact (fB b hb).1
    · rw [heC, Heap.size_push]; exact Nat.lt_succ_of_lt (eD ▸ lt)
  have stC : tn 0 sC.heap := T.keep _ _ _ stB fun b _ o e => by rw [heC]; exact Heap.get?_push_of_some _ e
  have IE := block_start IC ok hN fC
  generalize eCl : cellsFrom (sC.heap.objs.size + 1) scope.names (cloFrom X.env.cells scope.names []) = cl at IE
  have pg := hg sC HC sC.heap.objs.size cl fp
  have pt := ht sC HC sC.heap.objs.size cl fp
  have pe := he sC HC sC.heap.objs.size cl fp
  change codeAny _ _ (.compStart (.SetComp elt [⟨tg, iter, ifs, 0⟩] scope pos) 0 (.ref it) (.ref D) (compEnvC scope cl sC.heap.objs.size X.env)) (compPost (model X.prog X.w) X.A X.xe none (EP X pins σ Q) (.ref D) sC.heap.objs.size) _
  have hfp0 : ∀ b ∈ fp, HC b = none := fun b hb => (fC b hb).1.1
  have stE : tn 0 (pushCells (sC.heap.push { cls := .type "dict", data := .dict #[] }) scope.names) := T.keep _ _ _ stC fun b _ o e => pushCells_keeps _ _ _ _ (Heap.get?_push_of_some _ e)
  have eL : (compEnvC scope cl sC.heap.objs.size X.env).locals = sC.heap.objs.size := rfl
  generalize compEnvC scope cl sC.heap.objs.size X.env = ce at IE pg pt pe eL ⊢
  have stE : tn 0 ({ sC with heap := pushCells (sC.heap.push { cls := .type "dict", data := .dict #[] }) scope.names } : Shared).heap := stE
  generalize ({ sC with heap := pushCells (sC.heap.push { cls := .type "dict", data := .dict #[] }) scope.names } : Shared) = sE at IE stE ⊢
  -- what the walk leans on stays untouched by the block
  have foot : ∀ {ρ : L2.St} {G : Hp} {z : Shared}, Inv (X.blk sC HC scope ce fp) [] ρ G z → (∀ b ∈ fp, G b = none) → ∀ b ∈ fp, FpOk (X.blk sC HC scope ce fp) [] G b :=
    fun {ρ G z} J hn b hb => ⟨hn b hb, (J.ok.exf b hb).1, J.ok.exfs b hb, .inl hb, fun x c e => (J.ok.exf b hb).2 x c e, fun r hr => by cases hr⟩
  have loop : codeAny (model X.prog X.w) X.A (.compLoop (.SetComp elt [⟨tg, iter, ifs, 0⟩] scope pos) 0 (.ref it) (.ref D) ce) (compPost (model X.prog X.w) X.A X.xe none (EP X pins σ Q) (.ref D) sC.heap.objs.size) sE := by
    refine PpSet.compLoopS_any (fun left z => ∃ at_ G, Inv (X.blk sC HC scope ce fp) [] (wipe σ (own.map (·.2))) G z ∧ tn at_ z.heap ∧ (∀ b ∈ fp, G b = none) ∧ W at_ left G) ?_ m0 ⟨0, HC, IE, stE, hfp0, w0⟩
    rintro left z ⟨at_, G, IG, stG, nG, wG⟩
    rcases turn at_ left G wG with ⟨stop, fin⟩ | ⟨go, Nx, hNx, step⟩
    · -- the walk is at its end: back to the def
      refine thnF (T.done (X.blk sC HC scope ce fp) rfl rfl rfl hc at_ [] z _ G (fun _ _ => False) IG (foot IG nG) stG stop) fun r z1 ⟨hr, I1⟩ => ?_
      subst hr
      have IX : Inv X pins σ G z1 := IC.call' (ch := fp) I1.os I1.base I1.hok I1.bare fun b hb => ⟨(fC b hb).1.2.2.2.1, (fC b hb).1.2.1, (fC b hb).1.2.2.2.2.1, (fC b hb).1.2.2.2.2.2⟩
      have nC : G sC.heap.objs.size = none := eL ▸ I1.free
      obtain ⟨mm, hm, _⟩ := I1.loc
      have hm : z1.heap.Ns ce.locals mm := hm
      rw [eL] at hm
      obtain ⟨f0, f1, f2, f3, f4, f5⟩ := IC.fpOk (Nat.le_refl sC.heap.objs.size) nC
      exact ⟨mm, hm, fun h2 sb => ⟨.ref D, G, IX.turned (t' := z1.toks) (fun b o hb e => (sb.2 b hb).trans e) f0 f1 f3 f4 f5, rfl, fin⟩⟩
    · refine thnF (T.item (X.blk sC HC scope ce fp) rfl rfl rfl hc at_ [] z _ G (fun _ _ => False) IG (foot IG nG) stG go) fun r z1 ⟨u, hr, k1⟩ => ?_
      subst hr
      refine thnF k1 fun _ z2 ⟨x, G2, I2, r2, y2, st2, n2⟩ => ?_
      refine thnF (pg.run _ z2 _ G2 x u _ (I2.pinned (foot I2 n2) (T.obj _ _ st2)) r2 (step x G2 y2)) fun _ z3 ⟨σ3, G3, I3, hw3, k3⟩ => ?_
      refine thnF (pt.run _ z3 σ3 G3 _ I3 k3) fun b z4 ⟨G4, I4, k4⟩ => ?_
      have again_ : ∀ {z' : Shared} {G' : Hp}, Inv (X.blk sC HC scope ce fp) ([] ++ pinsAt fp z2.heap) σ3 G' z' → Nx G' →
          ∃ m, m < left ∧ ∃ at_ G, Inv (X.blk sC HC scope ce fp) [] (wipe σ (own.map (·.2))) G z' ∧ tn at_ z'.heap ∧ (∀ b ∈ fp, G b = none) ∧ W at_ m G := fun {z' G'} J nx => by
        obtain ⟨m', lt, w'⟩ := hNx G' nx
        have held : ∀ b ∈ fp, ∀ o, z2.heap.get? b = some o → z'.heap.get? b = some o ∧ G' b = none := fun b hb o e => by
          have q' := J.pin (b, o) (List.mem_append_right _ (List.mem_append_right _ (mem_pinsAt hb e)))
          exact ⟨q'.1, q'.2.1⟩
        refine ⟨m', lt, at_ + 1, G', (J.unpinned (pins := [])).weak (by rw [← hw3, wipe_length]) fun j v e => ?_, T.keep _ _ _ st2 fun b hb o e => (held b hb o e).1, fun b hb => ?_, w'⟩
        · rw [← hw3] at e
          exact (wipe_some e).1
        · obtain ⟨o, e, _⟩ := T.obj _ _ st2 b hb
          exact (held b hb o e).2
      cases b with
      | false =>
        rw [if_neg Bool.false_ne_true] at k4 ⊢
        exact again_ I4 k4
      | true =>
        rw [if_pos rfl] at k4 ⊢
        refine thnF (pe.run _ z4 σ3 G4 _ I4 k4) fun v z5 ⟨y, G5, I5, r5, c, S, n, ey, hD5, hz5, nx⟩ => ?_
        subst ey
        obtain ⟨tk, rfl⟩ := r5
        exact setCall_int (X := X.blk sC HC scope ce fp) I5 hD5 hz5 fun z6 I6 => again_ I6 nx
  exact PpSet.codeAny_compStart_set loop (T.self X.A 0 _ _ _ stE loop)
/-- over a list that the block leaves as it is -/
theorem sc_list {w : World} {K : PySem.W.Frag} {a : Addr} {xs : List V} {g : TG} {tt : TT} {te : TE} {vs : List Nat} {σ : L2.St} {H1 : Hp} {D : Addr} {Qd : Hp → Prop} (Pv : Nat → Hp → Prop) (h0 : Pv 0 (upd H1 D (SetO w D (fun _ => false) 0))) (hl : ∀ i H, i ≤ xs.length → Pv i H → SqL K H a xs)
    (hs : ∀ i x H, xs[i]? = some x → Pv i H → g x (wipe σ vs) H fun σ2 H2 => wipe σ2 vs = wipe σ vs ∧ tt σ2 H2 fun b H3 =>
        if b = true then te σ2 H3 fun y H4 => ∃ (c : Int) (S : Int → Bool) (n : Nat), y = .int c ∧ H4 D = some (SetO w D S n) ∧ n + 1 < scanBound ∧
          Pv (i + 1) (upd H4 D (SetO w D (fun j => S j || decide (j = c)) (if S c = true then n else n + 1)))
        else Pv (i + 1) H3) (hd : ∀ H, Pv xs.length H → Qd H) :
    ∃ W : Nat → Nat → Hp → Prop, (∃ m, W 0 m (upd H1 D (SetO w D (fun _ => false) 0))) ∧ ∀ i m H, W i m H →
    ((Itl K a).stop i H ∧ Qd H) ∨
    ((Itl K a).go i H ∧ ∃ Nx : Hp → Prop, (∀ H', Nx H' → ∃ m', m' < m ∧ W (i + 1) m' H') ∧
      ∀ x H', (Itl K a).yld i H x H' → g x (wipe σ vs) H' fun σ2 H2 => wipe σ2 vs = wipe σ vs ∧ tt σ2 H2 fun b H3 =>
        if b = true then te σ2 H3 fun y H4 => ∃ (c : Int) (S : Int → Bool) (n : Nat), y = .int c ∧ H4 D = some (SetO w D S n) ∧ n + 1 < scanBound ∧
          Nx (upd H4 D (SetO w D (fun j => S j || decide (j = c)) (if S c = true then n else n + 1)))
        else Nx H3) := by
  refine ⟨fun i m H => m + i = xs.length ∧ Pv i H, ⟨xs.length, rfl, h0⟩, fun i m H hW => ?_⟩
  obtain ⟨em, p⟩ := hW
  have q := hl i H (by omega) p
  by_cases lt : i < xs.length
  · refine .inr ⟨⟨xs, xs[i], q, List.getElem?_eq_getElem lt⟩, Pv (i + 1), fun H' p' => ⟨m - 1, by omega, by omega, p'⟩, fun x H' hy => ?_⟩
    obtain ⟨rfl, hy⟩ := hy
    exact hs i x _ (hy xs q) p
  · have ei : i = xs.length := by omega
    subst ei
    exact .inl ⟨⟨xs, q, Nat.le_refl _⟩, hd H p⟩
end
end Nr
namespace Nr
open PySem PySem.Spec PyProof.Rows L2 Evl

theorem turnsF_mem : ∀ (f M b l h : Nat) (q : Nat × Nat), q ∈ turnsF f M b l h → b ≤ q.1 ∧ q.1 < M ∧ l ≤ q.2 ∧ q.2 ≤ l + f * h
  | 0, _, _, _, _, q, z => by rw [turnsF] at z; cases z
  | f + 1, M, b, l, h, q, z => by
    rw [turnsF] at z
    split at z
    · rcases List.mem_cons.mp z with rfl | z
      · refine ⟨Nat.le_refl _, by assumption, Nat.le_refl _, Nat.le_add_right _ _⟩
      · have k := turnsF_mem f M (b + l) (l + h) h q z
        refine ⟨by omega, k.2.1, by omega, ?_⟩
        have : (f + 1) * h = f * h + h := by rw [Nat.add_mul, Nat.one_mul]
        omega
    · cases z
def placeN (t b : Nat) (q : Nat × Nat) : Nat := (q.1 * b + q.2 * t) / (2 * b)
def placesM (n g h t b : Nat) : List Nat := (turnsM n g h).map (placeN t b)
/-- the cells that a needle at t by b pricks -/
def pricksM (n g h e t b : Nat) : List Nat :=
  if e = 1 then (((placesM n g h t b).filter (fun p => decide (p < n))).map (fun p => n - 1 - p)).reverse else (placesM n g h t b).filter (fun p => decide (p < n))
theorem places_up (t b : Nat) (hb : 0 < b) (h M : Nat) : ∀ (f bg l : Nat), 2 ≤ l → ((turnsF f M bg l h).map (placeN t b)).Pairwise (· < ·) ∧ ∀ p ∈ (turnsF f M bg l h).map (placeN t b), (bg * b + l * t) / (2 * b) ≤ p
  | 0, bg, l, _ => by rw [turnsF]; exact ⟨.nil, fun p hp => by cases hp⟩
  | f + 1, bg, l, hl => by
    rw [turnsF]
    split
    · have ih := places_up t b hb h M f (bg + l) (l + h) (by omega)
      have st : (bg * b + l * t) / (2 * b) + 1 ≤ ((bg + l) * b + (l + h) * t) / (2 * b) := by
        rw [← Nat.add_div_right _ (by omega : 0 < 2 * b)]
        refine Nat.div_le_div_right ?_
        have h1 : 2 * b ≤ l * b := Nat.mul_le_mul_right b hl
        have h2 : (bg + l) * b = bg * b + l * b := Nat.add_mul _ _ _
        have h3 : (l + h) * t = l * t + h * t := Nat.add_mul _ _ _
        omega
      rw [List.map_cons]
      refine ⟨List.pairwise_cons.mpr ⟨fun p hp => ?_, ih.1⟩, fun p hp => ?_⟩
      · have := ih.2 p hp
        show (bg * b + l * t) / (2 * b) < p
        omega
      · rcases List.mem_cons.mp hp with rfl | hp
        · exact Nat.le_refl _
        · have := ih.2 p hp
          omega
    · exact ⟨.nil, fun p hp => by cases hp⟩
theorem places_sorted {n g h t b : Nat} (hb : 0 < b) (hg : 2 ≤ g) : (placesM n g h t b).Pairwise (· < ·) := (places_up t b hb h (2 * n) (2 * n) 0 g hg).1
theorem pricks_sorted {n g h e t b : Nat} (hb : 0 < b) (hg : 2 ≤ g) : (pricksM n g h e t b).Pairwise (· < ·) := by
  have k := (places_sorted (n := n) (h := h) (t := t) hb hg).filter (p := fun p => decide (p < n))
  unfold pricksM
  split
  · rw [List.pairwise_reverse, List.pairwise_map]
    refine List.Pairwise.imp_of_mem (fun {x y} hx hy lt => ?_) k
    have h1 := of_decide_eq_true (List.mem_filter.mp hx).2
    have h2 := of_decide_eq_true (List.mem_filter.mp hy).2
    omega
  · exact k
theorem pricks_mem {n g h e t b : Nat} (k : Nat) : k ∈ pricksM n g h e t b ↔ ∃ p ∈ placesM n g h t b, p < n ∧ k = (if e = 1 then n - 1 - p else p) := by
  unfold pricksM
  split
  · rw [List.mem_reverse, List.mem_map]
    constructor
    · rintro ⟨p, hp, rfl⟩
      have := List.mem_filter.mp hp
      exact ⟨p, this.1, of_decide_eq_true this.2, rfl⟩
    · rintro ⟨p, hp, lt, rfl⟩
      exact ⟨p, List.mem_filter.mpr ⟨hp, decide_eq_true lt⟩, rfl⟩
  · rw [List.mem_filter]
    constructor
    · rintro ⟨hp, lt⟩
      exact ⟨k, hp, of_decide_eq_true lt, rfl⟩
    · rintro ⟨p, hp, lt, rfl⟩
      exact ⟨hp, decide_eq_true lt⟩
/-- two rising lists with the same members are one -/
theorem rising_eq : ∀ {a b : List Int}, a.Pairwise (· < ·) → b.Pairwise (· < ·) → (∀ k, k ∈ a ↔ k ∈ b) → a = b
  | [], [], _, _, _ => rfl
  | [], y :: b, _, _, h => absurd ((h y).2 List.mem_cons_self) (by simp)
  | x :: a, [], _, _, h => absurd ((h x).1 List.mem_cons_self) (by simp)
  | x :: a, y :: b, ha, hb, h => by
    have pa := List.pairwise_cons.mp ha
    have pb := List.pairwise_cons.mp hb
    have e : x = y := by
      rcases List.mem_cons.mp ((h x).1 List.mem_cons_self) with z | z
      · exact z
      · rcases List.mem_cons.mp ((h y).2 List.mem_cons_self) with z' | z'
        · exact z'.symm
        · have h1 := pb.1 _ z
          have h2 := pa.1 _ z'
          omega
    subst e
    rw [rising_eq pa.2 pb.2 fun k => ?_]
    constructor
    · intro hk
      rcases List.mem_cons.mp ((h k).1 (List.mem_cons_of_mem _ hk)) with z | z
      · have := pa.1 _ hk; omega
      · exact z
    · intro hk
      rcases List.mem_cons.mp ((h k).2 (List.mem_cons_of_mem _ hk)) with z | z
      · have := pb.1 _ hk; omega
      · exact z
theorem ints_of_rising {ns : List Int} {ks : List Nat} (h1 : ns.Pairwise (· < ·)) (h2 : ks.Pairwise (· < ·)) (h : ∀ i : Int, i ∈ ns ↔ ∃ k ∈ ks, i = (k : Int)) : ns = ks.map (fun k : Nat => (k : Int)) := by
  refine rising_eq h1 (List.pairwise_map.mpr (h2.imp fun {a b} lt => by omega)) fun k => ?_
  rw [h k, List.mem_map]
  constructor
  · rintro ⟨a, b, rfl⟩; exact ⟨a, b, rfl⟩
  · rintro ⟨a, b, rfl⟩; exact ⟨a, b, rfl⟩

section
variable {P : Program} {w : World} {K : PySem.W.Frag} {mg : Str → Option Value} {base : Heap}
abbrev sPricked : Stmt := topS 23
abbrev nPricked : List Str := ["many", "winding", "angle", "top", "bottom", "places", "begin", "length", "place"]
theorem scPricked : FnScope nPricked ["many", "winding", "angle"] (defScope sPricked) := ⟨rfl, rfl, rfl, by decide +kernel, rfl, by decide +kernel, by decide +kernel⟩
def spPricked (K : PySem.W.Frag) : Sp := fun vs H Q _ => ∃ (n g h e t b : Nat) (v u : V), vs = [.int n, v, u] ∧ Dp K H v (wD g h e) ∧ Dp K H u (td (t, b)) ∧ 2 ≤ g ∧ g ≤ 1000 ∧ h ≤ 1000 ∧ n ≤ 31 ∧ 0 < b ∧ b < 2 ^ 200 ∧
  RetL ((pricksM n g h e t b).map vi) H Q
theorem ok_pricked {f : Addr} {fd : FuncData} {tc : Tok} (F : Fun K "pricked" "pricked" sPricked f fd) (gC : mg "CELL" = some (.int 2 tc)) (ms : mg "sorted" = none)
    {ft : Addr} {fdt : FuncData} (G : Can P w K mg base "turns" 1 ft fdt ["many", "winding"] (spTurns K)) {fc : Addr} {fdc : FuncData} (C : Can P w K mg base "cell_at" 1 fc fdc ["many", "winding", "place"] (spCellAt K)) :
    FnOk P w K mg base CX0 2 f fd ["many", "winding", "angle"] (spPricked K) := by
  refine F.ok scPricked (fun vs H Q E h => ?_) (fun cdv A outer s H vs Q E hr h => ?_)
  · obtain ⟨n, g, h, e, t, b, v, u, rfl, _⟩ := h
    rfl
  obtain ⟨n, g, h, e, t, b, v, u, rfl, hw, hu, hg, hg2, hh, hn, hb, hb2, q⟩ := h
  obtain ⟨ua, rfl, hq⟩ := td_get hu
  refine ⟨_, pss_cons (ps_asg (pv 2) (pg_tup rfl (pgs_cons (pg_name (i := 3) scPricked.nd rfl (.inr rfl)) (pgs_cons (pg_name (i := 4) scPricked.nd rfl (.inr rfl)) pgs_nil))))
    (pss_cons (ps_setLc (i := 5) (own := [("begin", 6), ("length", 7)]) (g := gTup K 2 (gCons (gName 6) (gCons (gName 7) gNil))) (tt := tYes) (by rfl) scPricked.nd rfl rfl (sw_true rfl rfl rfl (by decide +kernel)) (pi_list (pcall G hr (pa_cons (pv 0) (pa_cons (pv 1) pa_nil))))
      (blkOk_by (N := nPricked) (sc := defScope sPricked) (by decide +kernel))
      (fun _ _ _ _ _ => pg_tup rfl (pgs_cons (pg_name (i := 6) scPricked.nd rfl (.inl rfl)) (pgs_cons (pg_name (i := 7) scPricked.nd rfl (.inl rfl)) pgs_nil))) (fun _ _ _ _ _ => pts_nil)
      (fun _ _ _ _ _ => pe_op op_fdivW (pe_op op_add (pe_op op_mul (pv 6) (pv 4)) (pe_op op_mul (pv 7) (pv 3))) (pe_op op_mul (pe_glob (v := .int 2) (by rfl) gC ⟨_, rfl⟩) (pv 4))))
    (pss_one (ps_ret (pe_callB (cr_sortedSet (by rfl)) (by rfl) ms boot_sorted (pa_cons (pe_scI (own := [("place", 8)]) (g := gName 8) (by rfl) scPricked.nd (pi_list (pv 5)) (blkOk_by (N := nPricked) (sc := defScope sPricked) (by decide +kernel))
      (fun _ _ _ _ _ => pg_name (i := 8) scPricked.nd rfl (.inl rfl)) (fun _ _ _ _ _ => pts_one (pt_cmpR op_lt (pv 8) (pv 0) (nomark _)))
      (fun _ _ _ _ _ => pcall C hr (pa_cons (pv 0) (pa_cons (pv 1) (pa_cons (pv 8) pa_nil))))) pa_nil))))), ?_⟩
  refine ⟨_, rfl, ua, _, rfl, hq, rfl, vi t, _, rfl, vi b, _, rfl, rfl, ?_⟩
  -- places
  refine ⟨vi n, rfl, v, rfl, n, g, h, e, v, rfl, hw, by omega, by omega, fun p xs H1 hp e1 hpx hd => ?_⟩
  have hlen : xs.length = (turnsM n g h).length := by rw [dpa_len hd, List.length_map]
  have hlen2 : xs.length ≤ 2 * n := by rw [hlen]; exact turnsF_len _ _ _ _ _
  refine ⟨p, rfl, ⟨xs, sq_of hpx⟩, fun Dl hDl => ?_⟩
  refine lc_list (xs := xs) (fun i H' => Ex H1 H' ∧ H' Dl = some (.lst ((((turnsM n g h).take i).map (placeN t b)).map vi))) ⟨Ex.new hDl, upd_same⟩ (fun i H' _ p' => sq_of (p'.1 _ _ hpx)) (fun i x H' hx p' => ?_) fun H2 p' => ?_
  · obtain ⟨e2, hl⟩ := p'
    obtain ⟨d, hd1, hd2⟩ := dpa_get hd hx
    rw [List.getElem?_map] at hd1
    obtain ⟨r, hr1, rfl⟩ := Option.map_eq_some_iff.mp hd1
    have hm := turnsF_mem _ _ _ _ _ r (List.mem_of_getElem? hr1)
    have hm2 : 2 * n * h ≤ 62 * 1000 := Nat.mul_le_mul (by omega) hh
    obtain ⟨ra, rfl, hra⟩ := td_get (dp_ex e2 _ _ hd2)
    refine ⟨ra, _, rfl, hra, rfl, vi r.1, _, rfl, vi r.2, _, rfl, rfl, rfl, ?_⟩
    refine ⟨vi r.1, rfl, vi b, rfl, _, _, rfl, rfl, .inl ⟨by omega, by omega⟩, vi r.2, rfl, vi t, rfl, _, _, rfl, rfl, .inl ⟨by omega, by omega⟩, _, _, rfl, rfl, vi b, rfl, _, _, rfl, rfl, .inl ⟨by decide, by decide⟩, _, _, rfl, rfl, ?_, ?_⟩
    · refine wide_div (b := 201) (by omega) ?_ (by decide) (by decide)
      omega
    · refine ⟨_, hl, ?_, Ex.mut e2 hDl, ?_⟩
      · rw [List.length_map, List.length_map, List.length_take]
        refine small1000 ?_
        omega
      · rw [upd_same, List.take_add_one, hr1]
        simp only [List.map_append, Option.toList, List.map_cons, List.map_nil]
        rfl
  obtain ⟨e2, hl⟩ := p'
  rw [hlen, List.take_length] at hl
  have hl : H2 Dl = some (.lst ((placesM n g h t b).map vi)) := hl
  have hpl : (placesM n g h t b).length = xs.length := by unfold placesM; rw [List.length_map, hlen]
  -- the set
  refine ⟨.ref Dl, rfl, Dl, rfl, ⟨_, sq_of hl⟩, fun D hD => ?_⟩
  refine sc_list (xs := (placesM n g h t b).map vi) (fun i H' => ∃ (S : Int → Bool) (m : Nat), Ex H2 H' ∧ H' D = some (SetO w D S m) ∧ m ≤ i ∧ ∀ k : Int, S k = true ↔ ∃ p ∈ (placesM n g h t b).take i, p < n ∧ k = cellI n e (p : Int))
    ⟨fun _ => false, 0, Ex.new hD, upd_same, Nat.le_refl _, fun k => by simp⟩ (fun i H' _ ⟨S, m, ex, _⟩ => sq_of (ex _ _ hl)) (fun i x H' hx ⟨S, m, ex, hS, hmi, hmem⟩ => ?_) fun H3 ⟨S, m, ex, hS, hmi, hmem⟩ => ?_
  · rw [List.getElem?_map] at hx
    obtain ⟨pl, hpi, rfl⟩ := Option.map_eq_some_iff.mp hx
    have hi : i < (placesM n g h t b).length := (List.getElem?_eq_some_iff.mp hpi).1
    refine ⟨rfl, vi pl, rfl, vi n, rfl, _, _, rfl, rfl, _, rfl, ite2 (fun hlt => ?_) (fun hlt => ?_)⟩
    · have hlt := of_decide_eq_true hlt
      refine ⟨vi n, rfl, v, rfl, vi pl, rfl, n, g, h, e, (pl : Int), v, rfl, dp_ex ((e1.trans e2).trans ex) _ _ hw, fun H4 e4 => ?_⟩
      refine ⟨_, S, m, rfl, e4 _ _ hS, by have : scanBound = 4096 := rfl; omega, _, _, Ex.mut (ex.trans e4) hD, upd_same, by split <;> omega, fun k => ?_⟩
      rw [Bool.or_eq_true, decide_eq_true_eq, hmem k, List.take_add_one, hpi]
      constructor
      · rintro (⟨p', hp', a, b⟩ | rfl)
        · exact ⟨p', List.mem_append_left _ hp', a, b⟩
        · exact ⟨pl, List.mem_append_right _ (by simp), by omega, rfl⟩
      · rintro ⟨p', hp', a, b⟩
        rcases List.mem_append.mp hp' with z | z
        · exact .inl ⟨p', z, a, b⟩
        · simp at z
          subst z
          exact .inr b
    · have hlt : ¬ ((pl : Int) < (n : Int)) := fun z => hlt (decide_eq_true z)
      refine ⟨S, m, ex, hS, by omega, fun k => ?_⟩
      rw [hmem k, List.take_add_one, hpi]
      constructor
      · rintro ⟨p', hp', a, b⟩
        exact ⟨p', List.mem_append_left _ hp', a, b⟩
      · rintro ⟨p', hp', a, b⟩
        rcases List.mem_append.mp hp' with z | z
        · exact ⟨p', z, a, b⟩
        · simp at z
          subst z
          omega
  · rw [List.length_map] at hmi
    rw [List.length_map, List.take_length] at hmem
    refine ⟨D, S, m, rfl, hS, by omega, fun ns r hs hk hnl hr => ?_⟩
    have en : ns = (pricksM n g h e t b).map (fun k : Nat => (k : Int)) := by
      refine ints_of_rising hs (pricks_sorted hb hg) fun i => ?_
      rw [hk i, hmem i]
      constructor
      · rintro ⟨p', hp', a, rfl⟩
        refine ⟨_, (pricks_mem _).mpr ⟨p', hp', a, rfl⟩, ?_⟩
        unfold cellI
        split <;> omega
      · rintro ⟨k, hk', rfl⟩
        obtain ⟨p', hp', a, rfl⟩ := (pricks_mem _).mp hk'
        refine ⟨p', hp', a, ?_⟩
        unfold cellI
        split <;> omega
    refine q r _ (fresh_back ((e1.trans e2).trans ex) hr) (((e1.trans e2).trans ex).trans (Ex.new hr)) ?_
    rw [upd_same, en, List.map_map]
    rfl
end
end Nr
namespace Nr
open PySem PySem.Spec PyProof.Rows L2 Evl

/-! rising lists without doubles -/
def insU (x : Nat) : List Nat → List Nat
  | [] => [x]
  | y :: l => if x < y then x :: y :: l else if x = y then y :: l else y :: insU x l
def sortU (l : List Nat) : List Nat := l.foldr insU []
theorem insU_mem (x : Nat) : ∀ (l : List Nat) (k : Nat), k ∈ insU x l ↔ k = x ∨ k ∈ l
  | [], k => by simp [insU]
  | y :: l, k => by
    rw [insU]
    split
    · simp
    · split
      · rename_i h; subst h; simp
      · rw [List.mem_cons, insU_mem x l k, List.mem_cons]
        constructor
        · rintro (a | a | a)
          · exact .inr (.inl a)
          · exact .inl a
          · exact .inr (.inr a)
        · rintro (a | a | a)
          · exact .inr (.inl a)
          · exact .inl a
          · exact .inr (.inr a)
theorem insU_up (x : Nat) : ∀ (l : List Nat), l.Pairwise (· < ·) → (insU x l).Pairwise (· < ·)
  | [], _ => by simp [insU]
  | y :: l, h => by
    have p := List.pairwise_cons.mp h
    rw [insU]
    split
    · rename_i lt
      refine List.pairwise_cons.mpr ⟨fun k hk => ?_, h⟩
      rcases List.mem_cons.mp hk with rfl | hk
      · exact lt
      · have := p.1 k hk; omega
    · split
      · exact h
      · refine List.pairwise_cons.mpr ⟨fun k hk => ?_, insU_up x l p.2⟩
        rcases (insU_mem x l k).mp hk with rfl | hk
        · omega
        · exact p.1 k hk
theorem sortU_up : ∀ l : List Nat, (sortU l).Pairwise (· < ·)
  | [] => .nil
  | x :: l => insU_up x _ (sortU_up l)
theorem sortU_mem : ∀ (l : List Nat) (k : Nat), k ∈ sortU l ↔ k ∈ l
  | [], k => Iff.rfl
  | x :: l, k => by
    show k ∈ insU x (sortU l) ↔ _
    rw [insU_mem, sortU_mem l k, List.mem_cons]

/-! marks -/
def inRow (b l p : Nat) : Bool := decide (b ≤ 2 * p) && decide (2 * p < b + l)
def rowPre (whole : Nat) (q : Nat × Nat) (j : Nat) : List Nat := ((List.range j).filter (inRow q.1 q.2)).map (fun p => (2 * p - q.1) * (whole / q.2))
def rawM (n whole : Nat) (rws : List (Nat × Nat)) : List Nat := (rws.map (fun q => rowPre whole q (n + 1))).flatten
def marksM (n whole : Nat) (rws : List (Nat × Nat)) : List Nat := sortU (0 :: rawM n whole rws)
theorem rowPre_yes {whole : Nat} {q : Nat × Nat} {j : Nat} (h : inRow q.1 q.2 j = true) : rowPre whole q (j + 1) = rowPre whole q j ++ [(2 * j - q.1) * (whole / q.2)] := by
  unfold rowPre
  rw [List.range_succ, List.filter_append, List.map_append, List.filter_cons, if_pos h]
  rfl
theorem rowPre_no {whole : Nat} {q : Nat × Nat} {j : Nat} (h : inRow q.1 q.2 j = false) : rowPre whole q (j + 1) = rowPre whole q j := by
  unfold rowPre
  rw [List.range_succ, List.filter_append, List.map_append, List.filter_cons, if_neg (by rw [h]; decide)]
  simp
theorem rawM_take {n whole : Nat} {rws : List (Nat × Nat)} {i : Nat} {q : Nat × Nat} (h : rws[i]? = some q) : rawM n whole (rws.take (i + 1)) = rawM n whole (rws.take i) ++ rowPre whole q (n + 1) := by
  unfold rawM
  rw [List.take_add_one, h, List.map_append, List.flatten_append]
  simp
theorem rowPre_len {whole : Nat} {q : Nat × Nat} (j k : Nat) : (rowPre whole q j).length ≤ (rowPre whole q (j + k)).length := by
  induction k with
  | zero => exact Nat.le_refl _
  | succ k ih =>
    cases h : inRow q.1 q.2 (j + k) with
    | true => rw [← Nat.add_assoc, rowPre_yes h, List.length_append]; omega
    | false => rw [← Nat.add_assoc, rowPre_no h]; exact ih
theorem rawM_len {n whole : Nat} {rws : List (Nat × Nat)} {i : Nat} {q : Nat × Nat} (h : rws[i]? = some q) : (rawM n whole (rws.take i)).length + (rowPre whole q (n + 1)).length ≤ (rawM n whole rws).length := by
  have e : rws = rws.take (i + 1) ++ rws.drop (i + 1) := (List.take_append_drop _ _).symm
  have k := rawM_take (n := n) (whole := whole) h
  have e2 : rawM n whole rws = rawM n whole (rws.take (i + 1)) ++ rawM n whole (rws.drop (i + 1)) := by
    unfold rawM
    rw [← List.flatten_append, ← List.map_append, List.take_append_drop]
  rw [e2, k, List.length_append, List.length_append]
  omega

theorem et_chain {σ : L2.St} {H : Hp} {ta tb tc : TE} {x y z : V} {r r' : R2} {b b' : Bool} (ha : Ev ta σ H x) (hb : Ev tb σ H y) (hr : RV r x y H (.bl b)) (hc : b = true → Ev tc σ H z) (hr' : b = true → RV r' y z H (.bl b')) :
    EvT (tTest (tChain r r' ta tb tc)) σ H (b && b') := fun H1 e Q q =>
  ha H1 e _ fun H2 e2 => hb H2 (e.trans e2) _ fun H3 e3 => hr H3 ((e.trans e2).trans e3) _ fun H4 e4 => ⟨b, rfl, by
    have e5 := ((e2.trans e3).trans e4)
    cases b with
    | false => exact ⟨false, rfl, q H4 e5⟩
    | true => exact hc rfl H4 (e.trans e5) _ fun H5 e6 => hr' rfl H5 ((e.trans e5).trans e6) _ fun H6 e7 => ⟨b', rfl, by rw [Bool.true_and] at q; exact q H6 ((e5.trans e6).trans e7)⟩⟩

section
variable {P : Program} {w : World} {K : PySem.W.Frag} {mg : Str → Option Value} {base : Heap}
abbrev sMarks : Stmt := topS 24
theorem scMarks : FnScope ["many", "rows", "whole", "found", "begin", "length", "place", "behind"] ["many", "rows", "whole"] (defScope sMarks) := ⟨rfl, rfl, rfl, by decide +kernel, rfl, by decide +kernel, by decide +kernel⟩
def spMarks (K : PySem.W.Frag) : Sp := fun vs H Q _ => ∃ (n whole : Nat) (ra : Addr) (xs : List V) (rws : List (Nat × Nat)), vs = [.int n, .ref ra, .int whole] ∧ SqL K H ra xs ∧ DpAll K H xs (rws.map td) ∧ n ≤ 1000 ∧
  (∀ q ∈ rws, 0 < q.2 ∧ q.2 < 1073741824) ∧ (rawM n whole rws).length ≤ 60 ∧ RetL ((marksM n whole rws).map vi) H Q
theorem ok_marks {f : Addr} {fd : FuncData} {k : Nat} {tc : Tok} (F : Fun K "marks" "marks" sMarks f fd) (gC : mg "CELL" = some (.int 2 tc)) (ms : mg "sorted" = none) (mr : mg "range" = none) :
    FnOk P w K mg base CX0 (k + 1) f fd ["many", "rows", "whole"] (spMarks K) := by
  refine fun_okC F scMarks (fun vs H Q E h => ?_) (fun cdv A outer s H vs Q E hcd hr h => ?_)
  · obtain ⟨n, whole, ra, xs, rws, rfl, _⟩ := h
    rfl
  obtain ⟨n, whole, ra, xs, rws, rfl, hs, hd, hn, hl, h60, q⟩ := h
  refine ⟨_, pss_cons (ps_set (i := 3) scMarks.nd rfl (.inl rfl) (pe_set1 pe_int hcd))
    (pss_cons (ps_for PassesOwn.never rfl (pi_list (pv 1)) (pg_tup rfl (pgs_cons (pg_name (i := 4) scMarks.nd rfl (.inl rfl)) (pgs_cons (pg_name (i := 5) scMarks.nd rfl (.inl rfl)) pgs_nil)))
      (pss_one (ps_for PassesOwn.never rfl (pi_range1 rfl mr (pa_cons (pe_op op_add (pv 0) pe_int) pa_nil)) (pg_name (i := 6) scMarks.nd rfl (.inl rfl))
        (pss_cons (ps_set (i := 7) scMarks.nd rfl (.inl rfl) (pe_op op_sub (pe_op op_mul (pe_glob (v := .int 2) (by rfl) gC ⟨_, rfl⟩) (pv 6)) (pv 4)))
        (pss_one (ps_if (pt_chain op_le op_lt pe_int (pv 7) (pv 5))
          (pss_one (ps_expr (pe_sadd (pv 3) (pa_cons (pe_op op_mul (pv 7) (pe_op op_fdiv (pv 2) (pv 5))) pa_nil))))
          pss_nil))))))
    (pss_one (ps_ret (pe_callB (cr_sortedSet (by rfl)) (by rfl) ms boot_sorted (pa_cons (pv 3) pa_nil))))), ?_⟩
  refine fun D hD => ⟨0, rfl, upd_same, ?_⟩
  rw [upd_upd]
  refine q_forL (ev_var rfl) (ex_l (Ex.new hD) hs) (fun i σ' H' => ∃ (y4 y5 y6 y7 : Option V) (S : Int → Bool) (m : Nat), σ' = [some (vi n), some (.ref ra), some (vi whole), some (.ref D), y4, y5, y6, y7] ∧ Ex H H' ∧ H' D = some (SetO w D S m) ∧ m ≤ 1 + (rawM n whole (rws.take i)).length ∧
      ∀ k : Int, S k = true ↔ k = 0 ∨ ∃ r ∈ rawM n whole (rws.take i), k = (r : Int))
    (fun H1 e1 => ⟨none, none, none, none, _, 1, rfl, (Ex.new hD).trans e1, e1 _ _ upd_same, by omega, fun k => by simp [rawM]⟩) (fun i σ' H' _ ⟨_, _, _, _, _, _, _, ex, _⟩ => ex_l ex hs) ?_ ?_
  · rintro i x σ' H1 hx ⟨y4, y5, y6, y7, S, m, rfl, ex, hS, hm, hmem⟩
    obtain ⟨d, hd1, hd2⟩ := dpa_get hd hx
    rw [List.getElem?_map] at hd1
    obtain ⟨r, hr1, rfl⟩ := Option.map_eq_some_iff.mp hd1
    obtain ⟨xa, rfl, hxa⟩ := td_get (dp_ex ex _ _ hd2)
    have hr := hl r (List.mem_of_getElem? hr1)
    have hlen := rawM_len (n := n) (whole := whole) hr1
    refine ⟨xa, _, rfl, hxa, rfl, vi r.1, _, rfl, vi r.2, _, rfl, rfl, ?_⟩
    refine s_forR1 (n := (n : Int) + 1) (ea_cons (ev_op (ev_var rfl) ev_c rv_I0) ea_nil) (by omega) (fun j σ' H' => ∃ (y6 y7 : Option V) (S : Int → Bool) (m : Nat), σ' = [some (vi n), some (.ref ra), some (vi whole), some (.ref D), some (vi r.1), some (vi r.2), y6, y7] ∧ Ex H H' ∧ H' D = some (SetO w D S m) ∧
        m ≤ 1 + (rawM n whole (rws.take i)).length + (rowPre whole r j).length ∧ ∀ k : Int, S k = true ↔ (k = 0 ∨ ∃ r ∈ rawM n whole (rws.take i), k = (r : Int)) ∨ ∃ c ∈ rowPre whole r j, k = (c : Int))
      (fun H2 e2 => ⟨y6, y7, S, m, rfl, ex.trans e2, e2 _ _ hS, by omega, fun k => by rw [hmem k]; simp [rowPre]⟩) ?_ ?_
    · rintro j σ' H2 hj ⟨y6, y7, S, m, rfl, ex, hS, hm, hmem⟩
      refine q_asg (v := .int (2 * (j : Int) - (r.1 : Int))) (ev_op (ev_op ev_c (ev_var rfl) (rv_I (.inl ⟨by decide, by decide⟩))) (ev_var rfl) rv_I0) fun H3 e3 => ?_
      refine s_when (et_chain ev_c (ev_var rfl) rv_I0 (fun _ => ev_var rfl) (fun _ => rv_I0)) (fun hb H4 e4 => ?_) (fun hb H4 e4 => ?_)
      · rw [Bool.and_eq_true, decide_eq_true_eq, decide_eq_true_eq] at hb
        have hin : inRow r.1 r.2 j = true := by
          unfold inRow
          rw [Bool.and_eq_true, decide_eq_true_eq, decide_eq_true_eq]
          omega
        have hlj := rowPre_len (whole := whole) (q := r) (j + 1) (n + 1 - (j + 1))
        rw [show j + 1 + (n + 1 - (j + 1)) = n + 1 by omega, rowPre_yes hin, List.length_append, List.length_cons, List.length_nil] at hlj
        have hS4 := (e3.trans e4) _ _ hS
        refine ⟨.ref D, rfl, ⟨D, S, m, rfl, hS4⟩, .int (2 * (j : Int) - (r.1 : Int)), rfl, vi whole, rfl, vi r.2, rfl, _, _, rfl, rfl, ⟨by omega, by omega⟩, _, _, rfl, rfl, .inl ⟨by omega, by omega⟩, D, _, S, m, rfl, rfl, hS4, by have : scanBound = 4096 := rfl; omega, ?_⟩
        refine ⟨_, _, _, _, rfl, Ex.mut (ex.trans (e3.trans e4)) hD, upd_same, ?_, fun k => ?_⟩
        · rw [rowPre_yes hin, List.length_append, List.length_cons, List.length_nil]
          split <;> omega
        · have ek : (2 * (j : Int) - (r.1 : Int)) * ((whole : Int) / (r.2 : Int)) = (((2 * j - r.1) * (whole / r.2) : Nat) : Int) := by
            rw [Int.natCast_mul, Int.natCast_ediv, Int.natCast_sub (by omega)]
            rfl
          rw [Bool.or_eq_true, decide_eq_true_eq, hmem k, rowPre_yes hin, ek]
          constructor
          · rintro ((z | z) | rfl)
            · exact .inl z
            · obtain ⟨c, hc, e⟩ := z
              exact .inr ⟨c, List.mem_append_left _ hc, e⟩
            · exact .inr ⟨_, List.mem_append_right _ (List.mem_singleton.mpr rfl), rfl⟩
          · rintro (z | ⟨c, hc, rfl⟩)
            · exact .inl (.inl z)
            · rcases List.mem_append.mp hc with hc | hc
              · exact .inl (.inr ⟨c, hc, rfl⟩)
              · rw [List.mem_singleton.mp hc]
                exact .inr rfl
      · have hin : inRow r.1 r.2 j = false := by
          unfold inRow
          rw [Bool.and_eq_false_iff, decide_eq_false_iff_not, decide_eq_false_iff_not] at hb ⊢
          omega
        refine ⟨_, _, S, m, rfl, ex.trans (e3.trans e4), (e3.trans e4) _ _ hS, ?_, ?_⟩
        · rw [rowPre_no hin]; exact hm
        · rw [rowPre_no hin]; exact hmem
    · rintro σ' H2 ⟨y6, y7, S, m, rfl, ex, hS, hm, hmem⟩
      rw [show ((n : Int) + 1).toNat = n + 1 by omega] at hm hmem
      refine ⟨_, _, _, _, S, m, rfl, ex, hS, ?_, fun k => ?_⟩
      · rw [rawM_take hr1, List.length_append]
        omega
      · rw [hmem k, rawM_take hr1]
        constructor
        · rintro ((z | ⟨c, hc, z⟩) | ⟨c, hc, z⟩)
          · exact .inl z
          · exact .inr ⟨c, List.mem_append_left _ hc, z⟩
          · exact .inr ⟨c, List.mem_append_right _ hc, z⟩
        · rintro (z | ⟨c, hc, z⟩)
          · exact .inl (.inl z)
          · rcases List.mem_append.mp hc with hc | hc
            · exact .inl (.inr ⟨c, hc, z⟩)
            · exact .inr ⟨c, hc, z⟩
  · rintro σ' H1 ⟨y4, y5, y6, y7, S, m, rfl, ex, hS, hm, hmem⟩
    rw [dpa_len hd, List.length_map, List.take_length] at hm hmem
    refine ⟨.ref D, rfl, D, S, m, rfl, hS, by omega, fun ns p hs' hk hnl hp => ?_⟩
    have en : ns = (marksM n whole rws).map (fun k : Nat => (k : Int)) := by
      refine ints_of_rising hs' (sortU_up _) fun i => ?_
      rw [hk i, hmem i]
      constructor
      · rintro (rfl | ⟨c, hc, rfl⟩)
        · exact ⟨0, (sortU_mem _ _).mpr (List.mem_cons_self), rfl⟩
        · exact ⟨c, (sortU_mem _ _).mpr (List.mem_cons_of_mem _ hc), rfl⟩
      · rintro ⟨c, hc, rfl⟩
        rcases List.mem_cons.mp ((sortU_mem _ _).mp hc) with rfl | hc
        · exact .inl rfl
        · exact .inr ⟨c, hc, rfl⟩
    refine q p _ (fresh_back ex hp) (ex.trans (Ex.new hp)) ?_
    rw [upd_same, en, List.map_map]
    rfl
end
end Nr
namespace Nr
open PySem PySem.Spec PyProof.Rows L2 Evl

def wholeM (n g h : Nat) : Nat := lcmL ((turnsM n g h).map (·.2))
def topsM (n g h : Nat) : List Nat := marksM n (wholeM n g h) (turnsM n g h)
def strD (n g h e w : Nat) (q : Nat × Nat) : PyData := .tuple [lowD q.1 w, lowD q.2 w, .tuple ((pricksM n g h e q.1 w).map di)]
def pairsM (n g h : Nat) : List (Nat × Nat) := (topsM n g h).zip ((topsM n g h).drop 1 ++ [wholeM n g h])
def strM (n g h e : Nat) : List PyData := (pairsM n g h).map (strD n g h e (wholeM n g h))
def okAt (n g h : Nat) : Bool := decide (wholeM n g h < 1000000) && decide ((rawM n (wholeM n g h) (turnsM n g h)).length ≤ 60)
def okAll : Bool := (List.range 25).all fun n => (List.range 17).all fun g => (List.range 9).all fun h => decide (g < 4) || okAt n g h
theorem okAll_true : okAll = true := by decide +kernel
theorem ok_at6 {n g h : Nat} (hn : n ≤ 24) (hg : 4 ≤ g) (hg2 : g ≤ 16) (hh : h ≤ 8) : wholeM n g h < 1000000 ∧ (rawM n (wholeM n g h) (turnsM n g h)).length ≤ 60 := by
  have a := List.all_eq_true.mp okAll_true n (List.mem_range.mpr (by omega))
  have b := List.all_eq_true.mp a g (List.mem_range.mpr (by omega))
  have c := List.all_eq_true.mp b h (List.mem_range.mpr (by omega))
  rw [Bool.or_eq_true, decide_eq_true_eq] at c
  rcases c with c | c
  · omega
  · unfold okAt at c
    rw [Bool.and_eq_true, decide_eq_true_eq, decide_eq_true_eq] at c
    exact c
theorem ok_at {n g h : Nat} (hn : n ≤ 24) (hg : 4 ≤ g) (hg2 : g ≤ 16) (hh : h ≤ 8) : wholeM n g h < 1073741824 ∧ (rawM n (wholeM n g h) (turnsM n g h)).length ≤ 60 := by
  have := ok_at6 hn hg hg2 hh
  exact ⟨by omega, this.2⟩
end Nr
namespace Nr
open PySem PySem.Spec PyProof.Rows L2 Evl
theorem cut_1 (xs : List V) : cutV xs (some 1) none = xs.drop 1 := by
  unfold cutV
  rw [show HT.sIx xs.length 0 (some 1) = min 1 xs.length from HT.sIx_nat xs.length 0 1, HT.sIx_none]
  cases xs with
  | nil => rfl
  | cons x r =>
    have e : min 1 (x :: r).length = 1 := by rw [List.length_cons]; omega
    rw [e]
    show List.take ((x :: r).length - 1) r = r
    rw [List.length_cons, Nat.add_sub_cancel]
    exact List.take_length
theorem noL_low (a b : Nat) : noL (lowD a b) = true := by simp [lowD, noL, noLs]
theorem noLs_dis (l : List Nat) : noLs (l.map di) = true := noLs_map (fun _ => by simp [noL]) l
theorem noL_str (n g h e w : Nat) (q : Nat × Nat) : noL (strD n g h e w q) = true := by
  unfold strD
  rw [noL, noLs, noLs, noLs, noLs, noL_low, noL_low, noL, noLs_dis]
  rfl
theorem dis_vis {K : PySem.W.Frag} {H : Hp} (l : List Nat) : DpAll K H (l.map vi) (l.map di) := by
  have k := dpa_ints_of (K := K) (H := H) (l.map fun k : Nat => (k : Int))
  rw [List.map_map, List.map_map] at k
  exact k
theorem zip_tops (l : List Nat) (w : Nat) (hl : 0 < l.length) : (l.drop 1 ++ [w]).length = l.length := by
  rw [List.length_append, List.length_drop, List.length_cons, List.length_nil]
  omega
theorem sortU_pos (l : List Nat) (h : l ≠ []) : 0 < (sortU l).length := by
  cases l with
  | nil => exact absurd rfl h
  | cons x r => exact List.length_pos_of_mem ((sortU_mem _ x).mpr List.mem_cons_self)
theorem wholeM_pos {n g h : Nat} (hg : 0 < g) : 0 < wholeM n g h := by
  refine lcm_pos _ 1 (by decide) fun x hx => ?_
  obtain ⟨q, hq, rfl⟩ := List.mem_map.mp hx
  have := turnsF_mem _ _ _ _ _ q hq
  omega
theorem insU_len (x : Nat) : ∀ l : List Nat, (insU x l).length ≤ l.length + 1
  | [] => Nat.le_refl _
  | y :: l => by
    rw [insU]
    split
    · exact Nat.le_refl _
    · split
      · exact Nat.le_succ _
      · have := insU_len x l
        rw [List.length_cons, List.length_cons]
        omega
theorem sortU_len : ∀ l : List Nat, (sortU l).length ≤ l.length
  | [] => Nat.le_refl _
  | x :: l => by
    have a := insU_len x (sortU l)
    have b := sortU_len l
    show (insU x (sortU l)).length ≤ l.length + 1
    omega
section
variable {P : Program} {w : World} {K : PySem.W.Frag} {mg : Str → Option Value} {base : Heap}
abbrev sStretches : Stmt := topS 25
abbrev nStretches : List Str := ["many", "winding", "rows", "whole", "tops", "told", "top", "after", "cells", "begin", "length"]
theorem scStretches : FnScope nStretches ["many", "winding"] (defScope sStretches) := ⟨rfl, rfl, rfl, by decide +kernel, rfl, by decide +kernel, by decide +kernel⟩
def spStretches (K : PySem.W.Frag) : Sp := fun vs H Q _ => ∃ (n g h e : Nat) (v : V), vs = [.int n, v] ∧ Dp K H v (wD g h e) ∧ n ≤ 24 ∧ 4 ≤ g ∧ g ≤ 16 ∧ h ≤ 8 ∧ RetFL K (strM n g h e) H Q
theorem ok_stretches {f : Addr} {fd : FuncData} (F : Fun K "stretches" "stretches" sStretches f fd) (mz : mg "zip" = none) (mt : mg "tuple" = none)
    {ft : Addr} {fdt : FuncData} (G : Can P w K mg base "turns" 1 ft fdt ["many", "winding"] (spTurns K)) {fl : Addr} {fdl : FuncData} (L : Can P w K mg base "common_multiple" 2 fl fdl ["numbers"] (spLcm K))
    {fm : Addr} {fdm : FuncData} (M : Can P w K mg base "marks" 1 fm fdm ["many", "rows", "whole"] (spMarks K)) {fp : Addr} {fdp : FuncData} (C : Can P w K mg base "pricked" 2 fp fdp ["many", "winding", "angle"] (spPricked K))
    {fo : Addr} {fdo : FuncData} (O : Can P w K mg base "lowest" 2 fo fdo ["top", "bottom"] (spLowest K)) :
    FnOk P w K mg base CX0 3 f fd ["many", "winding"] (spStretches K) := by
  refine F.ok scStretches (fun vs H Q E h => ?_) (fun cdv A outer s H vs Q E hr h => ?_)
  · obtain ⟨n, g, h, e, v, rfl, _⟩ := h
    rfl
  obtain ⟨n, g, h, e, v, rfl, hw, hn, hg, hg2, hh, q⟩ := h
  obtain ⟨hwh, hraw⟩ := ok_at hn hg hg2 hh
  have hwp : 0 < wholeM n g h := wholeM_pos (by omega)
  have hlt : (topsM n g h).length ≤ 61 := by
    have := sortU_len (0 :: rawM n (wholeM n g h) (turnsM n g h))
    rw [List.length_cons] at this
    unfold topsM marksM
    omega
  have hlp : 0 < (topsM n g h).length := sortU_pos _ (by simp)
  refine ⟨_, pss_cons (ps_set (i := 2) scStretches.nd rfl (.inl rfl) (pcall G hr (pa_cons (pv 0) (pa_cons (pv 1) pa_nil))))
    (pss_cons (ps_set (i := 3) scStretches.nd rfl (.inl rfl) (pcall L hr (pa_cons (pe_lc (own := [("begin", 9), ("length", 10)]) (g := gTup K 2 (gCons (gName 9) (gCons (gName 10) gNil))) (tt := tYes) (by rfl) scStretches.nd (pi_list (pv 2))
      (blkOk_by (N := nStretches) (sc := defScope sStretches) (by decide +kernel))
      (fun _ _ _ _ _ => pg_tup rfl (pgs_cons (pg_name (i := 9) scStretches.nd rfl (.inl rfl)) (pgs_cons (pg_name (i := 10) scStretches.nd rfl (.inl rfl)) pgs_nil))) (fun _ _ _ _ _ => pts_nil) (fun _ _ _ _ _ => pv 10)) pa_nil)))
    (pss_cons (ps_set (i := 4) scStretches.nd rfl (.inl rfl) (pcall M hr (pa_cons (pv 0) (pa_cons (pv 2) (pa_cons (pv 3) pa_nil)))))
    (pss_cons (ps_set (i := 5) scStretches.nd rfl (.inl rfl) (pe_lst pa_nil))
    (pss_cons (ps_for PassesOwn.never rfl (pi_zip (by rfl) mz (pa_cons (pv 4) (pa_cons (pe_op op_cat (pe_slice sl_list (pv 4) (po_some pe_int) po_none) (pe_lst (pa_cons (pv 3) pa_nil))) pa_nil)))
        (pg_tup rfl (pgs_cons (pg_name (i := 6) scStretches.nd rfl (.inl rfl)) (pgs_cons (pg_name (i := 7) scStretches.nd rfl (.inl rfl)) pgs_nil)))
      (pss_cons (ps_set (i := 8) scStretches.nd rfl (.inl rfl) (pe_callTy call_tuple_of (by rfl) mt PyProof.Rows.boot_tuple (pa_cons (pcall C hr (pa_cons (pv 0) (pa_cons (pv 1) (pa_cons (pe_tup (pa_cons (pv 6) (pa_cons (pv 3) pa_nil))) pa_nil)))) pa_nil)))
      (pss_one (ps_expr (pe_bm PySem.F.plainAttrs_list PySem.F.slot_list_append PySem.F.type_list_append mt_append (pv 5) (pa_cons (pe_tup (pa_cons (pcall O hr (pa_cons (pv 6) (pa_cons (pv 3) pa_nil)))
        (pa_cons (pcall O hr (pa_cons (pv 7) (pa_cons (pv 3) pa_nil))) (pa_cons (pv 8) pa_nil)))) pa_nil))))))
    (pss_one (ps_ret (pv 5))))))), ?_⟩
  -- rows
  refine ⟨vi n, rfl, v, rfl, n, g, h, e, v, rfl, hw, by omega, by omega, fun rp rx H1 hrp e1 hrx hrd => ?_⟩
  have hlen : rx.length = (turnsM n g h).length := by rw [dpa_len hrd, List.length_map]
  have hlen2 : rx.length ≤ 2 * n := by rw [hlen]; exact turnsF_len _ _ _ _ _
  -- whole
  refine ⟨.ref rp, rfl, rp, rfl, ⟨rx, sq_of hrx⟩, fun Dl hDl => ?_⟩
  refine lc_list (xs := rx) (fun i H' => Ex H1 H' ∧ H' Dl = some (.lst ((((turnsM n g h).take i).map (·.2)).map vi))) ⟨Ex.new hDl, upd_same⟩ (fun i H' _ p' => sq_of (p'.1 _ _ hrx)) (fun i x H' hx p' => ?_) fun H2 p' => ?_
  · obtain ⟨e2, hl⟩ := p'
    obtain ⟨d, hd1, hd2⟩ := dpa_get hrd hx
    rw [List.getElem?_map] at hd1
    obtain ⟨r, hr1, rfl⟩ := Option.map_eq_some_iff.mp hd1
    obtain ⟨ra, rfl, hra⟩ := td_get (dp_ex e2 _ _ hd2)
    refine ⟨ra, _, rfl, hra, rfl, vi r.1, _, rfl, vi r.2, _, rfl, rfl, rfl, ?_⟩
    refine ⟨vi r.2, rfl, _, hl, ?_, Ex.mut e2 hDl, ?_⟩
    · rw [List.length_map, List.length_map, List.length_take]
      exact small1000 (by omega)
    · rw [upd_same, List.take_add_one, hr1]
      simp only [List.map_append, Option.toList, List.map_cons, List.map_nil]
  obtain ⟨e2, hl⟩ := p'
  rw [hlen, List.take_length] at hl
  refine ⟨Dl, _, rfl, sq_of hl, fun x hx => ?_, fun H3 e3 => ?_⟩
  · obtain ⟨r, hr1, rfl⟩ := List.mem_map.mp hx
    have := turnsF_mem _ _ _ _ _ r hr1
    have hm2 : 2 * n * h ≤ 48 * 8 := Nat.mul_le_mul (by omega) hh
    omega
  have e13 : Ex H1 H3 := e2.trans e3
  -- tops
  refine ⟨vi n, rfl, .ref rp, rfl, vi (wholeM n g h), rfl, n, wholeM n g h, rp, rx, turnsM n g h, rfl, sq_of (e13 _ _ hrx), dpa_ex e13 _ _ hrd, by omega, fun x hx => ?_, hraw, fun tp H4 htp e4 htx => ?_⟩
  · have := turnsF_mem _ _ _ _ _ x hx
    have hm2 : 2 * n * h ≤ 48 * 8 := Nat.mul_le_mul (by omega) hh
    omega
  have htx : H4 tp = some (.lst ((topsM n g h).map vi)) := htx
  have e04 : Ex H H4 := (e1.trans e13).trans e4
  -- told
  refine ⟨Nat.zero_le _, fun to hto => ?_⟩
  have n1 : tp ≠ to := ne_of_none htx hto
  refine ⟨.ref tp, rfl, .ref tp, rfl, 1, rfl, tp, _, rfl, sq_of (by rw [upd_ne n1]; exact htx), fun c1 hc1 => ?_⟩
  refine ⟨vi (wholeM n g h), rfl, by show 1 ≤ sizeLine; decide, fun c2 hc2 => ?_⟩
  have n2 : c1 ≠ c2 := ne_of_none upd_same hc2
  have n3 : to ≠ c1 := ne_of_none upd_same hc1
  refine ⟨c1, c2, _, _, rfl, rfl, by rw [upd_ne n2, upd_same], upd_same, ?_, fun c3 hc3 => ?_⟩
  · rw [cut_1, List.length_drop, List.length_map, List.length_cons, List.length_nil]
    exact Nat.le_of_lt (small1000 (by omega))
  have x5 : Ex H4 (upd H4 to (.lst [])) := Ex.new hto
  have x6 : Ex (upd H4 to (.lst [])) _ := Ex.new (o := .lst (cutV ((topsM n g h).map vi) (some 1) none)) hc1
  have x7 := Ex.new (o := .lst [vi (wholeM n g h)]) hc2
  have x8 := Ex.new (o := .lst (cutV ((topsM n g h).map vi) (some 1) none ++ [vi (wholeM n g h)])) hc3
  have x58 := (x6.trans x7).trans x8
  have h8to := x58 _ _ (upd_same (H := H4) (a := to) (o := .lst []))
  have h8tp := (x5.trans x58) _ _ htx
  have h8c3 := upd_same (H := upd (upd (upd H4 to (.lst [])) c1 (.lst (cutV ((topsM n g h).map vi) (some 1) none))) c2 (.lst [vi (wholeM n g h)])) (a := c3) (o := .lst (cutV ((topsM n g h).map vi) (some 1) none ++ [vi (wholeM n g h)]))
  have e08 := e04.trans (x5.trans x58)
  have n4 : to ≠ c3 := by
    have z := (x6.trans x7) _ _ (upd_same (H := H4) (a := to) (o := .lst []))
    exact ne_of_none z hc3
  have hto0 : H to = none := fresh_back e04 hto
  revert h8to h8tp h8c3 e08
  generalize upd (upd (upd (upd H4 to (.lst [])) c1 (.lst (cutV ((topsM n g h).map vi) (some 1) none))) c2 (.lst [vi (wholeM n g h)])) c3 (.lst (cutV ((topsM n g h).map vi) (some 1) none ++ [vi (wholeM n g h)])) = H8
  intro h8to h8tp h8c3 e08
  rw [cut_1, ← List.map_drop, show ([vi (wholeM n g h)] : List V) = [wholeM n g h].map vi from rfl, ← List.map_append] at h8c3
  have hpl : (pairsM n g h).length = (topsM n g h).length := by
    unfold pairsM
    rw [List.length_zip, zip_tops _ _ hlp, Nat.min_self]
  refine ⟨tp, c3, _, _, rfl, sq_of h8tp, sq_of h8c3, ?_⟩
  refine RZ.for_zipL (by rw [List.length_map, List.length_map, zip_tops _ _ hlp]) (fun i σ' H' => ∃ (y6 y7 y8 : Option V) (xs : List V), σ' = [some (vi n), some v, some (.ref rp), some (vi (wholeM n g h)), some (.ref tp), some (.ref to), y6, y7, y8, none, none] ∧
      Ex H H' ∧ H' tp = some (.lst ((topsM n g h).map vi)) ∧ H' c3 = some (.lst (((topsM n g h).drop 1 ++ [wholeM n g h]).map vi)) ∧ H' to = some (.lst xs) ∧ DpAll K H' xs ((strM n g h e).take i))
    ⟨none, none, none, [], rfl, e08, h8tp, h8c3, h8to, .nil⟩ (fun i σ' H' ⟨_, _, _, _, _, _, a, b, _⟩ => ⟨sq_of a, sq_of b⟩) ?_ ?_
  · rintro i x y T σ' H' hx hy ⟨y6, y7, y8, xs, rfl, ex, htp', hc3', hto', hd'⟩ hT
    rw [List.getElem?_map] at hx hy
    obtain ⟨t, ht, rfl⟩ := Option.map_eq_some_iff.mp hx
    obtain ⟨a, ha, rfl⟩ := Option.map_eq_some_iff.mp hy
    have hp : (pairsM n g h)[i]? = some (t, a) := by
      unfold pairsM
      rw [List.getElem?_zip_eq_some]
      exact ⟨ht, ha⟩
    have hst : (strM n g h e)[i]? = some (strD n g h e (wholeM n g h) (t, a)) := by
      unfold strM
      rw [List.getElem?_map, hp]
      rfl
    have hi : i < (topsM n g h).length := (List.getElem?_eq_some_iff.mp ht).1
    have xT : Ex H' (upd H' T (.tup [vi t, vi a])) := Ex.new hT
    refine ⟨T, _, rfl, st_of upd_same, rfl, vi t, _, rfl, vi a, _, rfl, rfl, ?_⟩
    generalize upd H' T (.tup [vi t, vi a]) = H9 at xT
    -- cells
    refine ⟨vi n, rfl, v, rfl, vi t, rfl, vi (wholeM n g h), rfl, by show 2 ≤ sizeLine; decide, fun A1 hA1 => ?_⟩
    have xA := Ex.new (o := .tup [vi t, vi (wholeM n g h)]) hA1
    refine ⟨n, g, h, e, t, wholeM n g h, v, .ref A1, rfl, dp_ex (ex.trans (xT.trans xA)) _ _ hw, .tup (st_of upd_same) (.cons (.int _) (.cons (.int _) .nil)), by omega, by omega, by omega, by omega, hwp, by omega, fun cp H10 hcp e10 hcx => ?_⟩
    refine ⟨cp, _, rfl, .inl ⟨sq_of hcx, fun ct hct => ?_⟩⟩
    have x11 : Ex H10 (upd H10 ct (.tup ((pricksM n g h e t (wholeM n g h)).map vi))) := Ex.new hct
    have hc11 := upd_same (H := H10) (a := ct) (o := .tup ((pricksM n g h e t (wholeM n g h)).map vi))
    have xx := (xT.trans xA).trans (e10.trans x11)
    generalize upd H10 ct (.tup ((pricksM n g h e t (wholeM n g h)).map vi)) = H11 at x11 hc11 xx
    -- told.append
    refine ⟨.ref to, rfl, .inl ⟨rfl, _, sq_of (xx _ _ hto')⟩, vi t, rfl, vi (wholeM n g h), rfl, t, wholeM n g h, rfl, hwp, hwh, fun v1 H12 e12 d1 => ?_⟩
    refine ⟨vi a, rfl, vi (wholeM n g h), rfl, a, wholeM n g h, rfl, hwp, hwh, fun v2 H13 e13 d2 => ?_⟩
    refine ⟨.ref ct, rfl, by show 3 ≤ sizeLine; decide, fun r hr' => ?_⟩
    have x14 := Ex.new (o := .tup [v1, v2, .ref ct]) hr'
    have h14r := upd_same (H := H13) (a := r) (o := .tup [v1, v2, .ref ct])
    have y14 := e12.trans (e13.trans x14)
    generalize upd H13 r (.tup [v1, v2, .ref ct]) = H14 at x14 h14r y14
    have z14 : Ex H' H14 := xx.trans y14
    refine ⟨to, xs, .ref r, rfl, rfl, z14 _ _ hto', ?_, some (vi t), some (vi a), some (.ref ct), xs ++ [.ref r], rfl, Ex.mut (ex.trans z14) hto0, ?_, ?_, upd_same, ?_⟩
    · have l1 := dpa_len hd'
      rw [List.length_take] at l1
      exact small1000 (by omega)
    · rw [upd_ne n1]
      exact z14 _ _ htp'
    · rw [upd_ne (Ne.symm n4)]
      exact z14 _ _ hc3'
    · rw [List.take_add_one, hst]
      refine dpa_mut (noT_lst (z14 _ _ hto')) _ _ ?_ (dpa_append (dpa_ex z14 _ _ hd') (.cons (.tup (st_of h14r) (.cons (dp_ex (e13.trans x14) _ _ d1) (.cons (dp_ex x14 _ _ d2) (.cons (.tup (st_of (y14 _ _ hc11)) (dis_vis _)) .nil)))) .nil))
      rw [noLs_append]
      have k1 : noLs ((strM n g h e).take i) = true := by
        unfold strM
        rw [← List.map_take]
        exact noLs_map (noL_str n g h e _) _
      rw [k1]
      show noLs [strD n g h e (wholeM n g h) (t, a)] = true
      rw [noLs, noLs, noL_str]
      rfl
  · rintro σ' H' ⟨y6, y7, y8, xs, rfl, ex, htp', hc3', hto', hd'⟩
    rw [List.length_map, List.take_of_length_le (by unfold strM; rw [List.length_map, hpl]; exact Nat.le_refl _)] at hd'
    exact ⟨.ref to, rfl, q to xs H' hto0 ex hto' hd'⟩
end
end Nr
namespace Nr
open PySem PySem.Spec PyProof.Rows L2 Evl

/-! the bag: a list of two ints that is drawn from -/
def Bx (p : Addr) (H H' : Hp) : Prop := ∀ a o, a ≠ p → H a = some o → H' a = some o
theorem Bx.refl (p : Addr) (H : Hp) : Bx p H H := fun _ _ _ h => h
theorem Bx.trans {p : Addr} {H H1 H2 : Hp} (a : Bx p H H1) (b : Bx p H1 H2) : Bx p H H2 := fun x o n h => b x o n (a x o n h)
theorem Bx.of {p : Addr} {H H1 : Hp} (a : Ex H H1) : Bx p H H1 := fun x o _ h => a x o h
theorem Bx.upd {p : Addr} {H H1 : Hp} {o : HO} (a : Bx p H H1) : Bx p H (upd H1 p o) := fun x u n h => by
  rw [upd_ne n]
  exact a x u n h
theorem Bx.ex {p : Addr} {H0 H H1 : Hp} (n : H0 p = none) (e : Ex H0 H) (a : Bx p H H1) : Ex H0 H1 := fun x u h => a x u (ne_of_none h n) (e x u h)
def Bag (H : Hp) (p : Addr) : Prop := ∃ c s : Nat, H p = some (.lst [vi c, vi s])
theorem Bag.noT {H : Hp} {p : Addr} (b : Bag H p) : NoT H p := by
  obtain ⟨c, s, h⟩ := b
  exact noT_lst h
theorem Bag.ex {H H' : Hp} {p : Addr} (b : Bag H p) (e : Ex H H') : Bag H' p := by
  obtain ⟨c, s, h⟩ := b
  exact ⟨c, s, e _ _ h⟩
section
variable {K : PySem.W.Frag} {H H' : Hp} {p : Addr}
theorem sqt_bx {a : Addr} {xs : List V} (n : NoT H p) (b : Bx p H H') (h : SqT K H a xs) : SqT K H' a xs := by
  rcases h with h | h
  · have hne : a ≠ p := fun z => n xs (z ▸ h)
    refine .inl ?_
    rcases h with h | ⟨u, h⟩
    · exact .inl (b _ _ hne h)
    · exact .inr ⟨u, b _ _ hne h⟩
  · exact .inr h
mutual
theorem dp_bx (n : NoT H p) (b : Bx p H H') : ∀ (d : PyData) (v : V), noL d = true → Dp K H v d → Dp K H' v d
  | .none, _, _, h => by cases h; exact .non
  | .bool b, _, _, h => by cases h; exact .bl b
  | .int i, _, _, h => by cases h; exact .int i
  | .str x, _, _, h => by cases h; exact .str x
  | .list ds, _, z, h => by rw [noL] at z; cases z
  | .tuple ds, _, z, h => by
    rw [noL] at z
    cases h with
    | tup hs ha => exact .tup (sqt_bx n b hs) (dpa_bx n b ds _ z ha)
  | .dict _, _, _, h => by cases h
theorem dpa_bx (n : NoT H p) (b : Bx p H H') : ∀ (ds : List PyData) (vs : List V), noLs ds = true → DpAll K H vs ds → DpAll K H' vs ds
  | [], _, _, h => by cases h; exact .nil
  | d :: ds, _, z, h => by
    rw [noLs, Bool.and_eq_true] at z
    cases h with
    | cons h1 h2 => exact .cons (dp_bx n b d _ z.1 h1) (dpa_bx n b ds _ z.2 h2)
end
end
/-- what is drawn: the bag is changed, all else stands -/
def RetB (p : Addr) (C : V → Hp → Prop) (H : Hp) (Q : VK) : Prop := ∀ v H2, Bx p H H2 → Bag H2 p → C v H2 → Q v H2

section
variable {P : Program} {w : World} {K : PySem.W.Frag} {mg : Str → Option Value} {base : Heap}
/-! _law_bag -/
abbrev sBag : Stmt := topS 35
theorem scBag : FnScope ["script", "k", "cell", "seed"] ["script", "k"] (defScope sBag) := ⟨rfl, rfl, rfl, by decide +kernel, rfl, by decide +kernel, by decide +kernel⟩
def spBag (K : PySem.W.Frag) : Sp := fun vs H Q _ => ∃ (a : Addr) (ns : List Int) (k : Nat), vs = [.ref a, .int k] ∧ SqL K H a (ns.map V.int) ∧ k < 1000 ∧ ∀ p H2, H p = none → Ex H H2 → Bag H2 p → Q (.ref p) H2
theorem ok_bag {f : Addr} {fd : FuncData} {k : Nat} (F : Fun K "_law_bag" "_law_bag" sBag f fd) (ml : mg "len" = none) : FnOk P w K mg base CX0 (k + 1) f fd ["script", "k"] (spBag K) := by
  refine F.ok scBag (fun vs H Q E h => ?_) (fun cdv A outer s H vs Q E hr h => ?_)
  · obtain ⟨a, ns, k, rfl, _⟩ := h
    rfl
  obtain ⟨a, ns, k, rfl, hs, hk, q⟩ := h
  refine ⟨_, pss_cons (ps_set (i := 2) scBag.nd rfl (.inl rfl) pe_int)
    (pss_cut (ps_if (pt_cmpR op_lt (pv 1) (pe_callB call_len_seq (by rfl) ml PySem.boot_len (pa_cons (pv 0) pa_nil)) (nomark _))
      (pss_one (ps_set (i := 2) scBag.nd rfl (.inl rfl) (pe_op op_mod (pe_ix ix_list (pv 0) (pv 1) (fun _ _ => rfl)) (pe_op op_pow pe_int pe_int)))) pss_nil)
    (pss_cons (ps_set (i := 3) scBag.nd rfl (.inl rfl) (pe_op op_add pe_int (pe_op op_mod (pe_op op_add (pe_op op_add (pe_op op_add (pe_op op_mul (pe_op op_mod (pv 2) pe_int) pe_int) (pe_op op_mul (pe_op op_mul pe_int (pv 1)) (pv 1))) (pe_op op_mul pe_int (pv 1))) pe_int) pe_int)))
    (pss_cons (ps_if (pt_cmpR op_lt (pv 2) (pe_op op_pow pe_int pe_int) (nomark _)) (pss_one (ps_ret (pe_lst (pa_cons pe_int (pa_cons (pv 3) pa_nil))))) pss_nil)
    (pss_one (ps_ret (pe_lst (pa_cons (pv 2) (pa_cons (pv 3) pa_nil)))))))), ?_⟩
  refine q_asg ev_c fun H1 e1 => ?_
  have hs1 := ex_l e1 hs
  refine ⟨fun σ' H' => Ex H H' ∧ ∃ c : Nat, σ' = [some (.ref a), some (vi k), some (vi c), none], ?_, ?_⟩
  · refine ⟨vi k, rfl, .ref a, rfl, a, _, rfl, .inl hs1, _, _, rfl, rfl, _, rfl, ite2 (fun hlt => ?_) (fun hlt => ?_)⟩
    · have hlt := of_decide_eq_true hlt
      rw [List.length_map] at hlt
      have hk2 : k < ns.length := by omega
      have hx : (ns.map V.int)[k]? = some (.int ns[k]) := by rw [List.getElem?_map, List.getElem?_eq_getElem hk2]; rfl
      refine ⟨.ref a, rfl, vi k, rfl, a, _, _, _, rfl, rfl, hs1, atI_nat hx, _, _, rfl, rfl, ⟨by decide, by decide, by decide⟩, _, _, rfl, rfl, (by show (0 : Int) < 10 ^ (60 : Int).toNat; decide), e1, (ns[k] % (10 : Int) ^ (60 : Int).toNat).toNat, ?_⟩
      have e : (((ns[k] % (10 : Int) ^ (60 : Int).toNat).toNat : Nat) : Int) = ns[k] % (10 : Int) ^ (60 : Int).toNat := Int.toNat_of_nonneg (Int.emod_nonneg _ (by decide))
      show _ = [some (.ref a), some (vi k), some (V.int _), none]
      rw [e]
      rfl
    · exact ⟨e1, 0, rfl⟩
  · rintro σ' H2 ⟨e2, c, rfl⟩
    refine ⟨vi c, rfl, _, _, rfl, rfl, (by show (0 : Int) < 2147483629; decide), _, _, rfl, rfl, .inr ⟨by decide, by decide⟩, vi k, rfl, _, _, rfl, rfl, .inl ⟨by decide, by decide⟩, vi k, rfl, _, _, rfl, rfl, .inr ⟨by omega, by omega⟩, _, _, rfl, rfl, vi k, rfl, _, _, rfl, rfl, .inl ⟨by decide, by decide⟩, _, _, rfl, rfl, _, _, rfl, rfl, _, _, rfl, rfl, (by show (0 : Int) < 2147483645; decide), _, _, rfl, rfl, ?_⟩
    dsimp only
    have hz : ∃ z : Nat, (z : Int) = 1 + ((c : Int) % 2147483629 * 16807 + 40009 * (k : Int) * (k : Int) + 7919 * (k : Int) + 1009) % 2147483645 :=
      ⟨(1 + ((c : Int) % 2147483629 * 16807 + 40009 * (k : Int) * (k : Int) + 7919 * (k : Int) + 1009) % 2147483645).toNat, Int.toNat_of_nonneg (by
        have := Int.emod_nonneg ((c : Int) % 2147483629 * 16807 + 40009 * (k : Int) * (k : Int) + 7919 * (k : Int) + 1009) (b := 2147483645) (by decide)
        omega)⟩
    obtain ⟨z, hz⟩ := hz
    rw [← hz]
    refine q_when (et_test (ev_op (ev_var rfl) (ev_op ev_c ev_c (rv_I ⟨by decide, by decide, by decide⟩)) rv_I0)) (fun hb H3 e3 => ?_) (fun hb H3 e3 => ?_)
    · refine ⟨vi z, rfl, by show 2 ≤ sizeLine; decide, fun p hp => q p _ (fresh_back (e2.trans e3) hp) ((e2.trans e3).trans (Ex.new hp)) ⟨0, z, upd_same⟩⟩
    · refine ⟨vi c, rfl, vi z, rfl, by show 2 ≤ sizeLine; decide, fun p hp => q p _ (fresh_back (e2.trans e3) hp) ((e2.trans e3).trans (Ex.new hp)) ⟨c, z, upd_same⟩⟩

/-! _law_take -/
abbrev sTake : Stmt := topS 36
theorem scTake : FnScope ["bag", "count", "found"] ["bag", "count"] (defScope sTake) := ⟨rfl, rfl, rfl, by decide +kernel, rfl, by decide +kernel, by decide +kernel⟩
def spTake : Sp := fun vs H Q _ => ∃ (p : Addr) (n : Nat), vs = [.ref p, .int n] ∧ Bag H p ∧ 0 < n ∧ n < 1000000000 ∧ RetB p (fun v _ => ∃ r : Nat, v = vi r ∧ r < n) H Q
theorem ok_take {f : Addr} {fd : FuncData} {k : Nat} (F : Fun K "_law_take" "_law_take" sTake f fd) : FnOk P w K mg base CX0 (k + 1) f fd ["bag", "count"] spTake := by
  refine F.ok scTake (fun vs H Q E h => ?_) (fun cdv A outer s H vs Q E hr h => ?_)
  · obtain ⟨p, n, rfl, _⟩ := h
    rfl
  obtain ⟨p, n, rfl, ⟨c, z, hp⟩, hn, hn2, q⟩ := h
  have hq : SqL K H p [vi c, vi z] := sq_of hp
  refine ⟨_, pss_cons (ps_if (pt_cmpR op_gt (pe_ix ix_list (pv 0) pe_int (fun _ _ => rfl)) pe_int (nomark _))
      (pss_cons (ps_set (i := 2) scTake.nd rfl (.inl rfl) (pe_op op_mod (pe_ix ix_list (pv 0) pe_int (fun _ _ => rfl)) (pv 1)))
      (pss_cons (ps_asg (pe_op op_fdiv (pe_ix ix_list (pv 0) pe_int (fun _ _ => rfl)) (pv 1)) (pg_sub (pv 0) pe_int set_list))
      (pss_one (ps_ret (pv 2))))) pss_nil)
    (pss_cons (ps_asg (pe_op op_mod (pe_op op_mul (pe_ix ix_list (pv 0) pe_int (fun _ _ => rfl)) pe_int) pe_int) (pg_sub (pv 0) pe_int set_list))
    (pss_one (ps_ret (pe_op op_mod (pe_op op_fdiv (pe_op op_mod (pe_op op_mul (pe_op op_fdiv (pe_ix ix_list (pv 0) pe_int (fun _ _ => rfl)) pe_int) (pe_op op_add (pe_op op_mod (pe_ix ix_list (pv 0) pe_int (fun _ _ => rfl)) pe_int) pe_int)) pe_int) pe_int) (pv 1))))), ?_⟩
  refine ⟨.ref p, rfl, p, _, _, vi c, rfl, rfl, hq, atI_nat (j := 0) rfl, _, _, rfl, rfl, _, rfl, ite2 (fun hlt => ?_) (fun hlt => ?_)⟩
  · refine ⟨.ref p, rfl, p, _, _, vi c, rfl, rfl, hq, atI_nat (j := 0) rfl, vi n, rfl, _, _, rfl, rfl, by show (0 : Int) < (n : Int); omega, ?_⟩
    refine ⟨.ref p, rfl, p, _, _, vi c, rfl, rfl, hq, atI_nat (j := 0) rfl, vi n, rfl, _, _, rfl, rfl, ⟨by omega, by omega⟩, .ref p, rfl, p, _, _, 0, rfl, rfl, hp, rfl, ?_⟩
    refine ⟨_, rfl, q _ _ (Bx.refl p H).upd ⟨c / n, z, ?_⟩ ⟨c % n, rfl, Nat.mod_lt _ hn⟩⟩
    rw [upd_same]
    rfl
  · obtain ⟨y, hy⟩ : ∃ y : Nat, (y : Int) = (z : Int) * 48271 % 2147483647 := ⟨z * 48271 % 2147483647, by omega⟩
    refine ⟨.ref p, rfl, p, _, _, vi z, rfl, rfl, hq, atI_nat (j := 1) rfl, _, _, rfl, rfl, .inr ⟨by decide, by decide⟩, _, _, rfl, rfl, by show (0 : Int) < 2147483647; decide, .ref p, rfl, p, _, _, 1, rfl, rfl, hp, rfl, ?_⟩
    dsimp only
    rw [← hy]
    have hp2 : (upd H p (.lst ([vi c, vi z].set 1 (V.int (y : Int))))) p = some (.lst [vi c, vi y]) := upd_same
    have hq2 : SqL K (upd H p (.lst ([vi c, vi z].set 1 (V.int (y : Int))))) p [vi c, vi y] := sq_of hp2
    have bx : Bx p H (upd H p (.lst ([vi c, vi z].set 1 (V.int (y : Int))))) := (Bx.refl p H).upd
    generalize upd H p (.lst ([vi c, vi z].set 1 (V.int (y : Int)))) = H2 at hp2 hq2 bx
    refine ⟨.ref p, rfl, p, _, _, vi y, rfl, rfl, hq2, atI_nat (j := 1) rfl, _, _, rfl, rfl, ⟨by decide, by decide⟩, .ref p, rfl, p, _, _, vi y, rfl, rfl, hq2, atI_nat (j := 1) rfl, _, _, rfl, rfl, by show (0 : Int) < 32749; decide, _, _, rfl, rfl, ?_⟩
    refine ⟨_, _, rfl, rfl, .inr ⟨by omega, by omega⟩, _, _, rfl, rfl, by show (0 : Int) < 2147483629; decide, _, _, rfl, rfl, ⟨by decide, by decide⟩, vi n, rfl, _, _, rfl, rfl, by show (0 : Int) < (n : Int); omega, ?_⟩
    refine q _ _ bx ⟨c, y, hp2⟩ ⟨(y / 13 * (y % 32749 + 17) % 2147483629 / 32) % n, ?_, Nat.mod_lt _ hn⟩
    show V.int _ = V.int _
    rfl
end
end Nr
namespace Nr
open PySem PySem.Spec PyProof.Rows L2 Evl

section
variable {P : Program} {w : World} {K : PySem.W.Frag} {mg : Str → Option Value} {base : Heap}
/-! _law_of -/
abbrev sOf : Stmt := topS 37
theorem scOf : FnScope ["bag", "some"] ["bag", "some"] (defScope sOf) := ⟨rfl, rfl, rfl, by decide +kernel, rfl, by decide +kernel, by decide +kernel⟩
def spOf (K : PySem.W.Frag) : Sp := fun vs H Q _ => ∃ (p l : Addr) (xs : List V), vs = [.ref p, .ref l] ∧ Bag H p ∧ H l = some (.lst xs) ∧ l ≠ p ∧ xs ≠ [] ∧ xs.length ≤ 1000 ∧ RetB p (fun v _ => v ∈ xs) H Q
theorem ok_of {f : Addr} {fd : FuncData} (F : Fun K "_law_of" "_law_of" sOf f fd) (ml : mg "len" = none) {ft : Addr} {fdt : FuncData} (T : Can P w K mg base "_law_take" 1 ft fdt ["bag", "count"] spTake) : FnOk P w K mg base CX0 2 f fd ["bag", "some"] (spOf K) := by
  refine F.ok scOf (fun vs H Q E h => ?_) (fun cdv A outer s H vs Q E hr h => ?_)
  · obtain ⟨p, l, xs, rfl, _⟩ := h
    rfl
  obtain ⟨p, l, xs, rfl, hb, hl, hne, hx, hx2, q⟩ := h
  have h0 : 0 < xs.length := List.length_pos_iff.mpr hx
  refine ⟨_, pss_one (ps_ret (pe_ix ix_list (pv 1) (pcall T hr (pa_cons (pv 0) (pa_cons (pe_callB call_len_seq (by rfl) ml PySem.boot_len (pa_cons (pv 1) pa_nil)) pa_nil))) (fun _ _ => rfl))), ?_⟩
  refine ⟨.ref l, rfl, .ref p, rfl, .ref l, rfl, l, xs, rfl, .inl (sq_of hl), p, xs.length, rfl, hb, h0, by omega, ?_⟩
  rintro v H2 bx hb2 ⟨r, rfl, hr2⟩
  exact ⟨l, xs, _, _, rfl, rfl, sq_of (bx _ _ hne hl), atI_nat (List.getElem?_eq_getElem hr2), q _ _ bx hb2 (List.getElem_mem hr2)⟩

/-! _law_winding -/
abbrev sWind : Stmt := topS 38
theorem scWind : FnScope ["bag", "girth"] ["bag"] (defScope sWind) := ⟨rfl, rfl, rfl, by decide +kernel, rfl, by decide +kernel, by decide +kernel⟩
def IsWd (K : PySem.W.Frag) (v : V) (H : Hp) : Prop := ∃ g h e : Nat, 4 ≤ g ∧ g ≤ 16 ∧ h ≤ 8 ∧ e ≤ 1 ∧ Dp K H v (wD g h e)
def spWind (K : PySem.W.Frag) : Sp := fun vs H Q _ => ∃ p : Addr, vs = [.ref p] ∧ Bag H p ∧ RetB p (IsWd K) H Q
theorem bag_ne {H : Hp} {p q : Addr} (b : Bag H p) (n : H q = none) : q ≠ p := by
  obtain ⟨c, s, h⟩ := b
  exact (ne_of_none h n).symm
theorem ok_wind {f : Addr} {fd : FuncData} (F : Fun K "_law_winding" "_law_winding" sWind f fd) {ft : Addr} {fdt : FuncData} (T : Can P w K mg base "_law_take" 1 ft fdt ["bag", "count"] spTake)
    {fo : Addr} {fdo : FuncData} (O : Can P w K mg base "_law_of" 2 fo fdo ["bag", "some"] (spOf K)) : FnOk P w K mg base CX0 3 f fd ["bag"] (spWind K) := by
  refine F.ok scWind (fun vs H Q E h => ?_) (fun cdv A outer s H vs Q E hr h => ?_)
  · obtain ⟨p, rfl, _⟩ := h
    rfl
  obtain ⟨p, rfl, hb, q⟩ := h
  refine ⟨_, pss_cons (ps_set (i := 1) scWind.nd rfl (.inl rfl) (pe_op op_add pe_int (pcall O hr (pa_cons (pv 0) (pa_cons (pe_lst (pa_cons (pcall T hr (pa_cons (pv 0) (pa_cons pe_int pa_nil))) (pa_cons (pcall T hr (pa_cons (pv 0) (pa_cons pe_int pa_nil))) pa_nil))) pa_nil)))))
    (pss_one (ps_ret (pe_tup (pa_cons (pv 1) (pa_cons (pcall O hr (pa_cons (pv 0) (pa_cons (pe_lst (pa_cons pe_int (pa_cons pe_int (pa_cons pe_int (pa_cons (pcall T hr (pa_cons (pv 0) (pa_cons pe_int pa_nil))) pa_nil))))) pa_nil)))
      (pa_cons (pcall T hr (pa_cons (pv 0) (pa_cons pe_int pa_nil))) pa_nil)))))), ?_⟩
  refine ⟨.ref p, rfl, .ref p, rfl, p, 13, rfl, hb, by decide, by decide, ?_⟩
  rintro _ H1 b1 hb1 ⟨r1, rfl, hr1⟩
  refine ⟨.ref p, rfl, p, 4, rfl, hb1, by decide, by decide, ?_⟩
  rintro _ H2 b2 hb2 ⟨r2, rfl, hr2⟩
  refine ⟨by show 2 ≤ sizeLine; decide, fun l hl => ?_⟩
  refine ⟨p, l, _, rfl, hb2.ex (Ex.new hl), upd_same, bag_ne hb2 hl, by simp, by show 2 ≤ 1000; decide, ?_⟩
  intro v H3 b3 hb3 hv
  obtain ⟨r, rfl, hr3⟩ : ∃ r : Nat, v = vi r ∧ r < 13 := by
    rcases List.mem_cons.mp hv with rfl | hv
    · exact ⟨r1, rfl, hr1⟩
    · rw [List.mem_singleton.mp hv]; exact ⟨r2, rfl, by omega⟩
  have B3 : Bx p H H3 := (b1.trans b2).trans ((Bx.of (Ex.new hl)).trans b3)
  refine ⟨_, _, rfl, rfl, .int (4 + (r : Int)), rfl, .ref p, rfl, .ref p, rfl, p, 9, rfl, hb3, by decide, by decide, ?_⟩
  rintro _ H4 b4 hb4 ⟨r4, rfl, hr4⟩
  refine ⟨by show 4 ≤ sizeLine; decide, fun l2 hl2 => ?_⟩
  refine ⟨p, l2, _, rfl, hb4.ex (Ex.new hl2), upd_same, bag_ne hb4 hl2, by simp, by show 4 ≤ 1000; decide, ?_⟩
  intro v H5 b5 hb5 hv
  obtain ⟨h, rfl, hh⟩ : ∃ r : Nat, v = vi r ∧ r ≤ 8 := by
    rcases List.mem_cons.mp hv with rfl | hv
    · exact ⟨0, rfl, by decide⟩
    rcases List.mem_cons.mp hv with rfl | hv
    · exact ⟨1, rfl, by decide⟩
    rcases List.mem_cons.mp hv with rfl | hv
    · exact ⟨2, rfl, by decide⟩
    · rw [List.mem_singleton.mp hv]; exact ⟨r4, rfl, by omega⟩
  refine ⟨.ref p, rfl, p, 2, rfl, hb5, by decide, by decide, ?_⟩
  rintro _ H6 b6 hb6 ⟨e, rfl, he⟩
  refine ⟨by show 3 ≤ sizeLine; decide, fun t ht => ?_⟩
  refine q _ _ (B3.trans ((b4.trans (Bx.of (Ex.new hl2))).trans (b5.trans (b6.trans (Bx.of (Ex.new ht)))))) (hb6.ex (Ex.new ht)) ⟨4 + r, h, e, by omega, by omega, hh, by omega, .tup (st_of upd_same) (.cons ?_ (.cons (.int _) (.cons (.int _) .nil)))⟩
  have : ((4 + r : Nat) : Int) = 4 + (r : Int) := by omega
  show Dp K _ (V.int (4 + (r : Int))) (.int ((4 + r : Nat) : Int))
  rw [this]
  exact .int _

/-! _law_lowest -/
abbrev sLow2 : Stmt := topS 39
theorem scLow2 : FnScope ["top", "bottom", "one", "other"] ["top", "bottom"] (defScope sLow2) := ⟨rfl, rfl, rfl, by decide +kernel, rfl, by decide +kernel, by decide +kernel⟩
def spLow2 : Sp := fun vs H Q _ => ∃ a b : Nat, vs = [.int a, .int b] ∧ 0 < b ∧ b < 2 ^ 200 ∧ ∀ t H2, Ex H H2 → H2 t = some (.tup [vi (a / Nat.gcd a b), vi (b / Nat.gcd a b)]) → Q (.ref t) H2
theorem ok_low2 {f : Addr} {fd : FuncData} {k : Nat} (F : Fun K "_law_lowest" "_law_lowest" sLow2 f fd) : FnOk P w K mg base CX0 (k + 1) f fd ["top", "bottom"] spLow2 := by
  refine F.ok scLow2 (fun vs H Q E h => ?_) (fun cdv A outer s H vs Q E hr h => ?_)
  · obtain ⟨a, b, rfl, _⟩ := h
    rfl
  obtain ⟨a, b, rfl, hb, hb2, q⟩ := h
  have hg : 0 < Nat.gcd a b := Nat.gcd_pos_of_pos_right a hb
  have hgl : Nat.gcd a b ≤ b := Nat.le_of_dvd hb (Nat.gcd_dvd_right a b)
  have wd : ∀ x : Int, CDivW x ((Nat.gcd a b : Nat) : Int) := fun x => wide_div (b := 200) (by omega) (by rw [Int.natAbs_natCast]; exact Nat.lt_of_le_of_lt hgl hb2) (by decide) (by decide)
  refine ⟨_, pss_cons (ps_par (i := 2) (j := 3) (by rfl) scLow2.nd rfl rfl (by decide) rfl rfl (pa_cons (pv 0) (pa_cons (pv 1) pa_nil)) (by rfl))
    (pss_cons (ps_while PassesOwn.never (pt_cmpR op_ne (pv 3) pe_int (nomark _))
      (pss_one (ps_par (i := 2) (j := 3) (by rfl) scLow2.nd rfl rfl (by decide) rfl rfl (pa_cons (pv 3) (pa_cons (pe_op op_mod (pv 2) (pv 3)) pa_nil)) (by rfl))))
    (pss_one (ps_ret (pe_tup (pa_cons (pe_op op_fdivW (pv 0) (pv 2)) (pa_cons (pe_op op_fdivW (pv 1) (pv 2)) pa_nil)))))), ?_⟩
  refine ⟨vi a, rfl, vi b, rfl, vi a, vi b, rfl, ?_⟩
  refine q_while (fun m σ' H' => ∃ c d : Nat, σ' = [some (vi a), some (vi b), some (vi c), some (vi d)] ∧ Nat.gcd c d = Nat.gcd a b ∧ m = d ∧ Ex H H') b ⟨a, b, rfl, rfl, rfl, Ex.refl H⟩ ?_
  rintro m σ' H' ⟨c, d, rfl, hcd, rfl, hx⟩
  refine ⟨_, et_test (ev_op (ev_var rfl) ev_c (rv_ne rfl)), fun hb H1 e1 => ?_, fun hb H1 e1 => ?_⟩
  · have hd : m ≠ 0 := by
      rintro rfl
      simp at hb
    refine ⟨fun σ2 H2 => ∃ c d : Nat, σ2 = [some (vi a), some (vi b), some (vi c), some (vi d)] ∧ Nat.gcd c d = Nat.gcd a b ∧ d < m ∧ Ex H H2, ?_, ?_⟩
    · rintro σ2 H2 ⟨c2, d2, rfl, g2, l2, x2⟩
      exact ⟨d2, l2, c2, d2, rfl, g2, rfl, x2⟩
    · refine ⟨vi m, rfl, vi c, rfl, vi m, rfl, c, m, rfl, rfl, by show (0 : Int) < (m : Int); omega, vi m, .int ((c : Int) % (m : Int)), rfl, m, c % m, rfl, ?_, Nat.mod_lt _ (by omega), hx.trans e1⟩
      rw [← hcd, Nat.gcd_comm c m, Nat.gcd_rec m c, Nat.gcd_comm]
  · have hd : m = 0 := by
      simp at hb
      omega
    subst hd
    have ec : c = Nat.gcd a b := by rw [← hcd]; simp
    subst ec
    refine ⟨vi a, rfl, .int (Nat.gcd a b : Nat), rfl, _, _, rfl, rfl, wd _, vi b, rfl, .int (Nat.gcd a b : Nat), rfl, _, _, rfl, rfl, wd _, by show 2 ≤ sizeLine; decide, fun t ht => ?_⟩
    exact q _ _ ((hx.trans e1).trans (Ex.new ht)) upd_same

/-! _law_angle -/
abbrev sAngle : Stmt := topS 40
theorem scAngle : FnScope ["bag", "bottom"] ["bag"] (defScope sAngle) := ⟨rfl, rfl, rfl, by decide +kernel, rfl, by decide +kernel, by decide +kernel⟩
def IsAng (K : PySem.W.Frag) (v : V) (H : Hp) : Prop := ∃ t b : Nat, t < b ∧ b ≤ 1000 ∧ Nat.gcd t b = 1 ∧ Dp K H v (td (t, b))
def spAngle (K : PySem.W.Frag) : Sp := fun vs H Q _ => ∃ p : Addr, vs = [.ref p] ∧ Bag H p ∧ RetB p (IsAng K) H Q
theorem ok_angle {f : Addr} {fd : FuncData} (F : Fun K "_law_angle" "_law_angle" sAngle f fd) {ft : Addr} {fdt : FuncData} (T : Can P w K mg base "_law_take" 1 ft fdt ["bag", "count"] spTake)
    {fo : Addr} {fdo : FuncData} (O : Can P w K mg base "_law_of" 2 fo fdo ["bag", "some"] (spOf K)) {fl : Addr} {fdl : FuncData} (L : Can P w K mg base "_law_lowest" 1 fl fdl ["top", "bottom"] spLow2) :
    FnOk P w K mg base CX0 3 f fd ["bag"] (spAngle K) := by
  refine F.ok scAngle (fun vs H Q E h => ?_) (fun cdv A outer s H vs Q E hr h => ?_)
  · obtain ⟨p, rfl, _⟩ := h
    rfl
  obtain ⟨p, rfl, hb, q⟩ := h
  refine ⟨_, pss_cons (ps_set (i := 1) scAngle.nd rfl (.inl rfl) (pe_op op_add pe_int (pcall O hr (pa_cons (pv 0) (pa_cons (pe_lst (pa_cons (pcall T hr (pa_cons (pv 0) (pa_cons pe_int pa_nil))) (pa_cons (pcall T hr (pa_cons (pv 0) (pa_cons pe_int pa_nil))) pa_nil))) pa_nil)))))
    (pss_one (ps_ret (pcall L hr (pa_cons (pcall T hr (pa_cons (pv 0) (pa_cons (pv 1) pa_nil))) (pa_cons (pv 1) pa_nil))))), ?_⟩
  refine ⟨.ref p, rfl, .ref p, rfl, p, 12, rfl, hb, by decide, by decide, ?_⟩
  rintro _ H1 b1 hb1 ⟨r1, rfl, hr1⟩
  refine ⟨.ref p, rfl, p, 1000, rfl, hb1, by decide, by decide, ?_⟩
  rintro _ H2 b2 hb2 ⟨r2, rfl, hr2⟩
  refine ⟨by show 2 ≤ sizeLine; decide, fun l hl => ?_⟩
  refine ⟨p, l, _, rfl, hb2.ex (Ex.new hl), upd_same, bag_ne hb2 hl, by simp, by show 2 ≤ 1000; decide, ?_⟩
  intro v H3 b3 hb3 hv
  obtain ⟨r, rfl, hr3⟩ : ∃ r : Nat, v = vi r ∧ r < 1000 := by
    rcases List.mem_cons.mp hv with rfl | hv
    · exact ⟨r1, rfl, by omega⟩
    · rw [List.mem_singleton.mp hv]; exact ⟨r2, rfl, hr2⟩
  have B3 : Bx p H H3 := (b1.trans b2).trans ((Bx.of (Ex.new hl)).trans b3)
  refine ⟨_, _, rfl, rfl, ?_⟩
  have eb : (1 : Int) + (r : Int) = ((1 + r : Nat) : Int) := by omega
  dsimp only
  rw [eb]
  refine ⟨.ref p, rfl, vi (1 + r), rfl, p, 1 + r, rfl, hb3, by omega, by omega, ?_⟩
  rintro _ H4 b4 hb4 ⟨t, rfl, ht⟩
  refine ⟨vi (1 + r), rfl, t, 1 + r, rfl, by omega, by omega, ?_⟩
  intro v H5 e5 hd0
  have hd : Dp K H5 (.ref v) (td (t / Nat.gcd t (1 + r), (1 + r) / Nat.gcd t (1 + r))) := .tup (st_of hd0) (.cons (.int _) (.cons (.int _) .nil))
  have hg0 : 0 < Nat.gcd t (1 + r) := Nat.gcd_pos_of_pos_right _ (by omega)
  refine q _ _ (B3.trans (b4.trans (Bx.of e5))) (hb4.ex e5) ⟨t / Nat.gcd t (1 + r), (1 + r) / Nat.gcd t (1 + r), ?_, ?_, ?_, hd⟩
  · exact Nat.div_lt_div_of_lt_of_dvd (Nat.gcd_dvd_right _ _) ht
  · exact Nat.le_trans (Nat.div_le_self _ _) (by omega)
  · exact Nat.gcd_div_gcd_div_gcd_of_pos_right (by omega)
end
end Nr
namespace Nr
open PySem PySem.Spec PyProof.Rows L2 Evl

def foundL (n e t b : Nat) (l : List (Nat × Nat)) : List Nat := ((l.map (placeN t b)).filter (fun p => decide (p < n))).map (fun p => if e = 0 then p else n - 1 - p)
theorem foundL_yes {n e t b : Nat} {l : List (Nat × Nat)} {q : Nat × Nat} (h : placeN t b q < n) : foundL n e t b (l ++ [q]) = foundL n e t b l ++ [if e = 0 then placeN t b q else n - 1 - placeN t b q] := by
  unfold foundL
  rw [List.map_append, List.filter_append, List.map_append]
  simp [h]
theorem foundL_no {n e t b : Nat} {l : List (Nat × Nat)} {q : Nat × Nat} (h : ¬ placeN t b q < n) : foundL n e t b (l ++ [q]) = foundL n e t b l := by
  unfold foundL
  rw [List.map_append, List.filter_append, List.map_append]
  simp [h]
theorem foundL_len {n e t b : Nat} (l : List (Nat × Nat)) : (foundL n e t b l).length ≤ l.length := by
  unfold foundL
  rw [List.length_map]
  refine Nat.le_trans (List.length_filter_le _ _) ?_
  rw [List.length_map]
  exact Nat.le_refl _
theorem foundL_perm {n g h e t b : Nat} (he : e ≤ 1) : (foundL n e t b (turnsM n g h)).Perm (pricksM n g h e t b) := by
  unfold foundL pricksM
  rcases Nat.lt_or_ge e 1 with z | z
  · have : e = 0 := by omega
    subst this
    rw [if_neg (by decide)]
    simp only [if_true, List.map_id']
    exact List.Perm.refl _
  · have : e = 1 := by omega
    subst this
    rw [if_pos rfl]
    simp only [Nat.one_ne_zero, if_false]
    exact (List.reverse_perm _).symm
theorem sorted_is {ns : List Int} {ks ms : List Nat} (hp : ns.Perm (ks.map fun k : Nat => (k : Int))) (hk : ks.Perm ms) (ho : ns.Pairwise (· ≤ ·)) (hm : ms.Pairwise (· < ·)) : ns = ms.map fun k : Nat => (k : Int) :=
  PySem.W.ksm_same (hp.trans (hk.map _)) ho (List.pairwise_map.mpr (hm.imp fun {a b} lt => by omega))

section
variable {P : Program} {w : World} {K : PySem.W.Frag} {mg : Str → Option Value} {base : Heap}
abbrev sLPr : Stmt := topS 41
theorem scLPr : FnScope ["many", "winding", "angle", "found", "begin", "length", "point", "cell"] ["many", "winding", "angle"] (defScope sLPr) := ⟨rfl, rfl, rfl, by decide +kernel, rfl, by decide +kernel, by decide +kernel⟩
def spLPr (K : PySem.W.Frag) : Sp := fun vs H Q _ => ∃ (n g h e t b : Nat) (v u : V), vs = [.int n, v, u] ∧ Dp K H v (wD g h e) ∧ Dp K H u (td (t, b)) ∧ 2 ≤ g ∧ g ≤ 1000 ∧ h ≤ 1000 ∧ e ≤ 1 ∧ n ≤ 31 ∧ 0 < b ∧ b < 2 ^ 200 ∧ t < 2 ^ 200 ∧
  RetL ((pricksM n g h e t b).map vi) H Q
theorem ok_lpr {f : Addr} {fd : FuncData} {k : Nat} (F : Fun K "_law_pricked" "_law_pricked" sLPr f fd) (ms : mg "sorted" = none) : FnOk P w K mg base CX0 (k + 1) f fd ["many", "winding", "angle"] (spLPr K) := by
  refine F.ok scLPr (fun vs H Q E h => ?_) (fun cdv A outer s H vs Q E hr h => ?_)
  · obtain ⟨n, g, h, e, t, b, v, u, rfl, _⟩ := h
    rfl
  obtain ⟨n, g, h, e, t, b, v, u, rfl, hw, hu, hg, hg2, hh, he, hn, hb, hb2, ht2, q⟩ := h
  obtain ⟨wa, rfl, hwq⟩ := wd_get hw
  obtain ⟨ua, rfl, huq⟩ := td_get hu
  have A0 : ∀ {X : Cx} {pos p2 : Pos}, True := trivial
  refine ⟨_, pss_cons (ps_par3 (i := 3) (j := 4) (l := 5) (by rfl) scLPr.nd rfl rfl rfl (by decide) (by decide) (by decide) rfl rfl rfl (pa_cons (pe_lst pa_nil) (pa_cons pe_int (pa_cons (pe_ix ix_tup (pv 1) pe_int (fun _ _ => rfl)) pa_nil))) (by rfl))
    (pss_cons (ps_while PassesOwn.never (pt_cmpR op_lt (pv 4) (pe_op op_mul pe_int (pv 0)) (nomark _))
      (pss_cons (ps_set (i := 6) scLPr.nd rfl (.inl rfl) (pe_op op_add (pe_op op_mulW (pv 4) (pe_ix ix_tup (pv 2) pe_int (fun _ _ => rfl))) (pe_op op_mulW (pe_ix ix_tup (pv 2) pe_int (fun _ _ => rfl)) (pv 5))))
      (pss_cut (ps_if (pt_cmpR op_lt (pv 6) (pe_op op_mulW (pe_op op_mul pe_int (pv 0)) (pe_ix ix_tup (pv 2) pe_int (fun _ _ => rfl))) (nomark _))
        (pss_cons (ps_set (i := 7) scLPr.nd rfl (.inl rfl) (pe_op op_fdivW (pv 6) (pe_op op_mul pe_int (pe_ix ix_tup (pv 2) pe_int (fun _ _ => rfl)))))
        (pss_one (ps_expr (pe_bm PySem.F.plainAttrs_list PySem.F.slot_list_append PySem.F.type_list_append mt_append (pv 3) (pa_cons (pe_ifExp (pt_cmpR op_eq (pe_ix ix_tup (pv 1) pe_int (fun _ _ => rfl)) pe_int (nomark _)) (pv 7) (pe_op op_sub (pe_op op_sub (pv 0) pe_int) (pv 7))) pa_nil))))) pss_nil)
      (pss_one (ps_par (i := 4) (j := 5) (by rfl) scLPr.nd rfl rfl (by decide) rfl rfl (pa_cons (pe_op op_add (pv 4) (pv 5)) (pa_cons (pe_op op_add (pv 5) (pe_ix ix_tup (pv 1) pe_int (fun _ _ => rfl))) pa_nil)) (by rfl))))))
    (pss_one (ps_ret (pe_callB cr_sorted (by rfl) ms boot_sorted (pa_cons (pv 3) pa_nil))))), ?_⟩
  refine ⟨Nat.zero_le _, fun D hD => ?_⟩
  have ex0 : Ex H (upd H D (.lst [])) := Ex.new hD
  refine ⟨.ref wa, rfl, wa, _, _, vi g, rfl, rfl, ex_t ex0 hwq, atI_nat (j := 0) rfl, .ref D, .int 0, vi g, rfl, ?_⟩
  refine q_while (fun m σ' H' => ∃ (bg l fu : Nat) (pre : List (Nat × Nat)) (y6 y7 : Option V), σ' = [some (vi n), some (.ref wa), some (.ref ua), some (.ref D), some (vi bg), some (vi l), y6, y7] ∧
    turnsM n g h = pre ++ turnsF fu (2 * n) bg l h ∧ 2 * n - bg ≤ fu ∧ 2 ≤ l ∧ l ≤ g + bg * h ∧ m = 2 * n - bg ∧ Ex H H' ∧ H' D = some (.lst ((foundL n e t b pre).map vi))) (2 * n)
    ⟨0, g, 2 * n, [], none, none, rfl, rfl, by omega, hg, by omega, by omega, ex0, upd_same⟩ ?_
  rintro m σ' H' ⟨bg, l, fu, pre, y6, y7, rfl, hT, hfu, hl2, hlg, rfl, ex, hDx⟩
  refine ⟨_, et_test (ev_op (ev_var rfl) (ev_op ev_c (ev_var rfl) (rv_I (.inl ⟨by decide, by decide⟩))) rv_I0), fun hbb H1 e1 => ?_, fun hbb H1 e1 => ?_⟩
  · have hbg : bg < 2 * n := by
      simp at hbb
      omega
    obtain ⟨fu, rfl⟩ : ∃ k, fu = k + 1 := ⟨fu - 1, by omega⟩
    rw [turnsF, if_pos hbg] at hT
    have hprelen : pre.length ≤ 2 * n := by
      have l2 := congrArg List.length hT
      have l3 := turnsF_len (2 * n) (2 * n) 0 g h
      rw [List.length_append] at l2
      unfold turnsM at l2
      omega
    have hlb : l ≤ 100000 := by
      have : bg * h ≤ 62 * 1000 := Nat.mul_le_mul (by omega) hh
      omega
    have exx := ex.trans e1
    obtain ⟨b0, eb0⟩ : ∃ b0, b0 = bg := ⟨bg, rfl⟩
    rw [show 2 * n - bg = 2 * n - b0 by rw [eb0]]
    refine ⟨fun σ2 H2 => ∃ (bg l fu : Nat) (pre : List (Nat × Nat)) (y6 y7 : Option V), σ2 = [some (vi n), some (.ref wa), some (.ref ua), some (.ref D), some (vi bg), some (vi l), y6, y7] ∧
      turnsM n g h = pre ++ turnsF fu (2 * n) bg l h ∧ 2 * n - bg ≤ fu ∧ 2 ≤ l ∧ l ≤ g + bg * h ∧ 2 * n - bg < 2 * n - b0 ∧ Ex H H2 ∧ H2 D = some (.lst ((foundL n e t b pre).map vi)), ?_, ?_⟩
    · rintro σ2 H2 ⟨a1, a2, a3, a4, a5, a6, h1, h2, h3, h4, h5, h6, h7, h8⟩
      exact ⟨_, h6, a1, a2, a3, a4, a5, a6, h1, h2, h3, h4, h5, rfl, h7, h8⟩
    have hu1 := ex_t exx huq
    have hw1 := ex_t exx hwq
    have w1 : CMulW (bg : Int) (b : Int) := wide_mul (a := 64) (b := 200) (by omega) (by omega) (by decide) (by decide) (by decide)
    have w2 : CMulW (t : Int) (l : Int) := wide_mul (a := 200) (b := 64) (by omega) (by omega) (by decide) (by decide) (by decide)
    have w3 : CMulW (2 * (n : Int)) (b : Int) := wide_mul (a := 64) (b := 200) (by omega) (by omega) (by decide) (by decide) (by decide)
    refine q_asg (v := .int ((bg : Int) * (b : Int) + (t : Int) * (l : Int))) (ev_op (ev_op (ev_var rfl) (ev_op (ev_var rfl) ev_c (rv_ixT hu1 (atI_nat (j := 1) rfl))) (rv_I w1)) (ev_op (ev_op (ev_var rfl) ev_c (rv_ixT hu1 (atI_nat (j := 0) rfl))) (ev_var rfl) (rv_I w2)) rv_I0) fun H2 e2 => ?_
    have hu2 := ex_t e2 hu1
    have hw2 := ex_t e2 hw1
    refine q_cut (M := fun σ2 H2 => ∃ y7, σ2 = [some (vi n), some (.ref wa), some (.ref ua), some (.ref D), some (vi bg), some (vi l), some (.int ((bg : Int) * (b : Int) + (t : Int) * (l : Int))), y7] ∧ Ex H H2 ∧ H2 D = some (.lst ((foundL n e t b (pre ++ [(bg, l)])).map vi))) ?_ ?_
    · have hpt : (bg : Int) * (b : Int) + (t : Int) * (l : Int) = ((bg * b + l * t : Nat) : Int) := by
        rw [Int.natCast_add, Int.natCast_mul, Int.natCast_mul, Int.mul_comm (t : Int)]
      have hdiv : placeN t b (bg, l) < n ↔ bg * b + l * t < n * (2 * b) := Nat.div_lt_iff_lt_mul (by omega)
      have hnb : 2 * (n : Int) * (b : Int) = ((n * (2 * b) : Nat) : Int) := by
        rw [Int.natCast_mul, Int.natCast_mul]
        show 2 * (n : Int) * (b : Int) = (n : Int) * (2 * (b : Int))
        rw [Int.mul_comm 2 (n : Int), Int.mul_assoc]
      refine s_when (et_test (ev_op (ev_var rfl) (ev_op (ev_op ev_c (ev_var rfl) (rv_I (.inl ⟨by decide, by decide⟩))) (ev_op (ev_var rfl) ev_c (rv_ixT hu2 (atI_nat (j := 1) rfl))) (rv_I w3)) rv_I0)) (fun hc H3 e3 => ?_) (fun hc H3 e3 => ?_)
      · have hc := of_decide_eq_true hc
        rw [hpt, hnb] at hc
        have hlt : placeN t b (bg, l) < n := hdiv.mpr (by omega)
        have hu3 := ex_t e3 hu2
        have hw3 := ex_t e3 hw2
        have w4 : CDivW ((bg : Int) * (b : Int) + (t : Int) * (l : Int)) (2 * (b : Int)) := wide_div (b := 201) (by omega) (by omega) (by decide) (by decide)
        refine q_asg (v := vi (placeN t b (bg, l))) (ev_is (ev_op (ev_var rfl) (ev_op ev_c (ev_op (ev_var rfl) ev_c (rv_ixT hu3 (atI_nat (j := 1) rfl))) (rv_I (.inl ⟨by decide, by decide⟩))) (rv_I w4)) ?_) fun H4 e4 => ?_
        · show V.int _ = V.int _
          rw [hpt]
          rfl
        · have hw4 := ex_t e4 hw3
          refine s_app (v := vi (if e = 0 then placeN t b (bg, l) else n - 1 - placeN t b (bg, l))) (((e2.trans e3).trans e4) _ _ (e1 _ _ hDx)) (ev_var rfl) (ev_if (et_test (ev_op (ev_op (ev_var rfl) ev_c (rv_ixT hw4 (atI_nat (j := 2) rfl))) ev_c (rv_eq rfl))) (fun hz => ?_) (fun hz => ?_)) ?_ fun H5 e5 => ?_
          · refine ev_is (ev_var rfl) ?_
            simp at hz
            rw [if_pos (by omega)]
          · refine ev_is (ev_op (ev_op (ev_var rfl) ev_c rv_I0) (ev_var rfl) rv_I0) ?_
            simp at hz
            rw [if_neg (by omega)]
            show V.int _ = V.int _
            congr 1
            omega
          · rw [List.length_map]
            have := foundL_len (n := n) (e := e) (t := t) (b := b) pre
            omega
          · refine ⟨_, rfl, Ex.mut (exx.trans ((e2.trans e3).trans (e4.trans e5))) hD, ?_⟩
            rw [upd_same, foundL_yes hlt, List.map_append]
            rfl
      · have hc := of_decide_eq_false hc
        rw [hpt, hnb] at hc
        have hlt : ¬ placeN t b (bg, l) < n := fun z => hc (by have := hdiv.mp z; omega)
        refine ⟨_, rfl, exx.trans (e2.trans e3), ?_⟩
        rw [foundL_no hlt]
        exact (e2.trans e3) _ _ (e1 _ _ hDx)
    · rintro σ2 H3 ⟨y7, rfl, ex3, hD3⟩
      refine ⟨vi bg, rfl, vi l, rfl, _, _, rfl, rfl, vi l, rfl, .ref wa, rfl, wa, _, _, vi h, rfl, rfl, ex_t ex3 hwq, atI_nat (j := 1) rfl, _, _, rfl, rfl, _, _, rfl, ?_⟩
      refine ⟨bg + l, l + h, fu, pre ++ [(bg, l)], _, _, rfl, ?_, by omega, by omega, ?_, by omega, ex3, hD3⟩
      · rw [hT, List.append_assoc]; rfl
      · have : h ≤ l * h := by
          have := Nat.mul_le_mul_right h (show 1 ≤ l by omega)
          omega
        rw [Nat.add_mul]
        omega
  · have hbg : ¬ bg < 2 * n := by
      simp at hbb
      omega
    rw [turnsF_done _ _ _ _ _ hbg, List.append_nil] at hT
    subst hT
    have hlen := foundL_len (n := n) (e := e) (t := t) (b := b) (turnsM n g h)
    have hlen2 : (turnsM n g h).length ≤ 2 * n := turnsF_len _ _ _ _ _
    refine ⟨.ref D, rfl, D, (foundL n e t b (turnsM n g h)).map (fun k : Nat => (k : Int)), rfl, ?_, ?_, fun ns p hp ho hpf => ?_⟩
    · rw [List.map_map]
      exact sq_of (e1 _ _ hDx)
    · rw [List.length_map]
      omega
    · have en := sorted_is hp (foundL_perm he) ho (pricks_sorted hb hg)
      refine q p _ (fresh_back (ex.trans e1) hpf) ((ex.trans e1).trans (Ex.new hpf)) ?_
      rw [upd_same, en, List.map_map]
      rfl
end
end Nr
namespace Nr
open PySem PySem.Spec PyProof.Rows L2 Evl

/-! lambda x: x[0] * 10 ** 9 // x[1], called on a pair of ints -/
def keyBody (x : Str) (p1 p2 p3 p4 p5 p6 p7 p8 p9 p10 p11 : Pos) (j1 j2 j3 j4 : Nat) : Expr :=
  .BinOp (.BinOp (.Subscript (.Name x p1) (.Constant (.int 0) j1 p2) p3) .Mult (.BinOp (.Constant (.int 10) j2 p4) .Pow (.Constant (.int 9) j3 p5) p6) p7) .FloorDiv (.Subscript (.Name x p8) (.Constant (.int 1) j4 p9) p10) p11
def keyI (a b : Int) : Int := (a * 1000000000) / b
section
variable {prog : Program} {w : World} {A : Around} {E : Value → Shared → Prop} {s : Shared}
theorem key_call {x q : Str} {params : Arguments} {scope : Scope} {pm ctv : Value} {f c' t : Addr} {a b : Int} {ta tb : Tok} {Q : Value → Shared → Prop} {p1 p2 p3 p4 p5 p6 p7 p8 p9 p10 p11 : Pos} {j1 j2 j3 j4 : Nat}
    (hroom : A.depth < recursionLimit) (hf : s.heap.get? f = some (PySem.W.kla_obj "<lambda>" q params (keyBody x p1 p2 p3 p4 p5 p6 p7 p8 p9 p10 p11 j1 j2 j3 j4) scope [] pm c' ctv)) (hcd : s.heap.CodeRec (.ref c') q) (hlim : s.heap.NoLimit)
    (ht : IsTup s.heap t #[.int a ta, .int b tb]) (ha : a.natAbs < 2 ^ 60) (hb0 : 0 < b) (hb : b < 1073741824)
    (hbind : bindArgs (PySem.W.kla_fn "<lambda>" q params (keyBody x p1 p2 p3 p4 p5 p6 p7 p8 p9 p10 p11 j1 j2 j3 j4) scope [] pm (.ref c') ctv) ⟨[.ref t], []⟩ = pure [(x, .ref t)])
    (hco : scope.isCoroutine = false) (hgen : scope.isGenerator = false) (hk : scope.kind = .function) (hcell : ∀ y ∈ scope.names, y.2 ≠ .cell) (hx : scope.names.lookup x = some .local) (hdb : (x == ("__debug__" : Str)) = false)
    (h : ∀ h' tk t', (∀ b o, s.heap.get? b = some o → h'.get? b = some o) → Q (.int (keyI a b) t') { s with heap := h', toks := tk }) :
    wpAny (model prog w) A (call (.ref f) [.ref t]) Q E s := by
  refine wpAny_call (PySem.W.kla_callFunE hroom hf rfl hco hgen rfl hcd ?_)
  rw [hbind]
  refine wpAny_pure (wpAny_newFunctionEnv hcell (fun y hy => by rw [List.mem_singleton.mp hy]; exact hx) (fun h1 hns hsb => ⟨hlim.fresh _ hsb, ?_⟩) hk)
  have kp : ∀ b o, s.heap.get? b = some o → h1.get? b = some o := fun b o e => hsb.extBut b o (Nat.ne_of_lt (Heap.lt_size e)) (Heap.get?_push_of_some _ e)
  change codeAny _ _ (.expr (keyBody x p1 p2 p3 p4 p5 p6 p7 p8 p9 p10 p11 j1 j2 j3 j4) (envOf q scope s.heap.objs.size f (.ref c'))) _ _
  refine PySem.W.kla_codeExpr ?_
  have F : Fr s.heap s.heap.objs.size h1 (fun y => [(x, Value.ref t)].reverse.lookup y) := ⟨hns, kp, Nat.le_refl _⟩
  have hv : (fun y => [(x, Value.ref t)].reverse.lookup y) x = some (Value.ref t) := by simp
  have hkx : (envOf q scope s.heap.objs.size f (.ref c')).kindOf x = some .local := hx
  have ht1 : IsTup h1 t #[.int a ta, .int b tb] := by
    obtain ⟨o, e, r⟩ := ht
    exact ⟨o, kp t o e, r⟩
  unfold keyBody
  refine wpAny_BinOp (wpAny_BinOp (Subscript_ (ld (s := { s with heap := h1, toks := s.toks + [(x, Value.ref t)].length }) F hv (wpAny_Constant_int ?_) hk hkx hdb)))
  refine item_tuple (j := 0) ht1 (by decide) (by decide) rfl rfl ?_
  refine wpAny_BinOp (wpAny_Constant_int (wpAny_Constant_int (pow_int_small (by decide) (by decide) (by decide) ?_)))
  refine mul_int ?_ ?_
  · refine Subscript_ (ld (s := { s with heap := h1, toks := _ }) F hv (wpAny_Constant_int ?_) hk hkx hdb)
    refine item_tuple (j := 1) ht1 (by decide) (by decide) rfl rfl ?_
    refine floordiv_int (by omega) ?_ (.inl (PyProof.noPylong_small (by omega)))
    rw [Int.fdiv_eq_ediv_of_nonneg _ (by omega)]
    exact h h1 _ _ kp
  · exact CMul.ok (.inl ⟨by omega, by omega⟩)
end
end Nr
namespace Nr
open PySem PySem.Spec PyProof.Rows L2 Evl

theorem perm_map_inv {α β : Type} {g : α → β} : ∀ {ps : List β} {l : List α}, ps.Perm (l.map g) → ∃ ys : List α, ys.Perm l ∧ ps = ys.map g
  | [], l, h => by
    have : l.map g = [] := h.symm.eq_nil
    have : l = [] := List.map_eq_nil_iff.mp this
    subst this
    exact ⟨[], List.Perm.refl _, rfl⟩
  | p :: ps, l, h => by
    obtain ⟨x, hx, rfl⟩ := List.mem_map.mp (h.mem_iff.mp List.mem_cons_self)
    obtain ⟨l1, l2, rfl⟩ := List.append_of_mem hx
    have h2 : (g x :: ps).Perm (g x :: (l1 ++ l2).map g) := by
      refine h.trans ?_
      rw [List.map_append, List.map_cons, List.map_append]
      exact List.perm_middle
    obtain ⟨ys, h3, rfl⟩ := perm_map_inv (List.Perm.cons_inv h2)
    exact ⟨x :: ys, (List.Perm.cons x h3).trans List.perm_middle.symm, rfl⟩
theorem paired_get {α β : Type} {F : α → β → Prop} : ∀ {l1 : List α} {l2 : List β} {i : Nat} {a : α}, Paired F l1 l2 → l1[i]? = some a → ∃ b, l2[i]? = some b ∧ F a b
  | _, _, _, _, .nil, e => by simp at e
  | _, _, 0, _, .cons r _, e => by simp at e; subst e; exact ⟨_, rfl, r⟩
  | _, _, i + 1, a, .cons _ t, e => by
    obtain ⟨b, h1, h2⟩ := paired_get (i := i) (a := a) t (by simpa using e)
    exact ⟨b, by simpa using h1, h2⟩
theorem paired_map {α β γ : Type} {F : α → β → Prop} {f : α → γ} {g : β → γ} : ∀ {l1 : List α} {l2 : List β}, Paired F l1 l2 → (∀ a b, F a b → f a = g b) → l1.map f = l2.map g
  | _, _, .nil, _ => rfl
  | _, _, .cons r t, h => by rw [List.map_cons, List.map_cons, h _ _ r, paired_map t h]
theorem paired_mem {α β : Type} {F : α → β → Prop} : ∀ {l1 : List α} {l2 : List β}, Paired F l1 l2 → ∀ b ∈ l2, ∃ a ∈ l1, F a b
  | _, _, .nil, b, h => by cases h
  | _, _, .cons r t, b, h => by
    rcases List.mem_cons.mp h with rfl | h
    · exact ⟨_, List.mem_cons_self, r⟩
    · obtain ⟨a, h1, h2⟩ := paired_mem t b h
      exact ⟨a, List.mem_cons_of_mem _ h1, h2⟩
theorem zip_maps {α β γ : Type} (f : α → β) (g : α → γ) : ∀ l : List α, (l.map f).zip (l.map g) = l.map fun x => (f x, g x)
  | [] => rfl
  | x :: l => by rw [List.map_cons, List.map_cons, List.zip_cons_cons, zip_maps f g l]; rfl
theorem vals_refs {α : Type} (f : α → Addr) : ∀ l : List α, Vals (l.map fun x => V.ref (f x)) (l.map fun x => Value.ref (f x))
  | [] => .nil
  | x :: l => .cons rfl (vals_refs f l)
def keyK : List Key → Int
  | [.inl a, .inl b] => keyI a b
  | _ => 0
/-- a pair of ints that the key can be reckoned of -/
def KeyOk (k : List Key) : Prop := ∃ a b : Int, k = [.inl a, .inl b] ∧ a.natAbs < 2 ^ 60 ∧ 0 < b ∧ b < 1073741824
def LamO (f : Addr) (o : Obj) : HO := .ext fun h => h.get? f = some o
theorem lamO_ok {P : Program} {w : World} {H : Hp} {h : Heap} {f : Addr} {o : Obj} (e : h.get? f = some o) : ObjOk P w H h f (LamO f o) := ⟨e, ⟨o, e⟩, fun h1 h2 q k => k _ q⟩

section
variable {X : Cx} {x q : Str} {params : Arguments} {scope : Scope} {p1 p2 p3 p4 p5 p6 p7 p8 p9 p10 p11 : Pos} {j1 j2 j3 j4 : Nat}
abbrev kbody (x : Str) (p1 p2 p3 p4 p5 p6 p7 p8 p9 p10 p11 : Pos) (j1 j2 j3 j4 : Nat) : Expr := keyBody x p1 p2 p3 p4 p5 p6 p7 p8 p9 p10 p11 j1 j2 j3 j4
/-- sorted(d, key=f), d a dict of pairs, f such a lambda -/
def rSortLam (q : Str) (params : Arguments) (body : Expr) (scope : Scope) : List V → List V → Hp → VK → Prop := fun vs zs H Q => ∃ (d f c' : Addr) (kvs : List (List Key × V)) (pm ctv : Value), vs = [.ref d] ∧ zs = [.ref f] ∧ H d = some (.dT kvs) ∧
  H f = some (LamO f (PySem.W.kla_obj "<lambda>" q params body scope [] pm c' ctv)) ∧ H c' = some (LamX.CodeO c' q) ∧ kvs.length < 64 ∧ (∀ kv ∈ kvs, KeyOk kv.1) ∧
  ∀ (ys : List (List Key × Addr)) (p : Addr), (ys.map (·.1)).Perm (kvs.map (·.1)) → (∀ y ∈ ys, H y.2 = some (.tup (y.1.map kV))) → ys.Pairwise (fun u v => keyK u.1 ≤ keyK v.1) → H p = none → Q (.ref p) (upd H p (.lst (ys.map fun y => V.ref y.2)))
theorem cr_sortLam {k : Nat} (hr : Room k X.A) (hcalm : X.calm = true)
    (hbind : ∀ (pm cv ctv : Value) (t : Addr), bindArgs (PySem.W.kla_fn "<lambda>" q params (kbody x p1 p2 p3 p4 p5 p6 p7 p8 p9 p10 p11 j1 j2 j3 j4) scope [] pm cv ctv) ⟨[.ref t], []⟩ = pure [(x, .ref t)])
    (hco : scope.isCoroutine = false) (hgen : scope.isGenerator = false) (hk : scope.kind = .function) (hcell : ∀ y ∈ scope.names, y.2 ≠ .cell) (hx : scope.names.lookup x = some .local) (hdb : (x == ("__debug__" : Str)) = false) :
    CallRK X (.builtin "sorted") [Str.ofString "key"] (rSortLam q params (kbody x p1 p2 p3 p4 p5 p6 p7 p8 p9 p10 p11 j1 j2 j3 j4) scope) := by
  intro pins s σ H xs zs us ws Q I r1 r2 h
  obtain ⟨d, f, c', kvs, pm, ctv, rfl, rfl, hd, hf, hc, h64, hok, qq⟩ := h
  rw [Vals.ref1 r1, Vals.ref1 r2]
  obtain ⟨z, lo, es0, pr, o, es, ep, ho, hex, hdat, hes, nd⟩ := (show ObjOk X.prog X.w H s.heap d (.dT kvs) from I.hok d _ hd)
  have raw : s.heap.DictRaw d es ep := ⟨o, ho, hex, hdat⟩
  have hsz : es.size = es0.length := by rw [← Array.length_toList, hes, List.length_map]
  have hle : kvs.length = es0.length := Paired.length pr
  have h16 : es.size ≤ sizeLine := by rw [hsz, ← hle, sizeLine_eq]; omega
  change wpAny _ _ (call (.builtin "sorted") [.ref d] [(Str.ofString "key", .ref f)]) _ _ s
  refine call_function_entry_kw kind_sorted plain_sorted entry_sorted (PyProof.Rows.ksk_s1 _ _) ?_
  unfold Builtin.«sorted»
  refine wpAny_bind (m := checkCount "sorted" 1 1 _) (wpAny_pure ?_)
  refine wpAny_bind (PySem.W.kdu_collect (A := X.A.in1) (KdlSrc.rawDict lo) (I.ok.hd hcalm) raw h16 fun h1 tk acc hk1 hacc => ?_)
  have hacc2 : acc.toList = es0.map fun e => Value.ref e.2.1 := by
    refine List.ext_getElem? fun j => ?_
    rw [Array.getElem?_toList]
    rcases Nat.lt_or_ge j acc.size with lt | ge
    · have e1 : acc[j]? = some acc[j] := Array.getElem?_eq_getElem lt
      obtain ⟨hi, e2⟩ := hacc.2 j _ e1
      have e3 : es.toList[j]? = some es[j] := by rw [Array.getElem?_toList, Array.getElem?_eq_getElem hi]
      rw [hes, List.getElem?_map] at e3
      obtain ⟨y, hy, e4⟩ := Option.map_eq_some_iff.mp e3
      rw [e1, e2, List.getElem?_map, hy, ← e4]
      rfl
    · rw [Array.getElem?_eq_none ge, List.getElem?_eq_none (by rw [List.length_map, ← hsz, ← hacc.1]; exact ge)]
  have hal : acc.toList.length = es0.length := by rw [hacc2, List.length_map]
  refine wpAny_bind (wpAny_newList ?_ (by rw [hal, ← hle, sizeLine_eq]; omega))
  have hoL : (h1.push (seqObj "list" acc.toList.toArray 0)).get? h1.objs.size = some (seqObj "list" acc.toList.toArray 0) := Heap.get?_push_size _ rfl
  change wpAny _ _ _ _ _ { s with heap := h1.push (seqObj "list" acc.toList.toArray 0), toks := tk }
  have I1 : Inv X pins σ H { s with heap := h1, toks := tk } := I.kept hk1
  have kpush : ∀ b o, h1.get? b = some o → (h1.push (seqObj "list" acc.toList.toArray 0)).get? b = some o := fun b o e => Heap.get?_push_of_some _ e
  have I2 : Inv X pins σ H { s with heap := h1.push (seqObj "list" acc.toList.toArray 0), toks := tk } := I1.kept kpush
  have hDn : H h1.objs.size = none := I1.hok.fresh (Nat.le_refl _)
  obtain ⟨m, F⟩ := I2.fr
  have hLD : h1.objs.size ≠ X.env.locals := Nat.ne_of_gt I1.lt
  have hbD : X.base.get? h1.objs.size = none := Heap.get?_none_of_le I1.env0.bsz
  have neD : ∀ b o, h1.get? b = some o → b ≠ h1.objs.size := fun b o e => Nat.ne_of_lt (Heap.lt_size e)
  have neL : ∀ b o, H b = some o → b ≠ X.env.locals := fun b o e z => by
    rw [z, I.free] at e
    cases e
  generalize eD : h1.objs.size = D at *
  have N : News X.base X.env.locals (h1.push (seqObj "list" acc.toList.toArray 0)) (rest X.base (h1.push (seqObj "list" acc.toList.toArray 0)) X.env.locals D) := fun p hp => news_all p (List.mem_filter.mp hp).1
  refine wpAny_bind (wpAny_holding (wpAny_call_entry_kw slot_list_sort ⟨_, hoL, rfl⟩ entry_list_sort ?body (PyProof.Rows.ksk_l1 _ _)))
  case body =>
    change wpAny (model X.prog X.w) X.A.in1.in1 (Builtin.«list.sort» ⟨[.ref D], [(Str.ofString "key", .ref f)]⟩) _ _ _
    rw [PyProof.Rows.ksk_t1]
    refine PyProof.Rows.ksk_sort (kz := es0.map fun e => keyK e.1) (s := { s with heap := h1.push (seqObj "list" acc.toList.toArray 0), toks := tk }) F N hoL hLD hbD rest_ne (by rw [List.length_map, hal]) (by rw [hal, ← hle]; exact h64) ?turn fun h' tk' out c F' N' kout => ⟨_, rfl, ?fin⟩
    case turn =>
      intro i v kk hv hkk h2 tk2 own F2 N2
      have kept : ∀ b o, b ≠ X.env.locals → b ≠ D → (h1.push (seqObj "list" acc.toList.toArray 0)).get? b = some o → h2.get? b = some o := kept_of_news I2.bk F2 fun p hp => N2 p (List.mem_append_left _ hp)
      have keptT : ∀ b u o, H b = some u → h1.get? b = some o → h2.get? b = some o := fun b u o e e1 => kept b o (neL b u e) (neD b o e1) (kpush b o e1)
      rw [hacc2, List.getElem?_map] at hv
      obtain ⟨e, he, rfl⟩ := Option.map_eq_some_iff.mp hv
      rw [List.getElem?_map, he] at hkk
      have hkk : keyK e.1 = kk := Option.some.inj hkk
      have hi : i < kvs.length := by rw [hle]; exact (List.getElem?_eq_some_iff.mp he).1
      obtain ⟨e', he', h1e, h2e, _⟩ := paired_get pr (List.getElem?_eq_getElem hi)
      rw [he] at he'
      have he' := (Option.some.inj he').symm
      subst he'
      obtain ⟨a, b, ek, ha, hb0, hb⟩ := hok _ (List.getElem_mem hi)
      rw [ek] at h2e
      rw [h1e.symm.trans ek] at hkk
      have hkk : keyI a b = kk := hkk
      subst hkk
      obtain ⟨_, its, rv, o3, e3, r3⟩ := (show ObjOk X.prog X.w H s.heap _ (.tup [.int a, .int b]) from I.hok _ _ h2e)
      obtain ⟨u1, u2, rfl, ⟨ta, rfl⟩, ⟨tb, rfl⟩⟩ := vals2 rv
      have ht2 : IsTup h2 _ #[.int a ta, .int b tb] := ⟨o3, keptT _ _ _ h2e (hk1 _ _ e3), r3⟩
      have hfo : s.heap.get? f = some (PySem.W.kla_obj "<lambda>" q params (kbody x p1 p2 p3 p4 p5 p6 p7 p8 p9 p10 p11 j1 j2 j3 j4) scope [] pm c' ctv) := (I.hok f _ hf).1
      obtain ⟨⟨oc, vs, t4, hoc, hdc, hvc⟩, _, _⟩ := I.hok c' _ hc
      refine key_call (s := { s with heap := h2, toks := tk2 }) (show X.A.in1.in1.depth < recursionLimit from hr.depth) (keptT _ _ _ hf (hk1 _ _ hfo)) ⟨c', oc, vs, t4, rfl, keptT _ _ _ hc (hk1 _ _ hoc), hdc, hvc⟩ (I.mod.nolimit.keeps F2.keep) ht2 ha hb0 hb (hbind _ _ _ _) hco hgen hk hcell hx hdb fun h3 tk3 t3 kp3 => ?_
      exact ⟨h3, tk3, t3, rfl, rfl, F2.kept kp3, N2.grown kp3⟩
    case fin =>
      have kept : ∀ b o, b ≠ X.env.locals → b ≠ D → (h1.push (seqObj "list" acc.toList.toArray 0)).get? b = some o → h'.get? b = some o := kept_of_news I2.bk F' fun p hp => N' p (List.mem_cons_of_mem _ hp)
      have keep1 : ∀ b o, b ≠ X.env.locals → h1.get? b = some o → h'.get? b = some o := fun b o n e => kept b o n (neD b o e) (kpush b o e)
      obtain ⟨ps, hperm, hout, hsorted⟩ := kout
      have ezip : (es0.map fun e => keyK e.1).zip acc.toList = es0.map fun e => (keyK e.1, Value.ref e.2.1) := by
        rw [hacc2, zip_maps]
      rw [ezip] at hperm
      obtain ⟨ys0, hp0, rfl⟩ := perm_map_inv hperm
      have hout : out.toList = ys0.map fun e => Value.ref e.2.1 := by rw [hout, List.map_map]; rfl
      have hD' : h'.get? D = some (seqObj "list" out c) := (N' _ List.mem_cons_self).1
      have hlen : (ys0.map fun e => V.ref e.2.1).length ≤ sizeLine := by
        rw [List.length_map, hp0.length_eq, ← hle, sizeLine_eq]
        omega
      have nD : ∀ b u, H b = some u → b ≠ D := fun b u e => ne_of_none e hDn
      have J : Inv X pins σ (upd H D (.lst (ys0.map fun e => V.ref e.2.1))) { ({ s with heap := h1, toks := tk } : Shared) with heap := h', gens := s.gens, drawn := s.drawn, toks := tk' } := by
        refine I1.step (g' := s.gens) (d' := s.drawn) (t' := tk') (ch := []) (fun _ z => nomatch z) (fun b o nL _ _ e _ => keep1 b o nL e) (fun b o nL _ _ e _ => ⟨o.slots, keep1 b o nL e⟩) (fun b o _ e n => by rw [upd_ne (neD b o e)]; exact n)
          (fun b o _ e => ?_) (fun b xs e => by rw [upd_ne (nD b _ e)]; exact e) (fun b o u e => by rw [upd_ne (nD b _ e)]; exact e) (fun b ps e => ⟨#[], by rw [upd_ne (nD b _ e), e]; simp⟩) (fun m' hm => ?_) (fun b u e => ?_) I1.bare
        · by_cases hb : b = X.env.locals
          · obtain ⟨o', _, _, e', _⟩ := F'.ns
            exact ⟨o', by rw [hb]; exact e'⟩
          · exact ⟨o, keep1 b o hb e⟩
        · have hm2 : (h1.push (seqObj "list" acc.toList.toArray 0)).Ns X.env.locals m' := by
            obtain ⟨o', es', ep', e', r'⟩ := hm
            exact ⟨o', es', ep', kpush _ _ e', r'⟩
          rw [SlX.ns_only hm2 F.ns]
          exact F'.ns
        · by_cases hb : b = D
          · subst hb
            rw [upd_same] at e
            cases e
            refine ⟨hlen, ys0.map fun e => Value.ref e.2.1, c, vals_refs _ ys0, ?_⟩
            rw [hD', ← hout]
          · rw [upd_ne hb] at e
            refine (I1.hok b u e).stay (fun b' v hb' e' => keep1 b' v ?_ e') (fun b' e' => by rw [upd_ne (nD b' _ e')]; exact e') (fun b' xs e' => by rw [upd_ne (nD b' _ e')]; exact e')
            rcases hb' with rfl | hb'
            · exact neL _ _ e
            · exact neL _ _ hb'
      refine wpAny_pure ⟨_, rfl, .ref D, _, J, rfl, ?_⟩
      have fin := qq (ys0.map fun e => (e.1, e.2.1)) D ?_ ?_ ?_ hDn
      · rw [List.map_map] at fin
        exact fin
      · rw [List.map_map]
        have e1 : kvs.map (·.1) = es0.map (·.1) := paired_map pr fun a b z => z.1
        rw [e1]
        exact hp0.map _
      · intro y hy
        obtain ⟨e, he, rfl⟩ := List.mem_map.mp hy
        obtain ⟨kv, _, z1, z2, _⟩ := paired_mem pr e (hp0.mem_iff.mp he)
        rw [z1] at z2
        exact z2
      · rw [List.pairwise_map] at hsorted ⊢
        exact hsorted.imp fun {a b} z => by simpa using z
end
end Nr
namespace Nr
open PySem PySem.Spec PyProof.Rows L2 Evl
open LamX (TabS TabB CodeO ExtN)

/-- a lambda that captures nothing, as a value: its code object is made once, and told by the table at P -/
def tLamV (P : Addr) (q : Str) (params : Arguments) (body : Expr) (scope : Scope) : TE := fun σ H Q => TabS H P q ∧ ∀ (f c' : Addr) (pm ctv : Value) (G : Hp), ExtN H G → TabS G P q → G f = none → G c' = some (CodeO c' q) →
  Q (.ref f) (upd G f (LamO f (PySem.W.kla_obj "<lambda>" q params body scope [] pm c' ctv)))
theorem pe_lam {X : Cx} {c P : Addr} {params : Arguments} {body : Expr} {scope : Scope} {pos : Pos} (TB : TabB X.base X.mg c P) (hcode : X.env.code = .ref c) (hdef : defaultsOf params X.env = ([], [])) (hclo : closureFor scope X.env = pure []) :
    PE X (.Lambda params body scope pos) (tLamV P (X.env.qual ++ "<lambda>") params body scope) := by
  refine ⟨fun pins s σ H Q I h => ?_⟩
  obtain ⟨⟨ps, hP, ht, told⟩, h⟩ := h
  refine PySem.W.kla_eval hdef ?_
  have hPo : s.heap.get? P = some { cls := .none, data := .fields ps } := I.hok P _ hP
  cases hcm : codeAmong pos ps.toList with
  | none =>
    refine PySem.W.kla_makeFunction (mg := X.mg) (c := c) (P := P) (ps := ps) hclo I.ok.glob (I.mod.glob.keeps I.bk) hcode (TB.code.keeps I.bk) hPo ht hcm TB.gP (TB.bm.keeps I.bk) fun c' ctv h' tk kept hge hlt hrec htab => ?_
    obtain ⟨c2, oc, vs, t, e2, hoc, hdc, hvc⟩ := hrec
    cases e2
    have nC : H c' = none := I.hok.fresh hge
    have nPc : P ≠ c' := ne_of_none hP nC
    have J := LamX.inv_table (t' := tk) (q := X.env.qual ++ "<lambda>") (more := #[rawInt pos.line, rawInt pos.col, .ref c']) I hP kept htab hge ⟨oc, vs, t, hoc, hdc, hvc⟩
    have hE : ExtN H (upd (upd H P (.tbl (ps ++ #[rawInt pos.line, rawInt pos.col, .ref c']))) c' (CodeO c' (X.env.qual ++ "<lambda>"))) := fun b o e n => by
      have hbP : b ≠ P := fun z => n ps (by rw [z, hP] at e; exact (Option.some.inj e).symm)
      rw [upd_ne (ne_of_none e nC), upd_ne hbP]
      exact e
    have hTab : TabS (upd (upd H P (.tbl (ps ++ #[rawInt pos.line, rawInt pos.col, .ref c']))) c' (CodeO c' (X.env.qual ++ "<lambda>"))) P (X.env.qual ++ "<lambda>") := by
      have eL : (ps ++ #[rawInt pos.line, rawInt pos.col, .ref c']).toList = ps.toList ++ [rawInt pos.line, rawInt pos.col, .ref c'] := by simp
      refine ⟨_, by rw [upd_ne nPc, upd_same], by rw [eL]; exact PySem.TriplesOk_snoc _ _ _ _ ht, fun p' cv hcv => ?_⟩
      rw [eL] at hcv
      rcases LamX.among_app _ ht hcv with z | z
      · obtain ⟨c0, e1, e2⟩ := told p' cv z
        exact ⟨c0, e1, hE _ _ e2 LamX.codeO_ne⟩
      · exact ⟨c', z, upd_same⟩
    have hGc := upd_same (H := upd H P (.tbl (ps ++ #[rawInt pos.line, rawInt pos.col, .ref c']))) (a := c') (o := CodeO c' (X.env.qual ++ "<lambda>"))
    generalize upd (upd H P (.tbl (ps ++ #[rawInt pos.line, rawInt pos.col, .ref c']))) c' (CodeO c' (X.env.qual ++ "<lambda>")) = G at J hE hTab hGc
    have hfn : G h'.objs.size = none := J.hok.fresh (Nat.le_refl _)
    refine ⟨.ref h'.objs.size, _, J.laid (t' := tk) (fun b o e => Heap.get?_push_of_some _ e) (Nat.le_refl _) (lamO_ok (Heap.get?_push_size _ rfl)), rfl, h _ c' _ ctv G hE hTab hfn hGc⟩
  | some cv =>
    obtain ⟨c', rfl, hco⟩ := told pos cv hcm
    refine PySem.W.kla_makeFunctionHit (mg := X.mg) (c := c) (P := P) (ps := ps) hclo I.ok.glob (I.mod.glob.keeps I.bk) hcode (TB.code.keeps I.bk) hPo ht hcm (TB.bm.keeps I.bk) fun ctv h' tk kept hsz => ?_
    have J : Inv X pins σ H { s with heap := h', toks := tk } := I.kept kept
    refine ⟨.ref h'.objs.size, _, J.laid (t' := tk) (fun b o e => Heap.get?_push_of_some _ e) (Nat.le_refl _) (lamO_ok (Heap.get?_push_size _ rfl)), rfl, h _ c' _ ctv H (ExtN.refl H) ⟨ps, hP, ht, told⟩ (J.hok.fresh (Nat.le_refl _)) hco⟩
end Nr
namespace Nr
open PySem PySem.Spec PyProof.Rows L2 Evl
open LamX (TabS TabB CodeO ExtN)

/-! {k: v}, k a pair -/
def tDisp1 (tk tv : TE) : TE := fun σ H Q => ∀ p, H p = none → tk σ (upd H p (.dT [])) fun x H1 => tv σ H1 fun y H2 => H2 p = some (.dT []) ∧ ∃ b k, x = .ref b ∧ H2 b = some (.tup (k.map kV)) ∧ Q (.ref p) (upd H2 p (.dT (putK [] k y)))
section
variable {X : Cx} {k v : Expr} {pos : Pos} {tk tv : TE}
theorem pe_disp1 (hu : X.A.units + 1 < cLine) (hk : PE X k tk) (hv : PE X v tv) : PE X (.Dict [some k] [v] pos) (tDisp1 tk tv) := by
  refine ⟨fun pins s σ H Q I q => ?_⟩
  have hn := I.hok.fresh (Nat.le_refl s.heap.objs.size)
  have I1 := I.laid (a := s.heap.objs.size) (o := .dT []) (h' := s.heap.push { cls := .type "dict", data := .dict #[] }) (t' := s.toks) (fun _ _ q => Heap.get?_push_of_some _ q) (Nat.le_refl _) (dt_empty s.heap I.big)
  have hp : (evalEachOpt [some k] X.env).zip ((evalEach [v] X.env).map fun v => do let x ← v; standAt pos; pure x) = (pairTrees [some k] [v] X.env pos).map fun p => (some p.1, p.2) := zip_pairTrees _ _ _ _ rfl rfl
  rw [arm_eval_Dict, hp, dictDisplay_pairs _ (by simp [pairTrees]) (by simp [pairTrees])]
  refine wpAny_bind (wpAny_standAt (wpAny_bind ?_))
  unfold subDict
  refine wpAny_bind (wpAny_alloc ?_)
  refine wpAny_bind (wpAny_holding ?_)
  rw [if_pos (show (pairTrees [some k] [v] X.env pos).length ≤ 15 from by simp [pairTrees])]
  refine wpAny_bind (pairTrees_cons_walk (thn (hk.run pins _ σ _ _ I1 (q _ hn)) fun u s1 ⟨x, H1, I2, rx, q1⟩ => thn (hv.run pins s1 σ H1 _ I2 q1) fun r s2 ⟨y, H2, I3, ry, hD, b, kk, ex, eb, q2⟩ => pairTrees_nil_walk ?_))
  subst ex
  cases (show u = Value.ref b from rx)
  obtain ⟨z, hd, xs, rel, dd⟩ := dt_of I3.hok hD
  cases rel
  refine wpAny_holding ?_
  rw [List.forIn_cons]
  refine wpAny_bind (wpAny_bind (wpAny_bind (wpAny_dictSet_heap (hsz := Nat.zero_le _) (Nat.lt_of_le_of_lt (Nat.le_succ _) hu) (key_of I3.hok eb) dd fun h' dd' hs => ?_)))
  refine wpAny_pure ?_
  dsimp only
  rw [List.forIn_nil]
  refine wpAny_pure (wpAny_pure (wpAny_pure (wpAny_pure ⟨.ref s.heap.objs.size, _, ?_, rfl, q2⟩)))
  obtain ⟨o, es, ep, hq, h2, h3, h4, _, h5⟩ := dd'
  refine d_write I3 (by rw [hD]; exact True.intro) hs ⟨o, hq⟩ ⟨by show (putK [] kk y).length ≤ sizeLine; exact Nat.le_trans (length_putK [] kk y) (by decide), hd, _, (KT.put (H := H2) (kvs := []) (xs := []) .nil kk eb ry).keeps fun c ys ec => ?_, o, es, ep, hq, h2, h3, h4, h5⟩
  rw [upd_ne (ne_of ec hD (fun z => nomatch z))]
  exact ec
end
end Nr
namespace Nr
open PySem PySem.Spec PyProof.Rows L2 Evl
open LamX (TabS TabB CodeO ExtN)

/-! the angles at which a cell begins, in lowest terms -/
abbrev lowP (a b : Nat) : Nat × Nat := (a / Nat.gcd a b, b / Nat.gcd a b)
def rowB (q : Nat × Nat) (j : Nat) : List (Nat × Nat) := ((List.range j).filter (inRow q.1 q.2)).map (fun p => lowP (2 * p - q.1) q.2)
def rawB (n : Nat) (rws : List (Nat × Nat)) : List (Nat × Nat) := (rws.map (fun q => rowB q (n + 1))).flatten
theorem rowB_yes {q : Nat × Nat} {j : Nat} (h : inRow q.1 q.2 j = true) : rowB q (j + 1) = rowB q j ++ [lowP (2 * j - q.1) q.2] := by
  unfold rowB
  rw [List.range_succ, List.filter_append, List.map_append, List.filter_cons, if_pos h]
  rfl
theorem rowB_no {q : Nat × Nat} {j : Nat} (h : inRow q.1 q.2 j = false) : rowB q (j + 1) = rowB q j := by
  unfold rowB
  rw [List.range_succ, List.filter_append, List.map_append, List.filter_cons, if_neg (by rw [h]; decide)]
  simp
theorem rowB_len {whole : Nat} (q : Nat × Nat) (j : Nat) : (rowB q j).length = (rowPre whole q j).length := by
  unfold rowB rowPre
  rw [List.length_map, List.length_map]
theorem rawB_snoc {n : Nat} {rws : List (Nat × Nat)} {q : Nat × Nat} : rawB n (rws ++ [q]) = rawB n rws ++ rowB q (n + 1) := by
  unfold rawB
  rw [List.map_append, List.flatten_append]
  simp
theorem rawB_len {n whole : Nat} : ∀ rws : List (Nat × Nat), (rawB n rws).length = (rawM n whole rws).length
  | [] => rfl
  | q :: l => by
    have ih := rawB_len (n := n) (whole := whole) l
    unfold rawB rawM at ih ⊢
    rw [List.map_cons, List.map_cons, List.flatten_cons, List.flatten_cons, List.length_append, List.length_append, ih, rowB_len (whole := whole)]
theorem lowP_scale {x l m : Nat} (hl : 0 < l) (hm : 0 < m) : lowP (x * m) (l * m) = lowP x l := by
  unfold lowP
  have hg : 0 < Nat.gcd x l := Nat.gcd_pos_of_pos_right _ hl
  rw [Nat.gcd_mul_right, Nat.mul_div_mul_right _ _ hm, Nat.mul_div_mul_right _ _ hm]
theorem foldl_dvd : ∀ (l : List Nat) (m : Nat), m ∣ l.foldl (fun m n => m * n / Nat.gcd m n) m
  | [], m => Nat.dvd_refl m
  | x :: l, m => Nat.dvd_trans (Nat.dvd_lcm_left m x) (foldl_dvd l (m * x / Nat.gcd m x))
theorem foldl_mem_dvd : ∀ (l : List Nat) (m x : Nat), x ∈ l → x ∣ l.foldl (fun m n => m * n / Nat.gcd m n) m
  | [], _, _, h => by cases h
  | y :: l, m, x, h => by
    rcases List.mem_cons.mp h with rfl | h
    · exact Nat.dvd_trans (Nat.dvd_lcm_right m x) (foldl_dvd l (m * x / Nat.gcd m x))
    · exact foldl_mem_dvd l _ x h
theorem turnsF_pos : ∀ (f M b l h : Nat), 0 < l → ∀ q ∈ turnsF f M b l h, 0 < q.2
  | 0, _, _, _, _, _, q, hq => by simp [turnsF] at hq
  | f + 1, M, b, l, h, hl, q, hq => by
    rw [turnsF] at hq
    split at hq
    · rcases List.mem_cons.mp hq with rfl | hq
      · exact hl
      · exact turnsF_pos f M _ _ _ (by omega) q hq
    · cases hq
theorem whole_dvd {n g h : Nat} {q : Nat × Nat} (hq : q ∈ turnsM n g h) : q.2 ∣ wholeM n g h :=
  foldl_mem_dvd _ _ _ (List.mem_map.mpr ⟨q, hq, rfl⟩)
theorem whole_pos {n g h : Nat} (hg : 0 < g) : 0 < wholeM n g h := lcm_pos _ _ (by decide) fun x hx => by
  obtain ⟨q, hq, rfl⟩ := List.mem_map.mp hx
  exact turnsF_pos _ _ _ _ _ hg q hq
def brkM (n g h : Nat) : List (Nat × Nat) := (topsM n g h).map fun t => lowP t (wholeM n g h)
theorem mem_rawB {n : Nat} {rws : List (Nat × Nat)} {p : Nat × Nat} : p ∈ rawB n rws ↔ ∃ q ∈ rws, ∃ c, c < n + 1 ∧ inRow q.1 q.2 c = true ∧ p = lowP (2 * c - q.1) q.2 := by
  unfold rawB rowB
  rw [List.mem_flatten]
  constructor
  · rintro ⟨l, hl, hp⟩
    obtain ⟨q, hq, rfl⟩ := List.mem_map.mp hl
    obtain ⟨c, hc, rfl⟩ := List.mem_map.mp hp
    obtain ⟨h1, h2⟩ := List.mem_filter.mp hc
    exact ⟨q, hq, c, List.mem_range.mp h1, h2, rfl⟩
  · rintro ⟨q, hq, c, h1, h2, rfl⟩
    exact ⟨_, List.mem_map.mpr ⟨q, hq, rfl⟩, List.mem_map.mpr ⟨c, List.mem_filter.mpr ⟨List.mem_range.mpr h1, h2⟩, rfl⟩⟩
theorem mem_rawM {n whole : Nat} {rws : List (Nat × Nat)} {p : Nat} : p ∈ rawM n whole rws ↔ ∃ q ∈ rws, ∃ c, c < n + 1 ∧ inRow q.1 q.2 c = true ∧ p = (2 * c - q.1) * (whole / q.2) := by
  unfold rawM rowPre
  rw [List.mem_flatten]
  constructor
  · rintro ⟨l, hl, hp⟩
    obtain ⟨q, hq, rfl⟩ := List.mem_map.mp hl
    obtain ⟨c, hc, rfl⟩ := List.mem_map.mp hp
    obtain ⟨h1, h2⟩ := List.mem_filter.mp hc
    exact ⟨q, hq, c, List.mem_range.mp h1, h2, rfl⟩
  · rintro ⟨q, hq, c, h1, h2, rfl⟩
    exact ⟨_, List.mem_map.mpr ⟨q, hq, rfl⟩, List.mem_map.mpr ⟨c, List.mem_filter.mpr ⟨List.mem_range.mpr h1, h2⟩, rfl⟩⟩
theorem low_same {n g h : Nat} (hg : 0 < g) {q : Nat × Nat} (hq : q ∈ turnsM n g h) (x : Nat) : lowP (x * (wholeM n g h / q.2)) (wholeM n g h) = lowP x q.2 := by
  have hq0 : 0 < q.2 := turnsF_pos _ _ _ _ _ hg q hq
  obtain ⟨m, hm⟩ := whole_dvd hq
  have hw := whole_pos (n := n) (h := h) hg
  have hm0 : 0 < m := by
    rcases Nat.eq_zero_or_pos m with z | z
    · rw [z, Nat.mul_zero] at hm; omega
    · exact z
  rw [hm, Nat.mul_div_cancel_left _ hq0]
  exact lowP_scale hq0 hm0
theorem mem_brk {n g h : Nat} (hg : 0 < g) {p : Nat × Nat} : p ∈ brkM n g h ↔ p ∈ (0, 1) :: rawB n (turnsM n g h) := by
  have hw := whole_pos (n := n) (h := h) hg
  have h0 : lowP 0 (wholeM n g h) = (0, 1) := by
    unfold lowP
    rw [Nat.gcd_zero_left, Nat.zero_div, Nat.div_self hw]
  unfold brkM
  rw [List.mem_map, List.mem_cons, mem_rawB]
  constructor
  · rintro ⟨t, ht, rfl⟩
    rcases List.mem_cons.mp ((sortU_mem _ _).mp ht) with rfl | ht
    · exact .inl h0
    · obtain ⟨q, hq, c, h1, h2, rfl⟩ := mem_rawM.mp ht
      exact .inr ⟨q, hq, c, h1, h2, low_same hg hq _⟩
  · rintro (rfl | ⟨q, hq, c, h1, h2, rfl⟩)
    · exact ⟨0, (sortU_mem _ _).mpr List.mem_cons_self, h0⟩
    · exact ⟨_, (sortU_mem _ _).mpr (List.mem_cons_of_mem _ (mem_rawM.mpr ⟨q, hq, c, h1, h2, rfl⟩)), low_same hg hq _⟩
theorem key_low {t W : Nat} (hW : 0 < W) : keyI ((lowP t W).1 : Nat) ((lowP t W).2 : Nat) = ((t * 1000000000 / W : Nat) : Int) := by
  unfold keyI lowP
  have hg : 0 < Nat.gcd t W := Nat.gcd_pos_of_pos_right _ hW
  obtain ⟨a, ha⟩ := Nat.gcd_dvd_left t W
  obtain ⟨b, hb⟩ := Nat.gcd_dvd_right t W
  have e1 : t / Nat.gcd t W = a := by
    rw [Nat.div_eq_iff_eq_mul_left hg (Nat.gcd_dvd_left t W), Nat.mul_comm]; exact ha
  have e2 : W / Nat.gcd t W = b := by
    rw [Nat.div_eq_iff_eq_mul_left hg (Nat.gcd_dvd_right t W), Nat.mul_comm]; exact hb
  have e3 : t * 1000000000 / W = a * 1000000000 / b := by
    have h1 : t * 1000000000 = Nat.gcd t W * (a * 1000000000) := by rw [← Nat.mul_assoc, ← ha]
    have h2 : t * 1000000000 / W = Nat.gcd t W * (a * 1000000000) / (Nat.gcd t W * b) := by rw [← h1, ← hb]
    rw [h2, Nat.mul_div_mul_left _ _ hg]
  rw [e1, e2, e3, Int.natCast_ediv, Int.natCast_mul]
  rfl
theorem key_up {n g h : Nat} (hn : n ≤ 24) (hg : 4 ≤ g) (hg2 : g ≤ 16) (hh : h ≤ 8) : (brkM n g h).Pairwise fun u v => keyI (u.1 : Nat) (u.2 : Nat) < keyI (v.1 : Nat) (v.2 : Nat) := by
  have hw := whole_pos (n := n) (g := g) (h := h) (by omega)
  have hw6 := (ok_at6 hn hg hg2 hh).1
  unfold brkM
  rw [List.pairwise_map]
  refine (sortU_up _).imp fun {a b} lt => ?_
  rw [key_low hw, key_low hw]
  have h1 : a * 1000000000 + wholeM n g h ≤ b * 1000000000 := by omega
  have h2 : a * 1000000000 / wholeM n g h + 1 ≤ b * 1000000000 / wholeM n g h := by
    rw [← Nat.add_div_right _ hw]
    exact Nat.div_le_div_right h1
  omega
/-- two lists of the same members, the one rising by a key, the other too -/
theorem sorted_key {α : Type} {key : α → Int} : ∀ {l m : List α}, l.Perm m → l.Pairwise (fun u v => key u ≤ key v) → m.Pairwise (fun u v => key u < key v) → l = m
  | [], m, h, _, _ => h.symm.eq_nil.symm
  | x :: l, m, h, s1, s2 => by
    cases m with
    | nil => exact h.eq_nil
    | cons y m =>
      have p1 := List.pairwise_cons.mp s1
      have p2 := List.pairwise_cons.mp s2
      have e : x = y := by
        rcases List.mem_cons.mp (h.mem_iff.mp List.mem_cons_self) with e | hx
        · exact e
        · rcases List.mem_cons.mp (h.symm.mem_iff.mp List.mem_cons_self) with e | hy
          · exact e.symm
          · have a := p1.1 y hy
            have b := p2.1 x hx
            omega
      subst e
      rw [sorted_key (List.Perm.cons_inv h) p1.2 p2.2]
theorem nodup_of_key {α : Type} {key : α → Int} {m : List α} (h : m.Pairwise (fun u v => key u < key v)) : m.Nodup := h.imp fun {a b} lt e => by
  subst e
  omega
theorem perm_of_mem {α : Type} {l m : List α} (h1 : l.Nodup) (h2 : m.Nodup) (h : ∀ x, x ∈ l ↔ x ∈ m) : l.Perm m := (List.perm_ext_iff_of_nodup h1 h2).mpr h
abbrev pk (p : Nat × Nat) : List Key := [.inl (p.1 : Int), .inl (p.2 : Int)]
theorem pk_inj {p q : Nat × Nat} (h : pk p = pk q) : p = q := by
  injection h with h1 h2
  injection h2 with h2 _
  injection h1 with h1
  injection h2 with h2
  exact Prod.ext (Int.ofNat.inj h1) (Int.ofNat.inj h2)
open Classical in
theorem putK_keys {kvs : List (List Key × V)} {k : List Key} {v : V} : (putK kvs k v).map (·.1) = if k ∈ kvs.map (·.1) then kvs.map (·.1) else kvs.map (·.1) ++ [k] := by
  unfold putK
  have e : (kvs.any fun kv => decide (kv.1 = k)) = true ↔ k ∈ kvs.map (·.1) := by
    rw [List.any_eq_true, List.mem_map]
    constructor
    · rintro ⟨x, hx, hk⟩
      exact ⟨x, hx, of_decide_eq_true hk⟩
    · rintro ⟨x, hx, hk⟩
      exact ⟨x, hx, decide_eq_true hk⟩
  by_cases h : k ∈ kvs.map (·.1)
  · rw [if_pos (e.mpr h), if_pos h, List.map_map]
    refine List.map_congr_left fun x _ => ?_
    show (if x.1 = k then (x.1, v) else x).1 = x.1
    split <;> rfl
  · rw [if_neg (fun z => h (e.mp z)), if_neg h, List.map_append]
    rfl
/-- what stands in the dict: the members of S -/
structure Brk (kvs : List (List Key × V)) (S : List (Nat × Nat)) : Prop where
  nd : (kvs.map (·.1)).Nodup
  mem : ∀ k, k ∈ kvs.map (·.1) ↔ ∃ p ∈ S, k = pk p
  len : kvs.length ≤ S.length
theorem Brk.put {kvs : List (List Key × V)} {S : List (Nat × Nat)} {p : Nat × Nat} {v : V} (b : Brk kvs S) : Brk (putK kvs (pk p) v) (S ++ [p]) := by
  refine ⟨?_, fun k => ?_, ?_⟩
  · rw [putK_keys]
    split
    · exact b.nd
    · rename_i h
      refine List.nodup_append.mpr ⟨b.nd, by simp, fun x hx y hy => ?_⟩
      rw [List.mem_singleton.mp hy]
      exact fun e => h (e ▸ hx)
  · rw [putK_keys]
    constructor
    · intro hk
      have : k ∈ kvs.map (·.1) ∨ k = pk p := by
        split at hk
        · exact .inl hk
        · rcases List.mem_append.mp hk with h | h
          · exact .inl h
          · exact .inr (List.mem_singleton.mp h)
      rcases this with h | h
      · obtain ⟨q, hq, e⟩ := (b.mem k).mp h
        exact ⟨q, List.mem_append_left _ hq, e⟩
      · exact ⟨p, List.mem_append_right _ (List.mem_singleton.mpr rfl), h⟩
    · rintro ⟨q, hq, rfl⟩
      rcases List.mem_append.mp hq with hq | hq
      · have := (b.mem (pk q)).mpr ⟨q, hq, rfl⟩
        split
        · exact this
        · exact List.mem_append_left _ this
      · rw [List.mem_singleton.mp hq]
        split
        · assumption
        · exact List.mem_append_right _ (List.mem_singleton.mpr rfl)
  · have := length_putK kvs (pk p) v
    have := b.len
    rw [List.length_append, List.length_cons, List.length_nil]
    omega
theorem brk_one {v : V} : Brk (putK [] (pk (0, 1)) v) [(0, 1)] := by
  have : Brk ([] : List (List Key × V)) [] := ⟨.nil, fun k => by simp, Nat.le_refl _⟩
  exact this.put
theorem brk_sorted {n g h : Nat} (hn : n ≤ 24) (hg : 4 ≤ g) (hg2 : g ≤ 16) (hh : h ≤ 8) {kvs : List (List Key × V)} (b : Brk kvs ((0, 1) :: rawB n (turnsM n g h))) {ys : List (List Key × Addr)} (hp : (ys.map (·.1)).Perm (kvs.map (·.1)))
    (hs : ys.Pairwise fun u v => keyK u.1 ≤ keyK v.1) : ys.map (·.1) = (brkM n g h).map pk := by
  have up := key_up hn hg hg2 hh
  refine sorted_key (key := keyK) (hp.trans (perm_of_mem b.nd ?_ fun k => ?_)) (List.pairwise_map.mpr hs) ?_
  · refine List.pairwise_map.mpr ((nodup_of_key (key := fun p : Nat × Nat => keyI (p.1 : Nat) (p.2 : Nat)) up).imp fun {a b} ne e => ne (pk_inj e))
  · rw [b.mem k, List.mem_map]
    constructor
    · rintro ⟨p, h1, rfl⟩
      exact ⟨p, (mem_brk (by omega)).mpr h1, rfl⟩
    · rintro ⟨p, h1, rfl⟩
      exact ⟨p, (mem_brk (by omega)).mp h1, rfl⟩
  · exact List.pairwise_map.mpr up
end Nr
namespace Nr
open PySem PySem.Spec PyProof.Rows L2 Evl
open LamX (TabS TabB CodeO ExtN)

/-! what stays where all but the tables stays -/
section
variable {K : PySem.W.Frag} {H H' : Hp}
theorem exn_t {a : Addr} {xs : List V} (e : ExtN H H') (h : SqT K H a xs) : SqT K H' a xs := by
  rcases h with (h | ⟨o, h⟩) | h
  · exact .inl (.inl (e _ _ h (fun _ z => by cases z)))
  · exact .inl (.inr ⟨o, e _ _ h (fun _ z => by cases z)⟩)
  · exact .inr h
theorem exn_l {a : Addr} {xs : List V} (e : ExtN H H') (h : SqL K H a xs) : SqL K H' a xs := by
  rcases h with (h | ⟨o, h⟩) | h
  · exact .inl (.inl (e _ _ h (fun _ z => by cases z)))
  · exact .inl (.inr ⟨o, e _ _ h (fun _ z => by cases z)⟩)
  · exact .inr h
mutual
theorem dp_exN (e : ExtN H H') : ∀ (d : PyData) (v : V), Dp K H v d → Dp K H' v d
  | .none, _, h => by cases h; exact .non
  | .bool b, _, h => by cases h; exact .bl b
  | .int i, _, h => by cases h; exact .int i
  | .str x, _, h => by cases h; exact .str x
  | .list ds, _, h => by
    cases h with
    | lst hs ha => exact .lst (exn_l e hs) (dpa_exN e ds _ ha)
  | .tuple ds, _, h => by
    cases h with
    | tup hs ha => exact .tup (exn_t e hs) (dpa_exN e ds _ ha)
  | .dict _, _, h => by cases h
theorem dpa_exN (e : ExtN H H') : ∀ (ds : List PyData) (vs : List V), DpAll K H vs ds → DpAll K H' vs ds
  | [], _, h => by cases h; exact .nil
  | d :: ds, _, h => by
    cases h with
    | cons h1 h2 => exact .cons (dp_exN e d _ h1) (dpa_exN e ds _ h2)
end
theorem exn_of (e : Ex H H') : ExtN H H' := fun b o h _ => e b o h
theorem dpa_keys : ∀ {ys : List (List Key × Addr)} {bs : List (Nat × Nat)}, ys.map (·.1) = bs.map pk → (∀ y ∈ ys, H y.2 = some (.tup (y.1.map kV))) → DpAll K H (ys.map fun y => V.ref y.2) (bs.map td)
  | [], [], _, _ => .nil
  | [], _ :: _, e, _ => by simp at e
  | _ :: _, [], e, _ => by simp at e
  | y :: ys, b :: bs, e, h => by
    rw [List.map_cons, List.map_cons] at e
    injection e with e1 e2
    have h1 := h y List.mem_cons_self
    rw [e1] at h1
    exact .cons (.tup (st_of h1) (.cons (.int _) (.cons (.int _) .nil))) (dpa_keys e2 fun z hz => h z (List.mem_cons_of_mem _ hz))
end
theorem tops_lt {n g h t : Nat} (hg : 0 < g) (ht : t ∈ topsM n g h) : t < wholeM n g h := by
  have hw := whole_pos (n := n) (h := h) hg
  rcases List.mem_cons.mp ((sortU_mem _ _).mp ht) with rfl | ht
  · exact hw
  · obtain ⟨q, hq, c, h1, h2, rfl⟩ := mem_rawM.mp ht
    have hq0 : 0 < q.2 := turnsF_pos _ _ _ _ _ hg q hq
    have hd := Nat.div_pos (Nat.le_of_dvd hw (whole_dvd hq)) hq0
    have hlt : 2 * c - q.1 < q.2 := by
      unfold inRow at h2
      rw [Bool.and_eq_true, decide_eq_true_eq, decide_eq_true_eq] at h2
      omega
    have h3 : (2 * c - q.1) * (wholeM n g h / q.2) < q.2 * (wholeM n g h / q.2) := Nat.mul_lt_mul_of_pos_right hlt hd
    have h4 := Nat.mul_div_le (wholeM n g h) q.2
    omega
theorem rawB_le {n : Nat} : ∀ rws : List (Nat × Nat), (rawB n rws).length ≤ rws.length * (n + 1)
  | [] => Nat.zero_le _
  | q :: l => by
    have ih := rawB_le (n := n) l
    have : (rowB q (n + 1)).length ≤ n + 1 := by
      unfold rowB
      rw [List.length_map]
      exact Nat.le_trans (List.length_filter_le _ _) (by rw [List.length_range]; exact Nat.le_refl _)
    unfold rawB at ih ⊢
    rw [List.map_cons, List.flatten_cons, List.length_append, List.length_cons, Nat.add_mul, Nat.one_mul]
    omega
theorem rowB_le (q : Nat × Nat) (j : Nat) : (rowB q j).length ≤ j := by
  unfold rowB
  rw [List.length_map]
  exact Nat.le_trans (List.length_filter_le _ _) (by rw [List.length_range]; exact Nat.le_refl _)

/-- sorted(e, key=lambda x: x[0] * 10 ** 9 // x[1]) -/
theorem pe_sortLam {X : Cx} {x : Str} {params : Arguments} {scope : Scope} {p1 p2 p3 p4 p5 p6 p7 p8 p9 p10 p11 lpos kpos pos p : Pos} {j1 j2 j3 j4 k : Nat} {e : Expr} {ta : TA} {c T : Addr} (hr : Room k X.A) (hcalm : X.calm = true) (hg : Gl X "sorted") (ms : X.mg "sorted" = none) (ha : PA X [e] ta)
    (TB : TabB X.base X.mg c T) (hcode : X.env.code = .ref c)
    (hdef : defaultsOf params X.env = ([], []) := by rfl) (hclo : closureFor scope X.env = pure [] := by rfl)
    (hbind : ∀ (q : Str) (pm cv ctv : Value) (t : Addr), bindArgs (PySem.W.kla_fn "<lambda>" q params (kbody x p1 p2 p3 p4 p5 p6 p7 p8 p9 p10 p11 j1 j2 j3 j4) scope [] pm cv ctv) ⟨[.ref t], []⟩ = pure [(x, .ref t)] := by intros; rfl)
    (hco : scope.isCoroutine = false := by rfl) (hgen : scope.isGenerator = false := by rfl) (hk : scope.kind = .function := by rfl) (hcell : ∀ y ∈ scope.names, y.2 ≠ .cell := by decide) (hx : scope.names.lookup x = some .local := by rfl) (hdb : (x == ("__debug__" : Str)) = false := by decide)
    (hst : backTo pos (starEach [e] X.env) = (false, eval e X.env) :: backTo pos (starEach [] X.env) := by rfl) (hpl : (backTo pos (starEach [e] X.env)).any (·.1) = false := by rfl) :
    PE X (.Call (.Name "sorted" p) [e] [⟨some "key", .Lambda params (kbody x p1 p2 p3 p4 p5 p6 p7 p8 p9 p10 p11 j1 j2 j3 j4) scope lpos, kpos⟩] pos)
      (tCKw (rSortLam (X.env.qual ++ "<lambda>") params (kbody x p1 p2 p3 p4 p5 p6 p7 p8 p9 p10 p11 j1 j2 j3 j4) scope) ta (tCons (tLamV T (X.env.qual ++ "<lambda>") params (kbody x p1 p2 p3 p4 p5 p6 p7 p8 p9 p10 p11 j1 j2 j3 j4) scope) tNil)) :=
  pe_callBK (cr_sortLam hr hcalm (fun pm cv ctv t => hbind _ pm cv ctv t) hco hgen hk hcell hx hdb) hg ms boot_sorted ha (pk_cons (pe_lam TB hcode hdef hclo) pk_nil) (by decide) (by decide) hst hpl

/-- a def whose code object stands at c -/
structure FunC (K : PySem.W.Frag) (x qual : Str) (st : Stmt) (f c : Addr) (fd : FuncData) : Prop where
  ex : ∃ (oc : Value) (od : Option Addr) (kV doc pm : Value) (an : Option Addr) (ct : Value) (osl : Array (Option Value)),
    fd = PySem.W.fnOf x qual (defArgs st) (defBody st) (defScope st) .none kV doc pm an (.ref c) ct ∧ K.lookup f = some ⟨oc, od, .func fd, osl⟩ ∧ PySem.W.codeIn K (.ref c) qual = true
  kp : PySem.W.keepIn K (.ref f) = true
section
variable {P : Program} {w : World} {K : PySem.W.Frag} {mg : Str → Option Value} {base : Heap}
theorem FunC.ok {x qual : Str} {st : Stmt} {f c : Addr} {fd : FuncData} {N ps : List Str} {k : Nat} {sp : Sp} (F : FunC K x qual st f c fd) (S : FnScope N ps (defScope st)) (len : ∀ vs H Q E, sp vs H Q E → vs.length = ps.length)
    (hbody : ∀ (A : Around) (outer : List Env) (s : Shared) (H : Hp) (vs : List V) (Q : VK) (E : XK), Room k (A.deeper (envOfC qual (defScope st) s.heap.objs.size f (.ref c))) → sp vs H Q E →
      ∃ t, PSs (cxOf CX0 P w K mg base N qual (defScope st) f (.ref c) A outer s H E).nox (defBody st) t ∧ t { nx := fun _ H' => Q .non H', rt := Q } (start N vs) H) : FnOk P w K mg base CX0 (k + 1) f fd ps sp := by
  obtain ⟨oc, od, kV, doc, pm, an, ct, osl, rfl, lk, hcd⟩ := F.ex
  refine fn_of lk hcd S len fun A outer s H vs Q E hr hsp => ?_
  obtain ⟨t, h, q⟩ := hbody A outer s H vs Q E hr hsp
  exact ⟨t, h.nox, q⟩
theorem FunC.fn {x qual : Str} {st : Stmt} {f c : Addr} {fd : FuncData} (F : FunC K x qual st f c fd) : Fun K x qual st f fd := by
  obtain ⟨oc, od, kV, doc, pm, an, ct, osl, e, lk, hcd⟩ := F.ex
  exact ⟨⟨oc, od, kV, doc, pm, an, .ref c, ct, osl, e, lk, hcd⟩, F.kp⟩

/-! _law_breaks -/
abbrev sBreaks : Stmt := topS 42
theorem scBreaks : FnScope ["many", "winding", "found", "begin", "length", "cell"] ["many", "winding"] (defScope sBreaks) := ⟨rfl, rfl, rfl, by decide +kernel, rfl, by decide +kernel, by decide +kernel⟩
abbrev lamQ : Str := "_law_breaks" ++ ".<locals>." ++ "<lambda>"
/-- new, or a table's place -/
def FrT (H : Hp) (p : Addr) : Prop := ∀ o, H p = some o → ∃ ps, o = .tbl ps
theorem frT_of {H H2 : Hp} {p : Addr} (e : ExtN H H2) (h : H2 p = none) : FrT H p := fun o ho => by
  cases o with
  | tbl ps => exact ⟨ps, rfl⟩
  | _ => rw [e _ _ ho (fun _ z => by cases z)] at h; cases h
def RetN (K : PySem.W.Frag) (T : Addr) (ds : List PyData) (H : Hp) (Q : VK) : Prop := ∀ p xs H2, FrT H p → ExtN H H2 → TabS H2 T lamQ → H2 p = some (.lst xs) → DpAll K H2 xs ds → Q (.ref p) H2
def spBreaks (K : PySem.W.Frag) (T : Addr) : Sp := fun vs H Q _ => ∃ (n g h e : Nat) (v : V), vs = [.int n, v] ∧ Dp K H v (wD g h e) ∧ n ≤ 24 ∧ 4 ≤ g ∧ g ≤ 16 ∧ h ≤ 8 ∧ TabS H T lamQ ∧ RetN K T ((brkM n g h).map td) H Q
theorem ok_breaks {f c T : Addr} {fd : FuncData} (F : FunC K "_law_breaks" "_law_breaks" sBreaks f c fd) (TB : TabB base mg c T) (ms : mg "sorted" = none) (mr : mg "range" = none)
    {fl : Addr} {fdl : FuncData} (L : Can P w K mg base "_law_lowest" 1 fl fdl ["top", "bottom"] spLow2) : FnOk P w K mg base CX0 2 f fd ["many", "winding"] (spBreaks K T) := by
  refine F.ok scBreaks (fun vs H Q E h => ?_) (fun A outer s H vs Q E hr h => ?_)
  · obtain ⟨n, g, h, e, v, rfl, _⟩ := h
    rfl
  obtain ⟨n, g, h, e, v, rfl, hw, hn, hg, hg2, hh, hT, q⟩ := h
  obtain ⟨wa, rfl, hwq⟩ := wd_get hw
  have hu := hu_of hr
  refine ⟨_, pss_cons (ps_par3 (i := 2) (j := 3) (l := 4) (by rfl) scBreaks.nd rfl rfl rfl (by decide) (by decide) (by decide) rfl rfl rfl (pa_cons (pe_disp1 hu (pe_tup (pa_cons pe_int (pa_cons pe_int pa_nil))) pe_bl) (pa_cons pe_int (pa_cons (pe_ix ix_tup (pv 1) pe_int (fun _ _ => rfl)) pa_nil))) (by rfl))
    (pss_cons (ps_while PassesOwn.never (pt_cmpR op_lt (pv 3) (pe_op op_mul pe_int (pv 0)) (nomark _))
      (pss_cons (ps_for PassesOwn.never rfl (pi_range1 rfl mr (pa_cons (pe_op op_add (pv 0) pe_int) pa_nil)) (pg_name (i := 5) scBreaks.nd rfl (.inl rfl))
        (pss_one (ps_if (pt_chain op_le op_lt (pv 3) (pe_op op_mul pe_int (pv 5)) (pe_op op_add (pv 3) (pv 4)))
          (pss_one (ps_dput hu (pv 2) (pcall L hr (pa_cons (pe_op op_sub (pe_op op_mul pe_int (pv 5)) (pv 3)) (pa_cons (pv 4) pa_nil))) pe_bl rfl)) pss_nil)))
      (pss_one (ps_par (i := 3) (j := 4) (by rfl) scBreaks.nd rfl rfl (by decide) rfl rfl (pa_cons (pe_op op_add (pv 3) (pv 4)) (pa_cons (pe_op op_add (pv 4) (pe_ix ix_tup (pv 1) pe_int (fun _ _ => rfl))) pa_nil)) (by rfl)))))
    (pss_one (ps_ret (pe_sortLam hr (by rfl) (by rfl) ms (pa_cons (pv 2) pa_nil) TB rfl)))), ?_⟩
  refine fun D hD => ⟨by show 2 ≤ sizeLine; decide, fun t0 ht0 => ?_⟩
  have hDt : D ≠ t0 := by
    rintro rfl
    rw [upd_same] at ht0
    cases ht0
  refine ⟨by rw [upd_ne hDt, upd_same], t0, pk (0, 1), rfl, upd_same, ?_⟩
  have ex0 : Ex H (upd (upd (upd H D (.dT [])) t0 (.tup [.int 0, .int 1])) D (.dT (putK [] (pk (0, 1)) (.bl true)))) := Ex.mut ((Ex.new hD).trans (Ex.new ht0)) hD
  have hD0 := upd_same (H := upd (upd H D (.dT [])) t0 (.tup [.int 0, .int 1])) (a := D) (o := .dT (putK [] (pk (0, 1)) (.bl true)))
  revert ex0 hD0
  generalize upd (upd (upd H D (.dT [])) t0 (.tup [.int 0, .int 1])) D (.dT (putK [] (pk (0, 1)) (.bl true))) = H0
  intro ex0 hD0
  refine ⟨.ref wa, rfl, wa, _, _, vi g, rfl, rfl, ex_t ex0 hwq, atI_nat (j := 0) rfl, .ref D, .int 0, vi g, rfl, ?_⟩
  refine q_while (fun m σ' H' => ∃ (bg l fu : Nat) (pre : List (Nat × Nat)) (y5 : Option V) (kvs : List (List Key × V)), σ' = [some (vi n), some (.ref wa), some (.ref D), some (vi bg), some (vi l), y5] ∧
    turnsM n g h = pre ++ turnsF fu (2 * n) bg l h ∧ 2 * n - bg ≤ fu ∧ 2 ≤ l ∧ l ≤ g + bg * h ∧ m = 2 * n - bg ∧ Ex H H' ∧ H' D = some (.dT kvs) ∧ Brk kvs ((0, 1) :: rawB n pre)) (2 * n)
    ⟨0, g, 2 * n, [], none, _, rfl, rfl, by omega, by omega, by omega, by omega, ex0, hD0, brk_one⟩ ?_
  rintro m σ' H' ⟨bg, l, fu, pre, y5, kvs, rfl, hTu, hfu, hl2, hlg, rfl, ex, hDx, hB⟩
  refine ⟨_, et_test (ev_op (ev_var rfl) (ev_op ev_c (ev_var rfl) (rv_I (.inl ⟨by decide, by decide⟩))) rv_I0), fun hbb H1 e1 => ?_, fun hbb H1 e1 => ?_⟩
  · have hbg : bg < 2 * n := by
      simp at hbb
      omega
    obtain ⟨fu, rfl⟩ : ∃ k, fu = k + 1 := ⟨fu - 1, by omega⟩
    rw [turnsF, if_pos hbg] at hTu
    have hprelen : pre.length ≤ 48 := by
      have l2 := congrArg List.length hTu
      have l3 := turnsF_len (2 * n) (2 * n) 0 g h
      rw [List.length_append] at l2
      unfold turnsM at l2
      omega
    have hlb : l ≤ 100000 := by
      have : bg * h ≤ 62 * 1000 := Nat.mul_le_mul (by omega) (by omega)
      omega
    have hraw : (rawB n pre).length ≤ 1200 := by
      have h1 := rawB_le (n := n) pre
      have h2 : pre.length * (n + 1) ≤ 48 * 25 := Nat.mul_le_mul hprelen (by omega)
      omega
    have exx := ex.trans e1
    obtain ⟨b0, eb0⟩ : ∃ b0, b0 = bg := ⟨bg, rfl⟩
    rw [show 2 * n - bg = 2 * n - b0 by rw [eb0]]
    refine ⟨fun σ2 H2 => ∃ (bg l fu : Nat) (pre : List (Nat × Nat)) (y5 : Option V) (kvs : List (List Key × V)), σ2 = [some (vi n), some (.ref wa), some (.ref D), some (vi bg), some (vi l), y5] ∧
      turnsM n g h = pre ++ turnsF fu (2 * n) bg l h ∧ 2 * n - bg ≤ fu ∧ 2 ≤ l ∧ l ≤ g + bg * h ∧ 2 * n - bg < 2 * n - b0 ∧ Ex H H2 ∧ H2 D = some (.dT kvs) ∧ Brk kvs ((0, 1) :: rawB n pre), ?_, ?_⟩
    · rintro σ2 H2 ⟨a1, a2, a3, a4, a5, a6, h1, h2, h3, h4, h5, h6, h7, h8, h9⟩
      exact ⟨_, h6, a1, a2, a3, a4, a5, a6, h1, h2, h3, h4, h5, rfl, h7, h8, h9⟩
    refine q_forR1 (n := (n : Int) + 1) (ea_cons (ev_op (ev_var rfl) ev_c rv_I0) ea_nil) (by omega) (fun j σ' H' => ∃ (y5 : Option V) (kvs : List (List Key × V)), σ' = [some (vi n), some (.ref wa), some (.ref D), some (vi bg), some (vi l), y5] ∧ Ex H H' ∧ H' D = some (.dT kvs) ∧ Brk kvs (((0, 1) :: rawB n pre) ++ rowB (bg, l) j))
      (fun H2 e2 => ⟨y5, kvs, rfl, exx.trans e2, e2 _ _ (e1 _ _ hDx), by
        have : rowB (bg, l) 0 = [] := rfl
        rw [this, List.append_nil]
        exact hB⟩) ?_ ?_
    · rintro j σ' H2 hj ⟨y5, kvs, rfl, ex2, hD2, hB2⟩
      have hj' : j ≤ n := by omega
      refine s_when (et_chain (ev_var rfl) (ev_op ev_c (ev_var rfl) (rv_I (.inl ⟨by decide, by decide⟩))) rv_I0 (fun _ => ev_op (ev_var rfl) (ev_var rfl) rv_I0) (fun _ => rv_I0)) (fun hb H3 e3 => ?_) (fun hb H3 e3 => ?_)
      · rw [Bool.and_eq_true, decide_eq_true_eq, decide_eq_true_eq] at hb
        have hin : inRow bg l j = true := by
          unfold inRow
          rw [Bool.and_eq_true, decide_eq_true_eq, decide_eq_true_eq]
          omega
        have ea : 2 * (j : Int) - (bg : Int) = ((2 * j - bg : Nat) : Int) := by omega
        refine ⟨.ref D, rfl, vi j, rfl, _, _, rfl, rfl, .inl ⟨by decide, by decide⟩, vi bg, rfl, _, _, rfl, rfl, vi l, rfl, 2 * j - bg, l, ?_, by omega, by omega, ?_⟩
        · show [V.int (2 * (j : Int) - (bg : Int)), V.int (l : Int)] = _
          rw [ea]
        · intro t H4 e4 ht
          have hD4 := e4 _ _ (e3 _ _ hD2)
          have hlen : kvs.length < sizeLine := by
            have h1 := hB2.len
            have h2 := rowB_le (bg, l) j
            rw [List.length_append, List.length_cons] at h1
            exact Nat.lt_of_le_of_lt (show kvs.length ≤ 2000 by omega) (by decide)
          refine ⟨D, _, rfl, DPut.t (k := pk (lowP (2 * j - bg) l)) hD4 ht hlen, _, _, rfl, Ex.mut (ex2.trans (e3.trans e4)) hD, upd_same, ?_⟩
          rw [rowB_yes (q := (bg, l)) hin, ← List.append_assoc]
          exact hB2.put
      · have hin : inRow bg l j = false := by
          unfold inRow
          rw [Bool.and_eq_false_iff, decide_eq_false_iff_not, decide_eq_false_iff_not] at hb ⊢
          omega
        refine ⟨_, _, rfl, ex2.trans e3, e3 _ _ hD2, ?_⟩
        rw [rowB_no (q := (bg, l)) hin]
        exact hB2
    · rintro σ' H2 ⟨y5, kvs, rfl, ex2, hD2, hB2⟩
      rw [show ((n : Int) + 1).toNat = n + 1 by omega] at hB2
      refine ⟨vi bg, rfl, vi l, rfl, _, _, rfl, rfl, vi l, rfl, .ref wa, rfl, wa, _, _, vi h, rfl, rfl, ex_t ex2 hwq, atI_nat (j := 1) rfl, _, _, rfl, rfl, _, _, rfl, ?_⟩
      refine ⟨bg + l, l + h, fu, pre ++ [(bg, l)], _, kvs, rfl, ?_, by omega, by omega, ?_, by omega, ex2, hD2, ?_⟩
      · rw [hTu, List.append_assoc]; rfl
      · have : h ≤ l * h := by
          have := Nat.mul_le_mul_right h (show 1 ≤ l by omega)
          omega
        rw [Nat.add_mul]
        omega
      · rw [rawB_snoc]
        exact hB2
  · have hbg : ¬ bg < 2 * n := by
      simp at hbb
      omega
    rw [turnsF_done _ _ _ _ _ hbg, List.append_nil] at hTu
    subst hTu
    have hlen : kvs.length < 64 := by
      have h1 := hB.len
      have h2 := rawB_len (n := n) (whole := wholeM n g h) (turnsM n g h)
      have h3 := (ok_at6 hn hg hg2 hh).2
      rw [List.length_cons] at h1
      omega
    have exx := ex.trans e1
    refine ⟨.ref D, rfl, hT.ext exx, fun fl c' pm ctv G eN tab nf hc => ?_⟩
    have e5 : ∀ o, Ex G (upd G fl o) := fun o => Ex.new nf
    refine ⟨D, fl, c', kvs, pm, ctv, rfl, rfl, e5 _ _ _ (eN _ _ (e1 _ _ hDx) (fun _ z => by cases z)), upd_same, e5 _ _ _ hc, hlen, ?_, fun ys p hp hy hs hpn => ?_⟩
    · intro kv hkv
      obtain ⟨p, hp, ek⟩ := (hB.mem kv.1).mp (List.mem_map.mpr ⟨kv, hkv, rfl⟩)
      have hp' := (mem_brk (by omega)).mpr hp
      obtain ⟨t, ht, rfl⟩ := List.mem_map.mp hp'
      have hw0 := whole_pos (n := n) (g := g) (h := h) (by omega)
      have hw6 := (ok_at6 hn hg hg2 hh).1
      have ht2 := tops_lt (by omega) ht
      have hg0 : 0 < Nat.gcd t (wholeM n g h) := Nat.gcd_pos_of_pos_right _ hw0
      have h1 : t / Nat.gcd t (wholeM n g h) ≤ t := Nat.div_le_self _ _
      have h2 : wholeM n g h / Nat.gcd t (wholeM n g h) ≤ wholeM n g h := Nat.div_le_self _ _
      have h3 : 0 < wholeM n g h / Nat.gcd t (wholeM n g h) := Nat.div_pos (Nat.le_of_dvd hw0 (Nat.gcd_dvd_right _ _)) hg0
      exact ⟨_, _, ek, by show Int.natAbs ((_ : Nat) : Int) < 2 ^ 60; rw [Int.natAbs_natCast]; show t / Nat.gcd t (wholeM n g h) < 2 ^ 60; omega, by show (0 : Int) < ((wholeM n g h / Nat.gcd t (wholeM n g h) : Nat) : Int); omega, by show ((wholeM n g h / Nat.gcd t (wholeM n g h) : Nat) : Int) < 1073741824; omega⟩
    · have e6 := Ex.new (o := .lst (ys.map fun y => V.ref y.2)) hpn
      refine q p _ _ (frT_of (((exn_of exx).trans eN).trans (exn_of (e5 _))) hpn) (((exn_of exx).trans eN).trans ((exn_of (e5 _)).trans (exn_of e6))) ((tab.ext (e5 _)).ext e6) upd_same (dpa_ex e6 _ _ (dpa_keys (brk_sorted hn hg hg2 hh hB hp hs) hy))
end
end Nr
namespace Nr
open PySem PySem.Spec PyProof.Rows L2 Evl
open LamX (TabS TabB CodeO ExtN)

theorem placeN_scale {t b m : Nat} (hm : 0 < m) (q : Nat × Nat) : placeN (t * m) (b * m) q = placeN t b q := by
  unfold placeN
  rw [← Nat.mul_assoc q.1, ← Nat.mul_assoc q.2, ← Nat.add_mul, ← Nat.mul_assoc 2, Nat.mul_div_mul_right _ _ hm]
theorem pricks_scale {n g h e t b m : Nat} (hm : 0 < m) : pricksM n g h e (t * m) (b * m) = pricksM n g h e t b := by
  have : placesM n g h (t * m) (b * m) = placesM n g h t b := List.map_congr_left fun q _ => placeN_scale hm q
  unfold pricksM
  rw [this]
theorem pricks_low {n g h e t W : Nat} (hW : 0 < W) : pricksM n g h e (lowP t W).1 (lowP t W).2 = pricksM n g h e t W := by
  have hg : 0 < Nat.gcd t W := Nat.gcd_pos_of_pos_right _ hW
  have := pricks_scale (n := n) (g := g) (h := h) (e := e) (t := (lowP t W).1) (b := (lowP t W).2) hg
  rw [show (lowP t W).1 * Nat.gcd t W = t from Nat.div_mul_cancel (Nat.gcd_dvd_left _ _), show (lowP t W).2 * Nat.gcd t W = W from Nat.div_mul_cancel (Nat.gcd_dvd_right _ _)] at this
  exact this.symm
theorem lowP_self {W : Nat} (hW : 0 < W) : lowP W W = (1, 1) := by
  unfold lowP
  rw [Nat.gcd_self, Nat.div_self hW]
theorem lowP_pos {t W : Nat} (hW : 0 < W) : 0 < (lowP t W).2 := Nat.div_pos (Nat.le_of_dvd hW (Nat.gcd_dvd_right _ _)) (Nat.gcd_pos_of_pos_right _ hW)
theorem brk_next {n g h : Nat} (hg : 0 < g) : (brkM n g h).drop 1 ++ [(1, 1)] = ((topsM n g h).drop 1 ++ [wholeM n g h]).map fun t => lowP t (wholeM n g h) := by
  rw [List.map_append, List.map_drop, List.map_cons, List.map_nil, lowP_self (whole_pos hg)]
  rfl
theorem dpa_drop {K : PySem.W.Frag} {H : Hp} : ∀ {as : List V} {ds : List PyData}, DpAll K H as ds → ∀ k, DpAll K H (as.drop k) (ds.drop k)
  | _, _, h, 0 => h
  | [], _, h, k + 1 => by cases h; exact .nil
  | _ :: _, _, h, k + 1 => by
    cases h with
    | cons h1 h2 => exact dpa_drop h2 k
section
variable {P : Program} {w : World} {K : PySem.W.Frag} {mg : Str → Option Value} {base : Heap}
/-! _law_stretches -/
abbrev sLStr : Stmt := topS 43
theorem scLStr : FnScope ["many", "winding", "marks_v", "found", "first", "last"] ["many", "winding"] (defScope sLStr) := ⟨rfl, rfl, rfl, by decide +kernel, rfl, by decide +kernel, by decide +kernel⟩
def spLStr (K : PySem.W.Frag) (T : Addr) : Sp := fun vs H Q _ => ∃ (n g h e : Nat) (v : V), vs = [.int n, v] ∧ Dp K H v (wD g h e) ∧ n ≤ 24 ∧ 4 ≤ g ∧ g ≤ 16 ∧ h ≤ 8 ∧ e ≤ 1 ∧ TabS H T lamQ ∧ RetN K T (strM n g h e) H Q
theorem ok_lstr {f T : Addr} {fd : FuncData} (F : Fun K "_law_stretches" "_law_stretches" sLStr f fd) (mz : mg "zip" = none) (mt : mg "tuple" = none)
    {fb : Addr} {fdb : FuncData} (B : Can P w K mg base "_law_breaks" 2 fb fdb ["many", "winding"] (spBreaks K T)) {fp : Addr} {fdp : FuncData} (C : Can P w K mg base "_law_pricked" 1 fp fdp ["many", "winding", "angle"] (spLPr K)) :
    FnOk P w K mg base CX0 3 f fd ["many", "winding"] (spLStr K T) := by
  refine F.ok scLStr (fun vs H Q E h => ?_) (fun cdv A outer s H vs Q E hr h => ?_)
  · obtain ⟨n, g, h, e, v, rfl, _⟩ := h
    rfl
  obtain ⟨n, g, h, e, v, rfl, hw, hn, hg, hg2, hh, he, hT, q⟩ := h
  obtain ⟨hwh, hraw⟩ := ok_at6 hn hg hg2 hh
  have hwp : 0 < wholeM n g h := whole_pos (by omega)
  have hlt : (topsM n g h).length ≤ 61 := by
    have := sortU_len (0 :: rawM n (wholeM n g h) (turnsM n g h))
    rw [List.length_cons] at this
    unfold topsM marksM
    omega
  have hlp : 0 < (topsM n g h).length := sortU_pos _ (by simp)
  refine ⟨_, pss_cons (ps_set (i := 2) scLStr.nd rfl (.inl rfl) (pcall B hr (pa_cons (pv 0) (pa_cons (pv 1) pa_nil))))
    (pss_cons (ps_set (i := 3) scLStr.nd rfl (.inl rfl) (pe_lst pa_nil))
    (pss_cons (ps_for PassesOwn.never rfl (pi_zip (by rfl) mz (pa_cons (pv 2) (pa_cons (pe_op op_cat (pe_slice sl_list (pv 2) (po_some pe_int) po_none) (pe_lst (pa_cons (pe_tup (pa_cons pe_int (pa_cons pe_int pa_nil))) pa_nil))) pa_nil)))
        (pg_tup rfl (pgs_cons (pg_name (i := 4) scLStr.nd rfl (.inl rfl)) (pgs_cons (pg_name (i := 5) scLStr.nd rfl (.inl rfl)) pgs_nil)))
      (pss_one (ps_expr (pe_bm PySem.F.plainAttrs_list PySem.F.slot_list_append PySem.F.type_list_append mt_append (pv 3) (pa_cons (pe_tup (pa_cons (pv 4) (pa_cons (pv 5)
        (pa_cons (pe_callTy call_tuple_of (by rfl) mt PyProof.Rows.boot_tuple (pa_cons (pcall C hr (pa_cons (pv 0) (pa_cons (pv 1) (pa_cons (pv 4) pa_nil)))) pa_nil)) pa_nil)))) pa_nil)))))
    (pss_one (ps_ret (pv 3))))), ?_⟩
  -- marks
  refine ⟨vi n, rfl, v, rfl, n, g, h, e, v, rfl, hw, hn, hg, hg2, hh, hT, fun tp mx H4 _ e4 tab htx hmd => ?_⟩
  have hw4 := dp_exN e4 _ _ hw
  have hml : mx.length = (topsM n g h).length := by
    rw [dpa_len hmd, List.length_map]
    unfold brkM
    rw [List.length_map]
  -- found
  refine ⟨Nat.zero_le _, fun to hto => ?_⟩
  have n1 : tp ≠ to := ne_of_none htx hto
  refine ⟨.ref tp, rfl, .ref tp, rfl, 1, rfl, tp, _, rfl, sq_of (by rw [upd_ne n1]; exact htx), fun c1 hc1 => ?_⟩
  refine ⟨by show 2 ≤ sizeLine; decide, fun o1 ho1 => ?_⟩
  refine ⟨by show 1 ≤ sizeLine; decide, fun c2 hc2 => ?_⟩
  have x5 : Ex H4 (upd H4 to (.lst [])) := Ex.new hto
  have x6 := Ex.new (o := .lst (cutV mx (some 1) none)) hc1
  have x6b := Ex.new (o := .tup [.int 1, .int 1]) ho1
  have x7 := Ex.new (o := .lst [.ref o1]) hc2
  refine ⟨c1, c2, _, _, rfl, rfl, x7 _ _ (x6b _ _ upd_same), upd_same, ?_, fun c3 hc3 => ?_⟩
  · rw [cut_1, List.length_drop, List.length_cons, List.length_nil]
    exact Nat.le_of_lt (small1000 (by omega))
  have x8 := Ex.new (o := .lst (cutV mx (some 1) none ++ [.ref o1])) hc3
  have x58 := ((x6.trans x6b).trans x7).trans x8
  have h8to := x58 _ _ (upd_same (H := H4) (a := to) (o := .lst []))
  have h8tp := (x5.trans x58) _ _ htx
  have h8c3 := upd_same (H := upd (upd (upd (upd H4 to (.lst [])) c1 (.lst (cutV mx (some 1) none))) o1 (.tup [.int 1, .int 1])) c2 (.lst [.ref o1])) (a := c3) (o := .lst (cutV mx (some 1) none ++ [.ref o1]))
  have h8o := (x7.trans x8) _ _ (upd_same (H := upd (upd H4 to (.lst [])) c1 (.lst (cutV mx (some 1) none))) (a := o1) (o := .tup [.int 1, .int 1]))
  have e08 := x5.trans x58
  have n4 : to ≠ c3 := by
    have z := ((x6.trans x6b).trans x7) _ _ (upd_same (H := H4) (a := to) (o := .lst []))
    exact ne_of_none z hc3
  revert h8to h8tp h8c3 h8o e08
  generalize upd (upd (upd (upd (upd H4 to (.lst [])) c1 (.lst (cutV mx (some 1) none))) o1 (.tup [.int 1, .int 1])) c2 (.lst [.ref o1])) c3 (.lst (cutV mx (some 1) none ++ [.ref o1])) = H8
  intro h8to h8tp h8c3 h8o e08
  rw [cut_1] at h8c3
  have hd2 : DpAll K H8 (mx.drop 1 ++ [.ref o1]) ((((topsM n g h).drop 1 ++ [wholeM n g h]).map fun t => lowP t (wholeM n g h)).map td) := by
    rw [← brk_next (by omega), List.map_append, List.map_drop]
    refine dpa_append ?_ (.cons (.tup (st_of h8o) (.cons (.int _) (.cons (.int _) .nil))) .nil)
    exact dpa_drop (dpa_ex e08 _ _ hmd) 1
  have hpl : (pairsM n g h).length = (topsM n g h).length := by
    unfold pairsM
    rw [List.length_zip, zip_tops _ _ hlp, Nat.min_self]
  refine ⟨tp, c3, _, _, rfl, sq_of h8tp, sq_of h8c3, ?_⟩
  refine RZ.for_zipL (by rw [List.length_append, List.length_drop, List.length_cons, List.length_nil]; omega) (fun i σ' H' => ∃ (y4 y5 : Option V) (xs : List V), σ' = [some (vi n), some v, some (.ref tp), some (.ref to), y4, y5] ∧
      Ex H4 H' ∧ H' tp = some (.lst mx) ∧ H' c3 = some (.lst (mx.drop 1 ++ [.ref o1])) ∧ H' to = some (.lst xs) ∧ DpAll K H' xs ((strM n g h e).take i) ∧ DpAll K H' (mx.drop 1 ++ [.ref o1]) ((((topsM n g h).drop 1 ++ [wholeM n g h]).map fun t => lowP t (wholeM n g h)).map td))
    ⟨none, none, [], rfl, e08, h8tp, h8c3, h8to, .nil, hd2⟩ (fun i σ' H' ⟨_, _, _, _, _, a, b, _⟩ => ⟨sq_of a, sq_of b⟩) ?_ ?_
  · rintro i x y T' σ' H' hx hy ⟨y4, y5, xs, rfl, ex, htp', hc3', hto', hd', hd2'⟩ hT'
    obtain ⟨d1, hd1, dx⟩ := dpa_get (dpa_ex ex _ _ hmd) hx
    unfold brkM at hd1
    rw [List.getElem?_map, List.getElem?_map] at hd1
    obtain ⟨p1, hp1, rfl⟩ := Option.map_eq_some_iff.mp hd1
    obtain ⟨t, ht, rfl⟩ := Option.map_eq_some_iff.mp hp1
    obtain ⟨d2, hd2'', dy⟩ := dpa_get hd2' hy
    rw [List.getElem?_map, List.getElem?_map] at hd2''
    obtain ⟨p2, hp2, rfl⟩ := Option.map_eq_some_iff.mp hd2''
    obtain ⟨a, ha, rfl⟩ := Option.map_eq_some_iff.mp hp2
    have hp : (pairsM n g h)[i]? = some (t, a) := by
      unfold pairsM
      rw [List.getElem?_zip_eq_some]
      exact ⟨ht, ha⟩
    have hst : (strM n g h e)[i]? = some (strD n g h e (wholeM n g h) (t, a)) := by
      unfold strM
      rw [List.getElem?_map, hp]
      rfl
    have hi : i < (topsM n g h).length := (List.getElem?_eq_some_iff.mp ht).1
    have htlt := tops_lt (by omega) (List.mem_of_getElem? ht)
    have xT : Ex H' (upd H' T' (.tup [x, y])) := Ex.new hT'
    refine ⟨T', _, rfl, st_of upd_same, rfl, x, _, rfl, y, _, rfl, rfl, ?_⟩
    generalize upd H' T' (.tup [x, y]) = H9 at xT
    refine ⟨.ref to, rfl, .inl ⟨rfl, _, sq_of (xT _ _ hto')⟩, x, rfl, y, rfl, vi n, rfl, v, rfl, x, rfl, ?_⟩
    have b1 : (lowP t (wholeM n g h)).1 ≤ t := Nat.div_le_self _ _
    have b2 : (lowP t (wholeM n g h)).2 ≤ wholeM n g h := Nat.div_le_self _ _
    have b3 := lowP_pos (t := t) hwp
    refine ⟨n, g, h, e, (lowP t (wholeM n g h)).1, (lowP t (wholeM n g h)).2, v, x, rfl, dp_ex (ex.trans xT) _ _ hw4, dp_ex xT _ _ dx, by omega, by omega, by omega, he, by omega, b3, ?_, ?_, fun cp H10 hcp e10 hcx => ?_⟩
    · exact Nat.lt_of_lt_of_le (show _ < 1000000 by omega) (by decide)
    · exact Nat.lt_of_lt_of_le (show _ < 1000000 by omega) (by decide)
    rw [pricks_low hwp] at hcx
    refine ⟨cp, _, rfl, .inl ⟨sq_of hcx, fun ct hct => ?_⟩⟩
    have x11 : Ex H10 (upd H10 ct (.tup ((pricksM n g h e t (wholeM n g h)).map vi))) := Ex.new hct
    have hc11 := upd_same (H := H10) (a := ct) (o := .tup ((pricksM n g h e t (wholeM n g h)).map vi))
    have xx := xT.trans (e10.trans x11)
    generalize upd H10 ct (.tup ((pricksM n g h e t (wholeM n g h)).map vi)) = H11 at x11 hc11 xx
    refine ⟨by show 3 ≤ sizeLine; decide, fun r hr' => ?_⟩
    have x14 := Ex.new (o := .tup [x, y, .ref ct]) hr'
    have h14r := upd_same (H := H11) (a := r) (o := .tup [x, y, .ref ct])
    generalize upd H11 r (.tup [x, y, .ref ct]) = H14 at x14 h14r
    have z14 : Ex H' H14 := xx.trans x14
    have nt := noT_lst (z14 _ _ hto')
    refine ⟨to, xs, .ref r, rfl, rfl, z14 _ _ hto', ?_, some x, some y, xs ++ [.ref r], rfl, Ex.mut (ex.trans z14) hto, ?_, ?_, upd_same, ?_, ?_⟩
    · have l1 := dpa_len hd'
      rw [List.length_take] at l1
      exact small1000 (by omega)
    · rw [upd_ne n1]
      exact z14 _ _ htp'
    · rw [upd_ne (Ne.symm n4)]
      exact z14 _ _ hc3'
    · rw [List.take_add_one, hst]
      refine dpa_mut nt _ _ ?_ (dpa_append (dpa_ex z14 _ _ hd') (.cons (.tup (st_of h14r) (.cons (dp_ex z14 _ _ dx) (.cons (dp_ex z14 _ _ dy) (.cons (.tup (st_of (x14 _ _ hc11)) (dis_vis _)) .nil)))) .nil))
      rw [noLs_append]
      have k1 : noLs ((strM n g h e).take i) = true := by
        unfold strM
        rw [← List.map_take]
        exact noLs_map (noL_str n g h e _) _
      rw [k1]
      show noLs [strD n g h e (wholeM n g h) (t, a)] = true
      rw [noLs, noLs, noL_str]
      rfl
    · exact dpa_mut nt _ _ (noLs_map noL_td _) (dpa_ex z14 _ _ hd2')
  · rintro σ' H' ⟨y4, y5, xs, rfl, ex, htp', hc3', hto', hd', hd2'⟩
    rw [hml, List.take_of_length_le (by unfold strM; rw [List.length_map, hpl]; exact Nat.le_refl _)] at hd'
    exact ⟨.ref to, rfl, q to xs H' (frT_of e4 hto) (e4.trans (exn_of ex)) (tab.ext ex) hto' hd'⟩
end
end Nr
namespace Nr
open PySem PySem.Spec PyProof.Rows L2 Evl

/-! data that can be compared -/
def Shp (k : Nat) (d : PyData) : Prop := d.canLay0 = true ∧ d.depth ≤ k
theorem shp_int (k : Nat) (i : Int) : Shp k (.int i) := ⟨rfl, Nat.zero_le _⟩
theorem shp_all {α : Type} {f : α → PyData} {k : Nat} (h : ∀ x, Shp k (f x)) : ∀ l : List α, PyData.canLayAll0 (l.map f) = true ∧ PyData.depthAll (l.map f) ≤ k
  | [] => ⟨rfl, Nat.zero_le _⟩
  | x :: l => by
    have a := h x
    have b := shp_all h l
    rw [List.map_cons, PyData.canLayAll0, PyData.depthAll, a.1, b.1]
    exact ⟨rfl, Nat.max_le.mpr ⟨a.2, b.2⟩⟩
theorem shp_list {α : Type} {f : α → PyData} {k : Nat} (h : ∀ x, Shp k (f x)) (l : List α) : Shp (k + 1) (.list (l.map f)) := by
  have b := shp_all h l
  refine ⟨?_, ?_⟩
  · rw [PyData.canLay0]; exact b.1
  · rw [PyData.depth]; exact Nat.succ_le_succ b.2
theorem shp_tuple {α : Type} {f : α → PyData} {k : Nat} (h : ∀ x, Shp k (f x)) (l : List α) : Shp (k + 1) (.tuple (l.map f)) := by
  have b := shp_all h l
  refine ⟨?_, ?_⟩
  · rw [PyData.canLay0]; exact b.1
  · rw [PyData.depth]; exact Nat.succ_le_succ b.2
theorem Shp.ok {k : Nat} {d : PyData} (h : Shp k d) (hk : k ≤ 64) : SeqAt.shaped d = true := by
  unfold SeqAt.shaped
  rw [h.1, Bool.true_and, decide_eq_true_eq]
  exact Nat.le_trans h.2 hk
theorem sh_td (p : Nat × Nat) : SeqAt.shaped (td p) = true := (shp_tuple (f := di) (fun n : Nat => shp_int 0 (n : Int)) [p.1, p.2]).ok (by decide)
theorem sh_lst (l : List Nat) : SeqAt.shaped (.list (l.map di)) = true := (shp_list (f := di) (fun n : Nat => shp_int 0 (n : Int)) l).ok (by decide)
theorem sh_tup (l : List Nat) : SeqAt.shaped (.tuple (l.map di)) = true := (shp_tuple (f := di) (fun n : Nat => shp_int 0 (n : Int)) l).ok (by decide)
theorem eqvAll_dis : ∀ a b : List Nat, PyData.eqvAll (a.map di) (b.map di) = decide (a = b)
  | [], [] => rfl
  | [], y :: b => by simp [PyData.eqvAll]
  | x :: a, [] => by simp [PyData.eqvAll]
  | x :: a, y :: b => by
    rw [List.map_cons, List.map_cons, PyData.eqvAll, eqvAll_dis a b, PyData.eqv]
    rw [Bool.eq_iff_iff, Bool.and_eq_true, beq_iff_eq, decide_eq_true_eq, decide_eq_true_eq, List.cons.injEq]
    constructor
    · rintro ⟨h1, h2⟩
      exact ⟨by omega, h2⟩
    · rintro ⟨h1, h2⟩
      exact ⟨by omega, h2⟩
theorem eqv_lst (a b : List Nat) : PyData.eqv (.list (a.map di)) (.list (b.map di)) = decide (a = b) := by rw [PyData.eqv]; exact eqvAll_dis a b
theorem eqv_tup (a b : List Nat) : PyData.eqv (.tuple (a.map di)) (.tuple (b.map di)) = decide (a = b) := by rw [PyData.eqv]; exact eqvAll_dis a b
theorem eqv_td (p q : Nat × Nat) : PyData.eqv (td p) (td q) = decide (p = q) := by
  have k := eqv_tup [p.1, p.2] [q.1, q.2]
  refine Eq.trans k ?_
  rw [decide_eq_decide]
  constructor
  · intro z
    injection z with h1 h2
    injection h2 with h2 _
    exact Prod.ext h1 h2
  · rintro rfl
    rfl
section
variable {K : PySem.W.Frag} {σ : L2.St} {H : Hp} {x y : V} {d e : PyData}
theorem rv_neD (hx : Dp K H x d) (hy : Dp K H y e) (sd : SeqAt.shaped d = true) (se : SeqAt.shaped e = true) : RV (rNeD K) x y H (.bl (!PyData.eqv d e)) := fun H1 ex _ q => ⟨d, e, dp_ex ex _ _ hx, dp_ex ex _ _ hy, sd, se, q H1 (Ex.refl H1)⟩
theorem rv_eqD (hx : Dp K H x d) (hy : Dp K H y e) (sd : SeqAt.shaped d = true) (se : SeqAt.shaped e = true) : RV (rEqD K) x y H (.bl (PyData.eqv d e)) := fun H1 ex _ q => ⟨d, e, dp_ex ex _ _ hx, dp_ex ex _ _ hy, sd, se, q H1 (Ex.refl H1)⟩
theorem td_of {a : Addr} {p : Nat × Nat} (h : SqT K H a [vi p.1, vi p.2]) : Dp K H (.ref a) (td p) := .tup h (.cons (.int _) (.cons (.int _) .nil))
theorem cells_of {a : Addr} {l : List Nat} (h : SqT K H a (l.map vi)) : Dp K H (.ref a) (.tuple (l.map di)) := .tup h (dis_vis l)
theorem lst_of {a : Addr} {l : List Nat} (h : H a = some (.lst (l.map vi))) : Dp K H (.ref a) (.list (l.map di)) := .lst (sq_of h) (dis_vis l)
end
theorem td_noL (p : Nat × Nat) : noL (td p) = true := noL_td p
theorem wD_noL (g h e : Nat) : noL (wD g h e) = true := by simp [noL, noLs]
end Nr
namespace Nr
open PySem PySem.Spec PyProof.Rows L2 Evl

/-- a loop over zip of two lists, to the shorter one's end -/
theorem for_zip2 {K : PySem.W.Frag} {a b : Addr} {xs ys : List V} {g : TG} {tb : TS} {D : Ends} {σ : L2.St} {H : Hp} (Pv : Nat → L2.St → Hp → Prop) (h0 : Pv 0 σ H) (hq : ∀ i σ H, Pv i σ H → SqL K H a xs ∧ SqL K H b ys)
    (hs : ∀ (i : Nat) (x y : V) (T : Addr) (ρ : L2.St) (G : Hp), xs[i]? = some x → ys[i]? = some y → Pv i ρ G → G T = none → g (.ref T) ρ (upd G T (.tup [x, y])) fun ρ2 G2 => tb { D with nx := Pv (i + 1), ct := Pv (i + 1), bk := D.nx } ρ2 G2)
    (hd : ∀ ρ G, Pv (min xs.length ys.length) ρ G → D.nx ρ G) :
    ∃ W : Nat → Nat → L2.St → Hp → Prop, (∃ m, W 0 m σ H) ∧ ∀ i m ρ G, W i m ρ G →
      ((Itz K a b).stop i G ∧ D.nx ρ G) ∨ ((Itz K a b).go i G ∧ ∃ N : L2.St → Hp → Prop, (∀ ρ' G', N ρ' G' → ∃ m', m' < m ∧ W (i + 1) m' ρ' G') ∧ ∀ v G', (Itz K a b).yld i G v G' → g v ρ G' fun ρ2 G2 => tb { D with nx := N, ct := N, bk := D.nx } ρ2 G2) := by
  refine ⟨fun i m ρ G => m + i = min xs.length ys.length ∧ Pv i ρ G, ⟨min xs.length ys.length, rfl, h0⟩, fun i m ρ G hW => ?_⟩
  obtain ⟨em, p⟩ := hW
  obtain ⟨qx, qy⟩ := hq i ρ G p
  by_cases lt : i < min xs.length ys.length
  · have lx : i < xs.length := by omega
    have ly : i < ys.length := by omega
    refine .inr ⟨⟨xs, ys, _, _, qx, qy, List.getElem?_eq_getElem lx, List.getElem?_eq_getElem ly⟩, Pv (i + 1), fun ρ' G' p' => ⟨m - 1, by omega, by omega, p'⟩, fun v G' hy => ?_⟩
    obtain ⟨T, x, y, rfl, hT, rfl, fx, fy⟩ := hy
    exact hs i x y T ρ G (fx xs qx) (fy ys qy) p hT
  · have ei : i = min xs.length ys.length := by omega
    subst ei
    refine .inl ⟨⟨xs, ys, qx, qy, ?_⟩, hd ρ G p⟩
    omega
end Nr
namespace Nr
open PySem PySem.Spec PyProof.Rows L2 Evl
section
variable {K : PySem.W.Frag} {σ : L2.St} {H : Hp} {ta te : TE}
theorem el_listT {p : Addr} {xs : List V} (ha : Ev ta σ H (.ref p)) (h : SqT K H p xs) : EvL (tCB (rListS K) (tCons ta tNil)) σ H xs := fun H1 e Q q =>
  ha H1 e _ fun H2 e2 => ⟨p, xs, rfl, Or.inr (ex_t (e.trans e2) h), fun l hl => q l _ (fresh_back e2 hl) (e2.trans (Ex.new hl)) upd_same⟩
theorem el_rev {p : Addr} {xs : List V} (ha : Ev te σ H (.ref p)) (h : SqL K H p xs) : EvL (tRevL K te) σ H xs.reverse := fun H1 e Q q =>
  ha H1 e _ fun H2 e2 => ⟨p, xs, rfl, ex_l (e.trans e2) h, fun l hl => q l _ (fresh_back e2 hl) (e2.trans (Ex.new hl)) upd_same⟩
theorem et_yes : EvT tYes σ H true := fun H1 _ _ q => q H1 (Ex.refl H1)
end
theorem given_none {n : Nat} {f : Nat → Bool} {v : Nat → V} (h : ∀ i, i < n → f i = false) : given n f v = [] := by
  unfold given
  rw [List.filter_eq_nil_iff.mpr fun i hi => by rw [h i (List.mem_range.mp hi)]; decide]
  rfl
theorem range_filter {α : Type} (P : α → Bool) : ∀ (l : List α) (f : Nat → Bool), (∀ i x, l[i]? = some x → f i = P x) → ((List.range l.length).filter f).map (fun i => l[i]?) = (l.filter P).map some := by
  intro l
  induction l with
  | nil => intro f _; rfl
  | cons x l ih =>
    intro f hf
    rw [List.length_cons, List.range_succ_eq_map, List.filter_cons, List.filter_cons, hf 0 x rfl]
    have k := ih (fun i => f (i + 1)) fun i y hy => hf (i + 1) y (by simpa using hy)
    have e : ((List.range l.length).map Nat.succ).filter f = ((List.range l.length).filter (fun i => f (i + 1))).map Nat.succ := by
      rw [List.filter_map]
      rfl
    have e2 : (((List.range l.length).map Nat.succ).filter f).map (fun i => (x :: l)[i]?) = (l.filter P).map some := by
      rw [e, List.map_map, ← k]
      rfl
    split
    · rw [List.map_cons, List.map_cons, e2]
      rfl
    · exact e2
/-- which turns give, told over a list of numbers -/
theorem given_vis {l : List Nat} {f : Nat → Bool} {v : Nat → V} (P : Nat → Bool) (F : Nat → Nat) (hf : ∀ i x, l[i]? = some x → f i = P x) (hv : ∀ i x, l[i]? = some x → P x = true → v i = vi (F x)) : given l.length f v = ((l.filter P).map F).map vi := by
  have k := range_filter P l f hf
  unfold given
  have e : ((List.range l.length).filter f).map v = (((List.range l.length).filter f).map (fun i => l[i]?)).map (fun o => vi (F (o.getD 0))) := by
    rw [List.map_map]
    refine List.map_congr_left fun i hi => ?_
    obtain ⟨h1, h2⟩ := List.mem_filter.mp hi
    have lt := List.mem_range.mp h1
    have hx := List.getElem?_eq_getElem lt
    rw [hf i _ hx] at h2
    rw [hv i _ hx h2]
    show vi (F l[i]) = vi (F ((l[i]?).getD 0))
    rw [hx]
    rfl
  rw [e, k, List.map_map, List.map_map]
  rfl
theorem given_one {α : Type} {l : List α} {f : Nat → Bool} {P : α → Bool} {r : α} {v : Nat → V} (hf : ∀ i x, l[i]? = some x → f i = P x) (h : l.filter P = [r]) : ∃ i, l[i]? = some r ∧ given l.length f v = [v i] := by
  have k := range_filter P l f hf
  rw [h] at k
  unfold given
  cases z : (List.range l.length).filter f with
  | nil => rw [z] at k; cases k
  | cons i t =>
    rw [z, List.map_cons, List.map_cons, List.map_nil] at k
    injection k with k1 k2
    have : t = [] := List.map_eq_nil_iff.mp k2
    subst this
    exact ⟨i, k1, rfl⟩
theorem pricks_len (n g h e t b : Nat) : (pricksM n g h e t b).length ≤ 2 * n := by
  have k : (placesM n g h t b).length ≤ 2 * n := by
    unfold placesM
    rw [List.length_map]
    exact turnsF_len _ _ _ _ _
  have k2 := List.length_filter_le (fun p => decide (p < n)) (placesM n g h t b)
  unfold pricksM
  split
  · rw [List.length_reverse, List.length_map]
    omega
  · omega
theorem given_rev (l : List Nat) (F : Nat → Nat) : given (l.map vi).reverse.length (fun _ => true) (fun k => vi (F (l.reverse.getD k 0))) = (l.reverse.map F).map vi := by
  rw [List.length_reverse, List.length_map, ← List.length_reverse, given_vis (l := l.reverse) (fun _ => true) F (fun i x hx => rfl) (fun i x hx _ => by rw [List.getD_eq_getElem?_getD, hx]; rfl)]
  rw [List.filter_eq_self.mpr fun _ _ => rfl]
end Nr
namespace Nr

/-! rising lists and their pairs -/
def pairL (l : List Nat) (w : Nat) : List (Nat × Nat) := l.zip (l.drop 1 ++ [w])
theorem pairL_cons (x y : Nat) (l : List Nat) (w : Nat) : pairL (x :: y :: l) w = (x, y) :: pairL (y :: l) w := rfl
theorem pairL_one (x w : Nat) : pairL [x] w = [(x, w)] := rfl
theorem pairL_len : ∀ (l : List Nat) (w : Nat), (pairL l w).length = l.length
  | [], _ => rfl
  | [x], _ => rfl
  | x :: y :: l, w => by rw [pairL_cons, List.length_cons, pairL_len (y :: l) w]; rfl
theorem pairL_mem : ∀ (l : List Nat) (w : Nat) (q : Nat × Nat), q ∈ pairL l w → q.1 ∈ l ∧ (q.2 ∈ l ∨ q.2 = w)
  | [], _, q, h => by cases h
  | [x], w, q, h => by
    rw [pairL_one] at h
    rw [List.mem_singleton.mp h]
    exact ⟨List.mem_singleton.mpr rfl, .inr rfl⟩
  | x :: y :: l, w, q, h => by
    rw [pairL_cons] at h
    rcases List.mem_cons.mp h with rfl | h
    · exact ⟨List.mem_cons_self, .inl (List.mem_cons_of_mem _ List.mem_cons_self)⟩
    · obtain ⟨a, b⟩ := pairL_mem (y :: l) w q h
      exact ⟨List.mem_cons_of_mem _ a, b.imp (List.mem_cons_of_mem _) id⟩
theorem pairL_next : ∀ (l : List Nat) (w : Nat) (i : Nat) (p q : Nat × Nat), (pairL l w)[i]? = some p → (pairL l w)[i + 1]? = some q → p.2 = q.1
  | [], _, i, _, _, h, _ => by cases h
  | [x], w, i, _, _, _, h => by rw [pairL_one] at h; simp at h
  | x :: y :: l, w, 0, p, q, h1, h2 => by
    rw [pairL_cons] at h1 h2
    have e1 : (x, y) = p := Option.some.inj h1
    have h2 : (pairL (y :: l) w)[0]? = some q := h2
    subst e1
    cases l with
    | nil => rw [pairL_one] at h2; have := Option.some.inj h2; rw [← this]
    | cons z l => rw [pairL_cons] at h2; have := Option.some.inj h2; rw [← this]
  | x :: y :: l, w, i + 1, p, q, h1, h2 => pairL_next (y :: l) w i p q h1 h2
theorem pairL_last : ∀ (l : List Nat) (w : Nat), l ≠ [] → ∃ x, (pairL l w).getLast? = some (x, w)
  | [], _, h => absurd rfl h
  | [x], w, _ => ⟨x, rfl⟩
  | x :: y :: l, w, _ => by
    obtain ⟨z, hz⟩ := pairL_last (y :: l) w (by simp)
    refine ⟨z, ?_⟩
    rw [pairL_cons]
    cases hl : pairL (y :: l) w with
    | nil => rw [hl] at hz; cases hz
    | cons a t => rw [hl] at hz; rw [List.getLast?_cons_cons]; exact hz
theorem pairL_lt : ∀ (l : List Nat) (w : Nat), l.Pairwise (· < ·) → (∀ x ∈ l, x < w) → ∀ q ∈ pairL l w, q.1 < q.2 ∧ ∀ x ∈ l, x ≤ q.1 ∨ q.2 ≤ x
  | [], _, _, _, q, h => by cases h
  | [x], w, _, hw, q, h => by
    rw [pairL_one] at h
    rw [List.mem_singleton.mp h]
    refine ⟨hw x (List.mem_singleton.mpr rfl), fun z hz => ?_⟩
    rw [List.mem_singleton.mp hz]
    exact .inl (Nat.le_refl _)
  | x :: y :: l, w, hl, hw, q, h => by
    have p := List.pairwise_cons.mp hl
    rw [pairL_cons] at h
    rcases List.mem_cons.mp h with rfl | h'
    · refine ⟨p.1 y List.mem_cons_self, fun z hz => ?_⟩
      rcases List.mem_cons.mp hz with rfl | hz
      · exact .inl (Nat.le_refl _)
      · rcases List.mem_cons.mp hz with rfl | hz
        · exact .inr (Nat.le_refl _)
        · have := (List.pairwise_cons.mp p.2).1 z hz
          exact .inr (Nat.le_of_lt this)
    · obtain ⟨a, b⟩ := pairL_lt (y :: l) w p.2 (fun z hz => hw z (List.mem_cons_of_mem _ hz)) q h'
      refine ⟨a, fun z hz => ?_⟩
      rcases List.mem_cons.mp hz with rfl | hz
      · exact .inl (Nat.le_of_lt (p.1 _ (pairL_mem _ _ _ h').1))
      · exact b z hz
/-- just one pair holds a place -/
theorem pairL_one_holds (b x : Nat) : ∀ (l : List Nat) (w T : Nat), (T :: l).Pairwise (· < ·) → (∀ z ∈ T :: l, z < w) → T * b ≤ x → x < w * b → ∃ q, (pairL (T :: l) w).filter (fun q => !decide (x < q.1 * b) && decide (x < q.2 * b)) = [q] ∧ q.1 * b ≤ x ∧ x < q.2 * b
  | [], w, T, _, hw, h1, h2 => by
    refine ⟨(T, w), ?_, h1, h2⟩
    rw [pairL_one, List.filter_cons, if_pos (by simp; omega)]
    rfl
  | U :: l, w, T, hl, hw, h1, h2 => by
    have p := List.pairwise_cons.mp hl
    rw [pairL_cons, List.filter_cons]
    rcases Nat.lt_or_ge x (U * b) with z | z
    · refine ⟨(T, U), ?_, h1, z⟩
      rw [if_pos (by simp; omega)]
      congr 1
      refine List.filter_eq_nil_iff.mpr fun q hq => ?_
      have hq1 := (pairL_mem _ _ _ hq).1
      have hU : U ≤ q.1 := by
        rcases List.mem_cons.mp hq1 with e | e
        · omega
        · exact Nat.le_of_lt ((List.pairwise_cons.mp p.2).1 _ e)
      have := Nat.mul_le_mul_right b hU
      simp
      omega
    · obtain ⟨q, hq, k⟩ := pairL_one_holds b x l w U p.2 (fun z hz => hw z (List.mem_cons_of_mem _ hz)) z h2
      refine ⟨q, ?_, k⟩
      rw [if_neg (by simp; omega)]
      exact hq

/-! the tops -/
section
variable {n g h : Nat}
theorem lcm_dvd_fold : ∀ (l : List Nat) (m : Nat), m ∣ l.foldl (fun m n => m * n / Nat.gcd m n) m ∧ ∀ x ∈ l, x ∣ l.foldl (fun m n => m * n / Nat.gcd m n) m
  | [], m => ⟨Nat.dvd_refl m, fun x hx => by cases hx⟩
  | y :: l, m => by
    obtain ⟨a, b⟩ := lcm_dvd_fold l (Nat.lcm m y)
    refine ⟨Nat.dvd_trans (Nat.dvd_lcm_left m y) a, fun x hx => ?_⟩
    rcases List.mem_cons.mp hx with rfl | hx
    · exact Nat.dvd_trans (Nat.dvd_lcm_right m x) a
    · exact b x hx
theorem turn_dvd {q : Nat × Nat} (hq : q ∈ turnsM n g h) : q.2 ∣ wholeM n g h := (lcm_dvd_fold _ 1).2 q.2 (List.mem_map.mpr ⟨q, hq, rfl⟩)
theorem raw_mem (w : Nat) (rws : List (Nat × Nat)) (x : Nat) : x ∈ rawM n w rws ↔ ∃ q ∈ rws, ∃ p, p ≤ n ∧ q.1 ≤ 2 * p ∧ 2 * p < q.1 + q.2 ∧ x = (2 * p - q.1) * (w / q.2) := by
  unfold rawM rowPre
  rw [List.mem_flatten]
  constructor
  · rintro ⟨l, hl, hx⟩
    obtain ⟨q, hq, rfl⟩ := List.mem_map.mp hl
    obtain ⟨p, hp, rfl⟩ := List.mem_map.mp hx
    obtain ⟨h1, h2⟩ := List.mem_filter.mp hp
    unfold inRow at h2
    rw [Bool.and_eq_true, decide_eq_true_eq, decide_eq_true_eq] at h2
    have := List.mem_range.mp h1
    exact ⟨q, hq, p, by omega, h2.1, h2.2, rfl⟩
  · rintro ⟨q, hq, p, h1, h2, h3, rfl⟩
    refine ⟨_, List.mem_map.mpr ⟨q, hq, rfl⟩, List.mem_map.mpr ⟨p, List.mem_filter.mpr ⟨List.mem_range.mpr (by omega), ?_⟩, rfl⟩⟩
    unfold inRow
    rw [Bool.and_eq_true, decide_eq_true_eq, decide_eq_true_eq]
    exact ⟨h2, h3⟩
theorem tops_mem (x : Nat) : x ∈ topsM n g h ↔ x = 0 ∨ x ∈ rawM n (wholeM n g h) (turnsM n g h) := by
  unfold topsM marksM
  rw [sortU_mem, List.mem_cons]
theorem tops_up : (topsM n g h).Pairwise (· < ·) := sortU_up _
theorem turn_pos (hg : 0 < g) {q : Nat × Nat} (hq : q ∈ turnsM n g h) : 0 < q.2 := by
  have := turnsF_mem _ _ _ _ _ q hq
  omega
theorem tops_ltA (hg : 0 < g) : ∀ x ∈ topsM n g h, x < wholeM n g h := fun x hx => by
  have hw := wholeM_pos (n := n) (h := h) hg
  rcases (tops_mem x).mp hx with rfl | hx
  · exact hw
  · obtain ⟨q, hq, p, h1, h2, h3, rfl⟩ := (raw_mem _ _ x).mp hx
    have d := Nat.div_mul_cancel (turn_dvd hq)
    have hp := turn_pos hg hq
    have hk : 0 < wholeM n g h / q.2 := Nat.div_pos (Nat.le_of_dvd hw (turn_dvd hq)) hp
    calc (2 * p - q.1) * (wholeM n g h / q.2) < q.2 * (wholeM n g h / q.2) := Nat.mul_lt_mul_of_pos_right (by omega) hk
      _ = wholeM n g h := by rw [Nat.mul_comm]; exact d
theorem tops_cons (hg : 0 < g) : ∃ l, topsM n g h = 0 :: l := by
  have h0 : 0 ∈ topsM n g h := (tops_mem 0).mpr (.inl rfl)
  have up := tops_up (n := n) (g := g) (h := h)
  cases hl : topsM n g h with
  | nil => rw [hl] at h0; cases h0
  | cons x l =>
    rw [hl] at h0 up
    rcases List.mem_cons.mp h0 with z | z
    · exact ⟨l, by rw [← z]⟩
    · have := (List.pairwise_cons.mp up).1 0 z
      omega
theorem pairs_is : pairsM n g h = pairL (topsM n g h) (wholeM n g h) := rfl

/-! a needle within a stretch pricks as at its begin -/
theorem same_place (hg : 2 ≤ g) {t b : Nat} (hb : 0 < b) (htb : t < b) {Q : Nat × Nat} (hQ : Q ∈ pairsM n g h) (h1 : Q.1 * b ≤ t * wholeM n g h) (h2 : t * wholeM n g h < Q.2 * b) {q : Nat × Nat} (hq : q ∈ turnsM n g h) :
    placeN t b q = placeN Q.1 (wholeM n g h) q ∨ (n ≤ placeN t b q ∧ n ≤ placeN Q.1 (wholeM n g h) q) := by
  have hw := wholeM_pos (n := n) (h := h) (show 0 < g by omega)
  have dd := Nat.div_mul_cancel (turn_dvd hq)
  have gap := (pairL_lt _ _ tops_up (tops_ltA (show 0 < g by omega)) Q hQ).2
  generalize hW : wholeM n g h = w at *
  obtain ⟨T, U⟩ := Q
  obtain ⟨bg, l⟩ := q
  show placeN t b (bg, l) = placeN T w (bg, l) ∨ (n ≤ placeN t b (bg, l) ∧ n ≤ placeN T w (bg, l))
  have h1 : T * b ≤ t * w := h1
  have h2 : t * w < U * b := h2
  have dd : w / l * l = w := dd
  -- the later place is not lower
  have mono : placeN T w (bg, l) ≤ placeN t b (bg, l) := by
    unfold placeN
    show (bg * w + l * T) / (2 * w) ≤ (bg * b + l * t) / (2 * b)
    rw [Nat.le_div_iff_mul_le (by omega)]
    have k : (bg * w + l * T) / (2 * w) * (2 * w) ≤ bg * w + l * T := Nat.div_mul_le_self _ _
    generalize (bg * w + l * T) / (2 * w) = P at k ⊢
    -- multiply by b, divide by w
    have k2 : P * (2 * b) * w ≤ (bg * b + l * t) * w := by
      have a1 : P * (2 * w) * b ≤ (bg * w + l * T) * b := Nat.mul_le_mul_right b k
      have a2 : P * (2 * b) * w = P * (2 * w) * b := by
        rw [Nat.mul_assoc P, Nat.mul_assoc P, Nat.mul_assoc 2, Nat.mul_assoc 2, Nat.mul_comm b w]
      have a3 : (bg * w + l * T) * b ≤ (bg * b + l * t) * w := by
        rw [Nat.add_mul, Nat.add_mul, Nat.mul_assoc bg, Nat.mul_assoc bg, Nat.mul_comm w b, Nat.mul_assoc l, Nat.mul_assoc l]
        exact Nat.add_le_add_left (Nat.mul_le_mul_left l h1) _
      omega
    exact Nat.le_of_mul_le_mul_right k2 hw
  rcases Nat.lt_or_ge (placeN T w (bg, l)) (placeN t b (bg, l)) with lt | ge
  · -- a cell begins between
    refine .inr ?_
    have low : n ≤ placeN T w (bg, l) := by
      refine Nat.le_of_not_lt fun hlt => ?_
      obtain ⟨c, hc⟩ : ∃ c, c = placeN T w (bg, l) + 1 := ⟨_, rfl⟩
      have hcn : c ≤ n := by omega
      have hct : c ≤ placeN t b (bg, l) := by omega
      -- beyond the begin
      have b1 : bg * w + l * T < 2 * c * w := by
        have : (bg * w + l * T) / (2 * w) < c := by
          show placeN T w (bg, l) < c
          omega
        have := (Nat.div_lt_iff_lt_mul (by omega)).mp this
        rw [show 2 * c * w = c * (2 * w) by rw [Nat.mul_comm 2 c, Nat.mul_assoc]]
        exact this
      have b2 : 2 * c * b ≤ bg * b + l * t := by
        have := (Nat.le_div_iff_mul_le (show 0 < 2 * b by omega)).mp hct
        rw [show 2 * c * b = c * (2 * b) by rw [Nat.mul_comm 2 c, Nat.mul_assoc]]
        exact this
      have b3 : bg < 2 * c := by
        refine Nat.lt_of_mul_lt_mul_right (a := w) ?_
        omega
      have b4 : l * t < l * b := by
        rcases Nat.eq_zero_or_pos l with z | z
        · subst z
          simp at dd
          omega
        · exact Nat.mul_lt_mul_of_pos_left htb z
      have b5 : 2 * c < bg + l := by
        refine Nat.lt_of_mul_lt_mul_right (a := b) ?_
        rw [Nat.add_mul]
        omega
      -- the mark
      have hm : (2 * c - bg) * (w / l) ∈ topsM n g h := (tops_mem _).mpr (.inr ((raw_mem _ _ _).mpr ⟨(bg, l), hq, c, hcn, by show bg ≤ 2 * c; omega, b5, by rw [hW]⟩))
      have hl0 : 0 < l := by omega
      have m1 : T < (2 * c - bg) * (w / l) := by
        refine Nat.lt_of_mul_lt_mul_right (a := l) ?_
        rw [Nat.mul_assoc, dd, Nat.sub_mul, Nat.mul_comm T l]
        omega
      have m2 : (2 * c - bg) * (w / l) * b ≤ t * w := by
        have a1 : (2 * c - bg) * b ≤ l * t := by
          rw [Nat.sub_mul]
          omega
        have a2 := Nat.mul_le_mul_left (w / l) a1
        rw [show (2 * c - bg) * (w / l) * b = w / l * ((2 * c - bg) * b) by rw [Nat.mul_comm (2 * c - bg), Nat.mul_assoc]]
        rw [show t * w = w / l * (l * t) by rw [← Nat.mul_assoc, dd, Nat.mul_comm]]
        exact a2
      rcases gap _ hm with z | z
      · have z : (2 * c - bg) * (w / l) ≤ T := z
        omega
      · have z : U ≤ (2 * c - bg) * (w / l) := z
        have := Nat.mul_le_mul_right b z
        omega
    exact ⟨Nat.le_trans low mono, low⟩
  · exact .inl (Nat.le_antisymm ge mono)
theorem filter_same {n : Nat} {f f' : Nat × Nat → Nat} : ∀ (l : List (Nat × Nat)), (∀ q ∈ l, f q = f' q ∨ (n ≤ f q ∧ n ≤ f' q)) → (l.map f).filter (fun p => decide (p < n)) = (l.map f').filter (fun p => decide (p < n))
  | [], _ => rfl
  | q :: l, h => by
    rw [List.map_cons, List.map_cons, List.filter_cons, List.filter_cons, filter_same l fun x hx => h x (List.mem_cons_of_mem _ hx)]
    rcases h q List.mem_cons_self with e | ⟨a, b⟩
    · rw [e]
    · rw [if_neg (by simp; omega), if_neg (by simp; omega)]
theorem same_pricks (hg : 2 ≤ g) {t b e : Nat} (hb : 0 < b) (htb : t < b) {Q : Nat × Nat} (hQ : Q ∈ pairsM n g h) (h1 : Q.1 * b ≤ t * wholeM n g h) (h2 : t * wholeM n g h < Q.2 * b) :
    pricksM n g h e Q.1 (wholeM n g h) = pricksM n g h e t b := by
  have k : (placesM n g h t b).filter (fun p => decide (p < n)) = (placesM n g h Q.1 (wholeM n g h)).filter (fun p => decide (p < n)) := filter_same _ fun q hq => same_place hg hb htb hQ h1 h2 hq
  unfold pricksM
  rw [k]
end
open PySem PySem.Spec PyProof.Rows L2 Evl
theorem inV_vis (c : Nat) : ∀ l : List Nat, inV (vi c) (l.map vi) = l.contains c
  | [] => rfl
  | x :: l => by
    have ih := inV_vis c l
    unfold inV at ih ⊢
    rw [List.map_cons, List.any_cons, ih, List.contains_cons]
    congr 1
    show (((x : Int) == (c : Int)) : Bool) = (c == x)
    rw [Bool.eq_iff_iff, beq_iff_eq, beq_iff_eq]
    omega
/-- which stretch an angle lies in -/
theorem angle_in {n g h e t b : Nat} (hg : 2 ≤ g) (htb : t < b) : ∃ Q ∈ pairsM n g h, pricksM n g h e t b = pricksM n g h e Q.1 (wholeM n g h) := by
  obtain ⟨l, hl⟩ := tops_cons (n := n) (g := g) (h := h) (by omega)
  have hw : 0 < wholeM n g h := wholeM_pos (by omega)
  have up := tops_up (n := n) (g := g) (h := h)
  have lt := tops_ltA (n := n) (g := g) (h := h) (by omega)
  rw [hl] at up lt
  have h2 : t * wholeM n g h < wholeM n g h * b := by
    rw [Nat.mul_comm (wholeM n g h) b]
    exact Nat.mul_lt_mul_of_pos_right htb hw
  obtain ⟨Q, hQ, q1, q2⟩ := pairL_one_holds b (t * wholeM n g h) l (wholeM n g h) 0 up lt (by omega) h2
  have hm : Q ∈ pairsM n g h := by
    rw [pairs_is, hl]
    have : Q ∈ (pairL (0 :: l) (wholeM n g h)).filter (fun q => !decide (t * wholeM n g h < q.1 * b) && decide (t * wholeM n g h < q.2 * b)) := by rw [hQ]; exact List.mem_singleton.mpr rfl
    exact (List.mem_filter.mp this).1
  exact ⟨Q, hm, (same_pricks hg (by omega) htb hm q1 q2).symm⟩
end Nr
namespace Nr
open PySem PySem.Spec PyProof.Rows L2 Evl

/-! rules -/
section
variable {X : Cx}
def rAllD (K : PySem.W.Frag) : List V → Hp → VK → Prop := fun vs H Q => ∃ (a : Addr) (ds : List PyData), vs = [V.ref a] ∧ Dp K H (.ref a) (.list ds) ∧ PyData.plainAll ds = true ∧ (∀ x ∈ ds, x.fits63) ∧ Q (.bl (ds.all PyData.truthy)) H
theorem cr_allD (hc : X.calm = true) : CallR X (.builtin "all") (rAllD X.K) := by
  intro pins s σ H vs us Q I r h
  obtain ⟨a, ds, rfl, hd, hp, hf, q⟩ := h
  rw [Vals.ref1 r]
  cases hd with
  | lst hs ha =>
    obtain ⟨its, rv, hl, _⟩ := I.list hs
    obtain ⟨as, h4⟩ := Dp.readsAll I ds _ its ha rv
    exact PySem.W.all_list_data (I.ok.hd hc) hl.isList h4 hp hf fun h' tk hk => ⟨.bl _, H, I.kept (t' := tk) hk, rfl, q⟩
def rNotInL (K : PySem.W.Frag) : R2 := fun x y H Q => ∃ d ds, Dp K H x d ∧ Dp K H y (.list ds) ∧ SeqAt.shaped d = true ∧ SeqAt.shaped (.list ds) = true ∧ d.depth ≤ 10 ∧ Q (.bl (!ds.any fun z => PyData.eqv z d)) H
theorem op_notInL (hu : X.A.units + 64 < cLine) : OpR X (compareOp .NotIn) (rNotInL X.K) := by
  intro pins s σ H x y v u Q I rx ry h
  obtain ⟨d, ds, hd, he, sd, se, hdp, q⟩ := h
  obtain ⟨as, r1⟩ := Dp.reads I d x v hd rx
  obtain ⟨bs, r2⟩ := Dp.reads I (.list ds) y u he ry
  exact SeqAt.notIn_list_reads r2 r1 (SeqAt.canLay_of_shaped se) (SeqAt.canLay_of_shaped sd) (by have := Nat.min_le_right (PyData.depthAll ds) d.depth; omega) ⟨.bl _, H, I, rfl, q⟩
def rSetT (K : PySem.W.Frag) (w : World) : List V → Hp → VK → Prop := fun vs H Q => ∃ (p : Addr) (ns : List Int), vs = [.ref p] ∧ SqT K H p (ns.map V.int) ∧ ns.length ≤ 1000 ∧ ∀ q c, H q = none → c ≤ ns.length → Q (.ref q) (upd H q (SetO w q (fun j => decide (j ∈ ns)) c))
theorem cr_setT (hc : X.calm = true) : CallR X (.type "set") (rSetT X.K X.w) := by
  intro pins s σ H vs us Q I r h
  obtain ⟨p, ns, rfl, hq, hl, q⟩ := h
  rw [Vals.ref1 r]
  obtain ⟨its, rv, pt, hz⟩ := I.tuple hq
  have hi : IntsAre its.toArray.toList ns := ints_of_vals rv
  refine call_set_tupI ns (I.ok.hd hc) (show s.heap.IsTuple p its.toArray from pt) hi (by unfold scanBound; omega) fun h' tk c R1 hcn k => ?_
  exact ⟨.ref s.heap.objs.size, _, I.laid (t' := tk) k (Nat.le_refl _) (setO_new R1), rfl, q _ c (I.hok.fresh (Nat.le_refl _)) hcn⟩
end
section
variable {K : PySem.W.Frag} {σ : L2.St} {H : Hp} {t : TT} {te : TE}
theorem el_lcT {a : Addr} {xs : List V} {tl : TE} {j : Nat} {vs : List Nat} (f : Nat → Bool) (v : Nat → V) (h : Ev tl σ H (.ref a)) (hx : SqT K H a xs) (hz : xs.length ≤ 40000) (hw : ∀ x, wipe ((wipe σ vs).set j (some x)) vs = wipe σ vs)
    (ht : ∀ (i : Nat) (x : V) H1, Ex H H1 → xs[i]? = some x → EvT t ((wipe σ vs).set j (some x)) H1 (f i)) (he : ∀ (i : Nat) (x : V) H1, Ex H H1 → xs[i]? = some x → f i = true → Ev te ((wipe σ vs).set j (some x)) H1 (v i)) :
    EvL (tLc (iTup K tl) (gName j) t te vs) σ H (given xs.length f v) := fun H0 e Q q => h H0 e _ fun H1 e1 => ⟨a, rfl, ⟨xs, ex_t (e.trans e1) hx⟩, fun Dl hD =>
  lc_tup (xs := xs) (Cw H1 f v Dl) ⟨hD, Ex.new hD, upd_same⟩ (fun i H' _ p => ex_t ((e.trans e1).trans p.2.1) hx) (fun i x H' hi p => ⟨hw x, cw_turn p (by have := (List.getElem?_eq_some_iff.mp hi).1; omega) (ht i x H1 (e.trans e1) hi) (fun hf => he i x H1 (e.trans e1) hi hf)⟩)
    (fun H' p => q Dl H' (fresh_back e1 p.1) (e1.trans p.2.1) p.2.2)⟩
end
theorem flat_vis (l : List Nat) : (l.map vi).all flatV = true := by
  rw [List.all_eq_true]
  intro x hx
  obtain ⟨n, _, rfl⟩ := List.mem_map.mp hx
  rfl
/-- the comprehension [x for x in l if P x], over numbers -/
theorem given_filter {l : List Nat} {f : Nat → Bool} {v : Nat → V} (P : Nat → Bool) (hf : ∀ i x, l[i]? = some x → f i = P x) (hv : ∀ i x, l[i]? = some x → v i = vi x) : given l.length f v = (l.filter P).map vi := by
  have := given_vis (l := l) (f := f) (v := v) P (fun x => x) hf (fun i x hx _ => hv i x hx)
  rw [List.map_id'] at this
  exact this

end Nr
namespace Nr
open PySem PySem.Spec PyProof.Rows L2 Evl

/-! the numbers -/
def unwM (cs ws : List Nat) : List Nat := cs.filter fun c => !ws.contains c
def minN : List Nat → Nat
  | [] => 0
  | x :: l => l.foldl min x
theorem foldl_min : ∀ (l : List Nat) (x : Nat), l.foldl min x ≤ x ∧ (∀ y ∈ l, l.foldl min x ≤ y) ∧ (l.foldl min x = x ∨ l.foldl min x ∈ l)
  | [], x => ⟨Nat.le_refl _, (fun y hy => by cases hy), .inl rfl⟩
  | y :: l, x => by
    obtain ⟨h1, h2, h3⟩ := foldl_min l (min x y)
    show l.foldl min (min x y) ≤ x ∧ (∀ z ∈ y :: l, l.foldl min (min x y) ≤ z) ∧ (l.foldl min (min x y) = x ∨ l.foldl min (min x y) ∈ y :: l)
    refine ⟨by omega, fun z hz => ?_, ?_⟩
    · rcases List.mem_cons.mp hz with rfl | hz
      · omega
      · exact h2 z hz
    · rcases h3 with h3 | h3
      · rcases Nat.le_total x y with a | a
        · exact .inl (by omega)
        · exact .inr (by rw [h3, Nat.min_eq_right a]; exact List.mem_cons_self)
      · exact .inr (List.mem_cons_of_mem _ h3)
theorem minN_is {l : List Nat} (h : l ≠ []) : minN l ∈ l ∧ ∀ y ∈ l, minN l ≤ y := by
  cases l with
  | nil => exact absurd rfl h
  | cons x l =>
    obtain ⟨h1, h2, h3⟩ := foldl_min l x
    refine ⟨?_, fun y hy => ?_⟩
    · rcases h3 with h3 | h3
      · show l.foldl min x ∈ x :: l
        rw [h3]
        exact List.mem_cons_self
      · exact List.mem_cons_of_mem _ h3
    · rcases List.mem_cons.mp hy with rfl | hy
      · exact h1
      · exact h2 y hy
def grpM (n g h e : Nat) : List (List Nat) := (pairsM n g h).map fun q => pricksM n g h e q.1 (wholeM n g h)
def harmsM (G : List (List Nat)) (ws : List Nat) (c : Nat) : List (List Nat) := (G.filter fun lot => lot.contains c).map fun lot => unwM lot ws
def allSome (L : List (List Nat)) : Bool := L.all fun l => !l.isEmpty
def barP (G : List (List Nat)) (ws l : List Nat) : List (Nat × List Nat) := (l.filter fun c => allSome (harmsM G ws c)).map fun c => (c, (harmsM G ws c).map minN)
def barM (G : List (List Nat)) (ws : List Nat) : List (Nat × List Nat) := barP G ws ws
def goodM (G : List (List Nat)) (ws : List Nat) : List Nat := ws.filter fun c => !((barM G ws).map (·.1)).contains c
def bD (p : Nat × List Nat) : PyData := .tuple [di p.1, .tuple (p.2.map di)]
theorem noL_bD (p : Nat × List Nat) : noL (bD p) = true := by
  unfold bD
  rw [noL, noLs, noLs, noLs, noL, noLs_dis, noL]
  rfl
theorem barP_yes {G : List (List Nat)} {ws l : List Nat} {c : Nat} (h : allSome (harmsM G ws c) = true) : barP G ws (l ++ [c]) = barP G ws l ++ [(c, (harmsM G ws c).map minN)] := by
  unfold barP
  rw [List.filter_append, List.map_append, List.filter_cons, if_pos h]
  rfl
theorem barP_no {G : List (List Nat)} {ws l : List Nat} {c : Nat} (h : allSome (harmsM G ws c) = false) : barP G ws (l ++ [c]) = barP G ws l := by
  unfold barP
  rw [List.filter_append, List.map_append, List.filter_cons, if_neg (by rw [h]; decide)]
  simp
theorem barP_len {G : List (List Nat)} {ws : List Nat} (l : List Nat) : (barP G ws l).length ≤ l.length := by
  unfold barP
  rw [List.length_map]
  exact List.length_filter_le _ _
theorem grp_len {n g h e : Nat} : (grpM n g h e).length = (strM n g h e).length := by
  unfold grpM strM
  rw [List.length_map, List.length_map]
theorem str_len {n g h e : Nat} (hn : n ≤ 24) (hg : 4 ≤ g) (hg2 : g ≤ 16) (hh : h ≤ 8) : (strM n g h e).length ≤ 61 := by
  obtain ⟨_, hraw⟩ := ok_at hn hg hg2 hh
  have := sortU_len (0 :: rawM n (wholeM n g h) (turnsM n g h))
  rw [List.length_cons] at this
  unfold strM pairsM
  rw [List.length_map, List.length_zip]
  unfold topsM marksM
  omega
/-- a stretch, taken apart -/
theorem str_get {K : PySem.W.Frag} {H : Hp} {v : V} {n g h e w : Nat} {q : Nat × Nat} (d : Dp K H v (strD n g h e w q)) : ∃ ra a b ca, v = .ref ra ∧ SqT K H ra [a, b, .ref ca] ∧ Dp K H a (lowD q.1 w) ∧ Dp K H b (lowD q.2 w) ∧ SqT K H ca ((pricksM n g h e q.1 w).map vi) := by
  unfold strD at d
  obtain ⟨ra, xs, rfl, hs, ha⟩ := dp_tup d
  cases ha with
  | cons h1 ha =>
  cases ha with
  | cons h2 ha =>
  cases ha with
  | cons h3 ha =>
  cases ha
  obtain ⟨ca, ys, rfl, h4, h5⟩ := dp_tup h3
  have e : ys = (pricksM n g h e q.1 w).map vi := by
    have h6 : DpAll K H ys (((pricksM n g h e q.1 w).map fun k : Nat => (k : Int)).map PyData.int) := by
      rw [List.map_map]
      exact h5
    have := dpa_ints h6
    rw [List.map_map] at this
    exact this
  rw [e] at h4
  exact ⟨ra, _, _, ca, rfl, hs, h1, h2, h4⟩
theorem grp_at {n g h e i : Nat} {d : PyData} (hd : (strM n g h e)[i]? = some d) : ∃ q, (pairsM n g h)[i]? = some q ∧ d = strD n g h e (wholeM n g h) q ∧ (grpM n g h e)[i]? = some (pricksM n g h e q.1 (wholeM n g h)) := by
  unfold strM at hd
  rw [List.getElem?_map] at hd
  obtain ⟨q, hq, rfl⟩ := Option.map_eq_some_iff.mp hd
  refine ⟨q, hq, rfl, ?_⟩
  unfold grpM
  rw [List.getElem?_map, hq]
  rfl
/-- lists of numbers, each at its own place -/
abbrev Lots (H : Hp) (D : Addr) : List V → List (List Nat) → Prop := Paired fun v l => ∃ q, v = .ref q ∧ q ≠ D ∧ H q = some (.lst (l.map vi))
theorem Lots.ex {H H' : Hp} {D : Addr} {vs : List V} {L : List (List Nat)} (h : Lots H D vs L) (e : Ex H H') : Lots H' D vs L := Paired.mapP h fun _ _ ⟨q, a, b, c⟩ => ⟨q, a, b, e _ _ c⟩
theorem Lots.mut {H : Hp} {D : Addr} {o : HO} {vs : List V} {L : List (List Nat)} (h : Lots H D vs L) : Lots (upd H D o) D vs L := Paired.mapP h fun _ _ ⟨q, a, b, c⟩ => ⟨q, a, b, by rw [upd_ne b]; exact c⟩
theorem Lots.dp {K : PySem.W.Frag} {H : Hp} {D : Addr} : ∀ {vs : List V} {L : List (List Nat)}, Lots H D vs L → DpAll K H vs (L.map fun l => .list (l.map di))
  | _, _, .nil => .nil
  | _, _, .cons ⟨q, a, b, c⟩ t => by
    subst a
    exact .cons (lst_of c) (Lots.dp t)
theorem lots_plain : ∀ L : List (List Nat), PyData.plainAll (L.map fun l => PyData.list (l.map di)) = true
  | [] => rfl
  | l :: L => by
    have h1 : ∀ k : List Nat, PyData.plainAll (k.map di) = true := fun k => by
      induction k with
      | nil => rfl
      | cons x k ih => rw [List.map_cons, PyData.plainAll, ih]; rfl
    rw [List.map_cons, PyData.plainAll, lots_plain L, PyData.plain, h1 l]
    rfl
theorem lots_truth (L : List (List Nat)) : (L.map fun l => PyData.list (l.map di)).all PyData.truthy = allSome L := by
  unfold allSome
  rw [List.all_map]
  refine List.all_congr rfl fun l => ?_
  show (!(l.map di).isEmpty) = !l.isEmpty
  cases l <;> rfl
theorem harms_yes {G : List (List Nat)} {ws lot : List Nat} {c : Nat} (h : lot.contains c = true) : harmsM (G ++ [lot]) ws c = harmsM G ws c ++ [unwM lot ws] := by
  unfold harmsM
  rw [List.filter_append, List.map_append, List.filter_cons, if_pos h]
  rfl
theorem harms_no {G : List (List Nat)} {ws lot : List Nat} {c : Nat} (h : lot.contains c = false) : harmsM (G ++ [lot]) ws c = harmsM G ws c := by
  unfold harmsM
  rw [List.filter_append, List.map_append, List.filter_cons, if_neg (by rw [h]; decide)]
  exact List.append_nil _
theorem grp_short {n g h e : Nat} {lot : List Nat} (hl : lot ∈ grpM n g h e) : lot.length ≤ 2 * n := by
  obtain ⟨q', _, rfl⟩ := List.mem_map.mp hl
  exact pricks_len n g h e q'.1 (wholeM n g h)
theorem harms_short {n g h e : Nat} {ws : List Nat} {c : Nat} {l : List Nat} (hl : l ∈ harmsM (grpM n g h e) ws c) : l.length ≤ 2 * n := by
  obtain ⟨lot, h1, rfl⟩ := List.mem_map.mp hl
  have := grp_short (List.mem_filter.mp h1).1
  exact Nat.le_trans (List.length_filter_le _ _) this
theorem given_all (n : Nat) (v : Nat → V) : given n (fun _ => true) v = (List.range n).map v := by
  unfold given
  rw [List.filter_eq_self.mpr fun _ _ => rfl]
theorem range_at {α : Type} (l : List α) (d : α) (F : α → V) : (List.range l.length).map (fun i => F (l.getD i d)) = l.map F := by
  refine List.ext_getElem (by simp) fun i h1 h2 => ?_
  simp at h1
  simp [h1]
section
variable {K : PySem.W.Frag} {σ : L2.St} {H : Hp}
theorem ev_minL {q : Addr} {l : List Nat} {j : Nat} (hj : σ[j]? = some (some (.ref q))) (hq : H q = some (.lst (l.map vi))) (hl : l ≠ []) : Ev (tCB (rMin K) (tCons (tVar j) tNil)) σ H (vi (minN l)) := fun H1 e Q q' => by
  refine ⟨.ref q, hj, q, l.map fun k : Nat => (k : Int), rfl, ?_, by rw [List.length_map]; exact List.length_pos_iff.mpr hl, fun m hm hmin => ?_⟩
  · rw [List.map_map]
    exact sq_of (e _ _ hq)
  · obtain ⟨k, hk, rfl⟩ := List.mem_map.mp hm
    obtain ⟨m1, m2⟩ := minN_is hl
    have h1 := m2 k hk
    have h2 := hmin (minN l : Nat) (List.mem_map.mpr ⟨_, m1, rfl⟩)
    have : k = minN l := by omega
    rw [this]
    exact q' H1 (Ex.refl H1)
theorem tc_one {r : List V → Hp → VK → Prop} {tl : TE} {Q : VK} (h : tl σ H fun x H1 => r [x] H1 Q) : tCB r (tCons tl tNil) σ H Q := h
theorem ta_one {te : TE} {Q : List V → Hp → Prop} (h : te σ H fun x H1 => Q [x] H1) : tCons te tNil σ H Q := h
def rTupS (K : PySem.W.Frag) : List V → Hp → VK → Prop := fun xs H Q => ∃ p ys, xs = [.ref p] ∧ ((SqL K H p ys ∧ ∀ l, H l = none → Q (.ref l) (upd H l (.tup ys))) ∨ (SqT K H p ys ∧ Q (.ref p) H))
theorem eu_tupleOf {tl : TE} {xs : List V} (h : EvL tl σ H xs) : EvU (tCB (rTupS K) (tCons tl tNil)) σ H xs := fun H1 e Q q =>
  h H1 e _ fun p H2 hp e2 hx => ⟨p, xs, rfl, .inl ⟨sq_of hx, fun l hl => q l _ (fresh_back e2 hl) (e2.trans (Ex.new hl)) upd_same⟩⟩
/-- [min(x) for x in xs], xs a list of lists of numbers -/
theorem el_mins {D : Addr} {hs : List V} {L : List (List Nat)} {i j : Nat} {vs : List Nat} (hi : Ev (tVar i) σ H (.ref D)) (hD : H D = some (.lst hs)) (hL : Lots H D hs L) (ha : allSome L = true) (hz : hs.length ≤ 1000) (hw : ∀ x, wipe ((wipe σ vs).set j (some x)) vs = wipe σ vs) (hj : ∀ x, ((wipe σ vs).set j (some x))[j]? = some (some x)) :
    EvL (tLc (iList K (tVar i)) (gName j) tYes (tCB (rMin K) (tCons (tVar j) tNil)) vs) σ H ((L.map minN).map vi) := by
  have k := el_lcL (K := K) (σ := σ) (H := H) (t := tYes) (te := tCB (rMin K) (tCons (tVar j) tNil)) (tl := tVar i) (j := j) (vs := vs) (fun _ => true) (fun i => vi (minN (L.getD i []))) hi (sq_of hD) (by omega) hw (fun i x H1 e1 hx => et_yes) (fun i x H1 e1 hx _ => ?_)
  · have el : hs.length = L.length := Paired.length hL
    rw [el, given_all, range_at L [] (fun l => vi (minN l))] at k
    rw [List.map_map]
    exact k
  · obtain ⟨l, hl, q, rfl, _, hq⟩ := paired_get hL hx
    have e : L.getD i [] = l := by rw [List.getD_eq_getElem?_getD, hl]; rfl
    rw [e]
    refine ev_minL (hj _) (e1 _ _ hq) ?_
    intro z
    unfold allSome at ha
    have := List.all_eq_true.mp ha l (List.mem_of_getElem? hl)
    rw [z] at this
    cases this
theorem rc_allL {D : Addr} {hs : List V} {L : List (List Nat)} (hD : H D = some (.lst hs)) (hL : Lots H D hs L) (hz : ∀ l ∈ L, l.length ≤ 1000) : RC (rAllD K) [.ref D] H (.bl (allSome L)) := fun H1 e Q q => by
  refine ⟨D, L.map fun l => .list (l.map di), rfl, .lst (sq_of (e _ _ hD)) (hL.ex e).dp, lots_plain L, fun x hx => ?_, ?_⟩
  · obtain ⟨l, hl, rfl⟩ := List.mem_map.mp hx
    have := hz l hl
    show (((l.map di).length : Nat) : Int) < 2 ^ 63
    rw [List.length_map]
    omega
  · rw [lots_truth]
    exact q H1 (Ex.refl H1)
end
theorem sh_lots (L : List (List Nat)) : SeqAt.shaped (.list (L.map fun l => .list (l.map di))) = true := (shp_list (k := 1) (f := fun l : List Nat => PyData.list (l.map di)) (fun l => shp_list (f := di) (fun n : Nat => shp_int 0 (n : Int)) l) L).ok (by decide)
theorem lots_no (L : List (List Nat)) : (!(L.map fun l => PyData.list (l.map di)).any fun z => PyData.eqv z (.list [])) = allSome L := by
  unfold allSome
  induction L with
  | nil => rfl
  | cons l L ih =>
    rw [List.map_cons, List.any_cons, List.all_cons, ← ih, Bool.not_or]
    congr 1
    cases l <;> rfl
theorem unw_lc {K : PySem.W.Frag} {σ : L2.St} {H : Hp} {a b : Addr} {cs ws : List Nat} {i j m : Nat} {vs : List Nat} (hi : Ev (tVar i) σ H (.ref a)) (ha : SqT K H a (cs.map vi)) (hb : SqT K H b (ws.map vi)) (hl : cs.length ≤ 1000) (hw : ∀ x, wipe ((wipe σ vs).set j (some x)) vs = wipe σ vs)
    (hj : ∀ x, ((wipe σ vs).set j (some x))[j]? = some (some x)) (hm : ∀ x, ((wipe σ vs).set j (some x))[m]? = some (some (.ref b))) :
    EvL (tLc (iTup K (tVar i)) (gName j) (tTest (tOp (rIn K true) (tVar j) (tVar m))) (tVar j) vs) σ H ((unwM cs ws).map vi) := by
  have k := el_lcT (K := K) (σ := σ) (H := H) (t := tTest (tOp (rIn K true) (tVar j) (tVar m))) (te := tVar j) (tl := tVar i) (j := j) (vs := vs) (fun i => !ws.contains (cs.getD i 0)) (fun i => vi (cs.getD i 0)) hi ha (by rw [List.length_map]; omega) hw
    (fun i x H1 e1 hx => ?_) (fun i x H1 e1 hx _ => ?_)
  · rw [List.length_map, given_filter (fun c => !ws.contains c) (fun i x hx => by rw [List.getD_eq_getElem?_getD, hx]; rfl) (fun i x hx => by rw [List.getD_eq_getElem?_getD, hx]; rfl)] at k
    exact k
  · rw [List.getElem?_map] at hx
    obtain ⟨c, hc, rfl⟩ := Option.map_eq_some_iff.mp hx
    have e : cs.getD i 0 = c := by rw [List.getD_eq_getElem?_getD, hc]; rfl
    rw [e]
    have := et_test (ev_op (ev_var (hj (vi c)) (H := H1)) (ev_var (hm (vi c))) (rv_niT (K := K) (ex_t e1 hb) rfl (flat_vis ws)))
    rw [inV_vis] at this
    exact this
  · rw [List.getElem?_map] at hx
    obtain ⟨c, hc, rfl⟩ := Option.map_eq_some_iff.mp hx
    have e : cs.getD i 0 = c := by rw [List.getD_eq_getElem?_getD, hc]; rfl
    rw [e]
    exact ev_var (hj (vi c))
theorem cells_get {K : PySem.W.Frag} {H : Hp} {v : V} {l : List Nat} (d : Dp K H v (.tuple (l.map di))) : ∃ a, v = .ref a ∧ SqT K H a (l.map vi) := by
  obtain ⟨ca, ys, rfl, h4, h5⟩ := dp_tup d
  have h6 : DpAll K H ys ((l.map fun k : Nat => (k : Int)).map PyData.int) := by
    rw [List.map_map]
    exact h5
  have := dpa_ints h6
  rw [List.map_map] at this
  have e : ys = l.map vi := this
  rw [e] at h4
  exact ⟨ca, rfl, h4⟩
theorem yes_if {σ : L2.St} {H : Hp} {A B : Hp → Prop} (h : A H) : tYes σ H fun b H3 => if b = true then A H3 else B H3 := by
  show if (true : Bool) = true then A H else B H
  rw [if_pos rfl]
  exact h
end Nr
namespace Nr
open PySem PySem.Spec PyProof.Rows L2 Evl
open LamX (TabS TabB CodeO ExtN)

/-! the data layer: D holds data (lists, tuples), H is the heap: what changes stands in H and not in D -/
def IsDat : HO → Prop
  | .lst _ => True
  | .tup _ => True
  | .frz _ (.tup _) => True
  | _ => False
def Mu : HO → Prop
  | .tup _ => False
  | .frz _ (.tup _) => False
  | .tbl _ => False
  | _ => True
theorem IsDat.nt {o : HO} (h : IsDat o) : ∀ ps, o ≠ .tbl ps := fun ps z => by subst z; exact h
theorem Mu.nt {o : HO} (h : Mu o) : ∀ ps, o ≠ .tbl ps := fun ps z => by subst z; exact h
/-- where one stands: the table of lambdas that may grow, the bag that is drawn from -/
structure Md where
  tab : Option Addr
  bag : Option Addr
abbrev z0 : Md := ⟨none, none⟩
def Xt (c : Md) (H H2 : Hp) : Prop := ∀ a o, H a = some o → (c.tab = none ∨ ∀ ps, o ≠ .tbl ps) → c.bag ≠ some a → H2 a = some o
structure Sb (c : Md) (D H : Hp) : Prop where
  ex : Ex D H
  dat : ∀ a o, D a = some o → IsDat o
  tab : ∀ t, c.tab = some t → TabS H t lamQ
  bag : ∀ p, c.bag = some p → Bag H p ∧ D p = none
section
variable {c : Md} {H H1 H2 : Hp}
theorem Xt.of (e : Ex H H2) : Xt c H H2 := fun a o h _ _ => e a o h
theorem Xt.refl : Xt c H H := .of (Ex.refl H)
theorem Xt.trans (a : Xt c H H1) (b : Xt c H1 H2) : Xt c H H2 := fun x o h n m => b x o (a x o h n m) n m
theorem Xt.get {p : Addr} {o : HO} (a : Xt c H H2) (h : H p = some o) (n : ∀ ps, o ≠ .tbl ps) (nb : c.bag ≠ some p) : H2 p = some o := a p o h (.inr n) nb
theorem Xt.ex (a : Xt z0 H H2) : Ex H H2 := fun p o h => a p o h (.inl rfl) (fun z => by cases z)
end
structure Fw (c : Md) (D H D2 H2 : Hp) : Prop where
  sb : Sb c D2 H2
  dx : Ex D D2
  hx : Xt c H H2
  new : ∀ a o, H a = some o → D a = none → Mu o → D2 a = none
section
variable {c : Md} {D H D1 H1 D2 H2 : Hp}
theorem Sb.nbD (s : Sb c D H) {a : Addr} {o : HO} (h : D a = some o) : c.bag ≠ some a := fun z => by
  rw [(s.bag a z).2] at h; cases h
theorem Sb.nbH (s : Sb c D H) {a : Addr} (h : H a = none) : c.bag ≠ some a := fun z => by
  obtain ⟨⟨x, y, hb⟩, _⟩ := s.bag a z
  rw [hb] at h; cases h
theorem Fw.refl (s : Sb c D H) : Fw c D H D H := ⟨s, Ex.refl D, .refl, fun _ _ _ h _ => h⟩
theorem Fw.trans (a : Fw c D H D1 H1) (b : Fw c D1 H1 D2 H2) : Fw c D H D2 H2 :=
  ⟨b.sb, a.dx.trans b.dx, a.hx.trans b.hx, fun x o h n m => by
    by_cases z : c.bag = some x
    · exact (b.sb.bag x z).2
    · exact b.new x o (a.hx.get h m.nt z) (a.new x o h n m) m⟩
theorem Sb.ext (s : Sb c D H) (e : Ex H H2) : Sb c D H2 := ⟨s.ex.trans e, s.dat, fun t h => (s.tab t h).ext e, fun p h => ⟨(s.bag p h).1.ex e, (s.bag p h).2⟩⟩
theorem Fw.ofEx (s : Sb c D H) (e : Ex H H2) : Fw c D H D H2 := ⟨s.ext e, Ex.refl D, .of e, fun _ _ _ h _ => h⟩
theorem Sb.free (s : Sb c D H) {p : Addr} (h : H p = none) : D p = none := fresh_back s.ex h
theorem Fw.alloc {p : Addr} {o : HO} (s : Sb c D H) (hp : H p = none) (ho : IsDat o) : Fw c D H (upd D p o) (upd H p o) := by
  have hx : Ex H (upd H p o) := Ex.new hp
  refine ⟨⟨fun a u h => ?_, fun a u h => ?_, fun t h => (s.tab t h).ext hx, fun q h => ⟨(s.bag q h).1.ex hx, ?_⟩⟩, Ex.new (s.free hp), .of hx, fun a u h n _ => ?_⟩
  · by_cases e : a = p
    · subst e; rw [upd_same] at h ⊢; exact h
    · rw [upd_ne e] at h ⊢; exact s.ex _ _ h
  · by_cases e : a = p
    · subst e; rw [upd_same] at h; cases h; exact ho
    · rw [upd_ne e] at h; exact s.dat _ _ h
  · have e : q ≠ p := fun z => s.nbH hp (z ▸ h)
    rw [upd_ne e]; exact (s.bag q h).2
  · have e : a ≠ p := ne_of_none h hp
    rw [upd_ne e]; exact n
/-- a thing that changes is made: it stands in H alone -/
theorem Fw.made {p : Addr} {o : HO} (s : Sb c D H) (hp : H p = none) : Fw c D H D (upd H p o) := Fw.ofEx s (Ex.new hp)
theorem Fw.keep (f : Fw c D H D2 H2) {p : Addr} {o : HO} (h : H p = some o) (m : Mu o) (nb : c.bag ≠ some p) : H2 p = some o := f.hx.get h m.nt nb
theorem Fw.off (f : Fw c D H D2 H2) {p : Addr} {o : HO} (h : H p = some o) (n : D p = none) (m : Mu o) : D2 p = none := f.new _ _ h n m
theorem tab_write {t p : Addr} {o u : HO} {H : Hp} {q : Str} (h : TabS H t q) (hp : H p = some u) (n1 : ∀ ps, u ≠ .tbl ps) (n2 : ∀ φ, u ≠ .ext φ) : TabS (upd H p o) t q := by
  obtain ⟨ps, h1, h2, h3⟩ := h
  have nT : t ≠ p := by
    rintro rfl
    rw [hp] at h1
    exact n1 _ (Option.some.inj h1)
  refine ⟨ps, by rw [upd_ne nT]; exact h1, h2, fun pos cv hc => ?_⟩
  obtain ⟨c', e1, e2⟩ := h3 pos cv hc
  refine ⟨c', e1, ?_⟩
  have : c' ≠ p := by
    rintro rfl
    rw [hp] at e2
    unfold CodeO at e2
    exact n2 _ (Option.some.inj e2)
  rw [upd_ne this]; exact e2
/-- the kinds that change and are no things of the library's own -/
def Ord : HO → Prop
  | .lst _ => True
  | .dK _ => True
  | .dT _ => True
  | .ins _ _ _ => True
  | _ => False
theorem Ord.mu {o : HO} (h : Ord o) : Mu o := by cases o <;> first | exact h | exact trivial | exact h.elim
/-- what changes is changed -/
theorem Sb.put {p : Addr} {o u : HO} (s : Sb c D H) (n : D p = none) (hp : H p = some u) (hu : Ord u) (nb : c.bag ≠ some p) : Sb c D (upd H p o) := by
  refine ⟨fun a v h => ?_, s.dat, fun t h => tab_write (s.tab t h) hp hu.mu.nt (fun φ z => by subst z; exact hu), fun q h => ⟨?_, (s.bag q h).2⟩⟩
  · have e : a ≠ p := fun z => by subst z; rw [n] at h; cases h
    rw [upd_ne e]; exact s.ex _ _ h
  · obtain ⟨x, y, hb⟩ := (s.bag q h).1
    have e : q ≠ p := fun z => nb (z ▸ h)
    exact ⟨x, y, by rw [upd_ne e]; exact hb⟩
/-- what has been made is data from now on -/
theorem Sb.give {p : Addr} {xs : List V} (s : Sb c D H) (n : D p = none) (hp : H p = some (.lst xs)) (nb : c.bag ≠ some p) : Sb c (upd D p (.lst xs)) H := by
  refine ⟨fun a u h => ?_, fun a u h => ?_, s.tab, fun q h => ⟨(s.bag q h).1, ?_⟩⟩
  · by_cases e : a = p
    · subst e; rw [upd_same] at h; rw [← h]; exact hp
    · rw [upd_ne e] at h; exact s.ex _ _ h
  · by_cases e : a = p
    · subst e; rw [upd_same] at h; cases h; trivial
    · rw [upd_ne e] at h; exact s.dat _ _ h
  · have e : q ≠ p := fun z => nb (z ▸ h)
    rw [upd_ne e]; exact (s.bag q h).2
end

/-! data whose lists stand in D -/
mutual
inductive Dq (K : PySem.W.Frag) (D : Hp) : V → PyData → Prop
  | non : Dq K D .non .none
  | bl (b : Bool) : Dq K D (.bl b) (.bool b)
  | int (i : Int) : Dq K D (.int i) (.int i)
  | str (x : Str) : Dq K D (.str x) (.str x)
  | lst {a : Addr} {xs : List V} {ds : List PyData} : D a = some (.lst xs) → DqAll K D xs ds → Dq K D (.ref a) (.list ds)
  | tup {a : Addr} {xs : List V} {ds : List PyData} : SqT K D a xs → DqAll K D xs ds → Dq K D (.ref a) (.tuple ds)
inductive DqAll (K : PySem.W.Frag) (D : Hp) : List V → List PyData → Prop
  | nil : DqAll K D [] []
  | cons {v : V} {vs : List V} {d : PyData} {ds : List PyData} : Dq K D v d → DqAll K D vs ds → DqAll K D (v :: vs) (d :: ds)
end
section
variable {K : PySem.W.Frag} {D D2 H : Hp}
mutual
theorem dq_ex (e : Ex D D2) : ∀ (d : PyData) (v : V), Dq K D v d → Dq K D2 v d
  | .none, _, h => by cases h; exact .non
  | .bool b, _, h => by cases h; exact .bl b
  | .int i, _, h => by cases h; exact .int i
  | .str x, _, h => by cases h; exact .str x
  | .list ds, _, h => by
    cases h with
    | lst hs ha => exact .lst (e _ _ hs) (dqa_ex e ds _ ha)
  | .tuple ds, _, h => by
    cases h with
    | tup hs ha => exact .tup (ex_t e hs) (dqa_ex e ds _ ha)
  | .dict _, _, h => by cases h
theorem dqa_ex (e : Ex D D2) : ∀ (ds : List PyData) (vs : List V), DqAll K D vs ds → DqAll K D2 vs ds
  | [], _, h => by cases h; exact .nil
  | d :: ds, _, h => by
    cases h with
    | cons h1 h2 => exact .cons (dq_ex e d _ h1) (dqa_ex e ds _ h2)
end
mutual
theorem dq_dp : ∀ (d : PyData) (v : V), Dq K D v d → Dp K D v d
  | .none, _, h => by cases h; exact .non
  | .bool b, _, h => by cases h; exact .bl b
  | .int i, _, h => by cases h; exact .int i
  | .str x, _, h => by cases h; exact .str x
  | .list ds, _, h => by
    cases h with
    | lst hs ha => exact .lst (sq_of hs) (dqa_dp ds _ ha)
  | .tuple ds, _, h => by
    cases h with
    | tup hs ha => exact .tup hs (dqa_dp ds _ ha)
  | .dict _, _, h => by cases h
theorem dqa_dp : ∀ (ds : List PyData) (vs : List V), DqAll K D vs ds → DpAll K D vs ds
  | [], _, h => by cases h; exact .nil
  | d :: ds, _, h => by
    cases h with
    | cons h1 h2 => exact .cons (dq_dp d _ h1) (dqa_dp ds _ h2)
end
mutual
theorem dp_dq (hs : ∀ a xs, SqT K H a xs → SqT K D a xs) : ∀ (d : PyData) (v : V), noL d = true → Dp K H v d → Dq K D v d
  | .none, _, _, h => by cases h; exact .non
  | .bool b, _, _, h => by cases h; exact .bl b
  | .int i, _, _, h => by cases h; exact .int i
  | .str x, _, _, h => by cases h; exact .str x
  | .list ds, _, z, h => by rw [noL] at z; cases z
  | .tuple ds, _, z, h => by
    rw [noL] at z
    cases h with
    | tup h1 ha => exact .tup (hs _ _ h1) (dpa_dqa hs ds _ z ha)
  | .dict _, _, _, h => by cases h
theorem dpa_dqa (hs : ∀ a xs, SqT K H a xs → SqT K D a xs) : ∀ (ds : List PyData) (vs : List V), noLs ds = true → DpAll K H vs ds → DqAll K D vs ds
  | [], _, _, h => by cases h; exact .nil
  | d :: ds, _, z, h => by
    rw [noLs, Bool.and_eq_true] at z
    cases h with
    | cons h1 h2 => exact .cons (dp_dq hs d _ z.1 h1) (dpa_dqa hs ds _ z.2 h2)
end
theorem dqa_len : ∀ {as : List V} {ds : List PyData}, DqAll K D as ds → as.length = ds.length
  | [], _, h => by cases h; rfl
  | _ :: _, _, h => by
    cases h with
    | cons h1 h2 => rw [List.length_cons, List.length_cons, dqa_len h2]
theorem dqa_get : ∀ {as : List V} {ds : List PyData} {i : Nat} {d : PyData}, DqAll K D as ds → ds[i]? = some d → ∃ v, as[i]? = some v ∧ Dq K D v d
  | _, [], _, _, h, e => by simp at e
  | _, _ :: _, 0, _, h, e => by
    cases h with
    | cons h1 h2 => simp at e; subst e; exact ⟨_, rfl, h1⟩
  | _, _ :: _, i + 1, _, h, e => by
    cases h with
    | cons h1 h2 =>
      obtain ⟨v, k1, k2⟩ := dqa_get (i := i) h2 (by simpa using e)
      exact ⟨v, by simpa using k1, k2⟩
theorem dqa_at : ∀ {as : List V} {ds : List PyData} {i : Nat} {v : V}, DqAll K D as ds → as[i]? = some v → ∃ d, ds[i]? = some d ∧ Dq K D v d
  | [], _, _, _, h, e => by simp at e
  | _ :: _, _, 0, _, h, e => by
    cases h with
    | cons h1 h2 => simp at e; subst e; exact ⟨_, rfl, h1⟩
  | _ :: _, _, i + 1, _, h, e => by
    cases h with
    | cons h1 h2 =>
      obtain ⟨d, k1, k2⟩ := dqa_at (i := i) h2 (by simpa using e)
      exact ⟨d, by simpa using k1, k2⟩
theorem dqa_append : ∀ {as : List V} {ds : List PyData} {bs : List V} {es : List PyData}, DqAll K D as ds → DqAll K D bs es → DqAll K D (as ++ bs) (ds ++ es)
  | [], _, _, _, h, k => by cases h; exact k
  | _ :: _, _, _, _, h, k => by
    cases h with
    | cons h1 h2 => exact .cons h1 (dqa_append h2 k)
theorem dqa_drop : ∀ {as : List V} {ds : List PyData} (i : Nat), DqAll K D as ds → DqAll K D (as.drop i) (ds.drop i)
  | _, _, 0, h => h
  | [], _, i + 1, h => by cases h; exact .nil
  | _ :: _, _, i + 1, h => by
    cases h with
    | cons h1 h2 => exact dqa_drop i h2
theorem dqa_take : ∀ {as : List V} {ds : List PyData} (i : Nat), DqAll K D as ds → DqAll K D (as.take i) (ds.take i)
  | _, _, 0, h => .nil
  | [], _, i + 1, h => by cases h; exact .nil
  | _ :: _, _, i + 1, h => by
    cases h with
    | cons h1 h2 => exact .cons h1 (dqa_take i h2)
theorem dq_int {v : V} {i : Int} (h : Dq K D v (.int i)) : v = .int i := by cases h; rfl
theorem dq_bool {v : V} {b : Bool} (h : Dq K D v (.bool b)) : v = .bl b := by cases h; rfl
theorem dq_none {v : V} (h : Dq K D v .none) : v = .non := by cases h; rfl
theorem dq_str {v : V} {x : Str} (h : Dq K D v (.str x)) : v = .str x := by cases h; rfl
theorem dq_lst {v : V} {ds : List PyData} (h : Dq K D v (.list ds)) : ∃ a xs, v = .ref a ∧ D a = some (.lst xs) ∧ DqAll K D xs ds := by
  cases h with
  | lst hs ha => exact ⟨_, _, rfl, hs, ha⟩
theorem dq_tup {v : V} {ds : List PyData} (h : Dq K D v (.tuple ds)) : ∃ a xs, v = .ref a ∧ SqT K D a xs ∧ DqAll K D xs ds := by
  cases h with
  | tup hs ha => exact ⟨_, _, rfl, hs, ha⟩
theorem dqa_vis : ∀ {as : List V} {l : List Nat}, DqAll K D as (l.map di) → as = l.map vi
  | [], [], h => rfl
  | [], _ :: _, h => by cases h
  | _ :: _, [], h => by cases h
  | _ :: _, _ :: _, h => by
    cases h with
    | cons h1 h2 => rw [dq_int h1, dqa_vis h2]; rfl
theorem vis_dqa : ∀ (l : List Nat), DqAll K D (l.map vi) (l.map di)
  | [] => .nil
  | n :: l => .cons (.int n) (vis_dqa l)
theorem dq_ints {v : V} {l : List Nat} (h : Dq K D v (.tuple (l.map di))) : ∃ a, v = .ref a ∧ SqT K D a (l.map vi) := by
  obtain ⟨a, xs, rfl, hs, ha⟩ := dq_tup h
  rw [dqa_vis ha] at hs
  exact ⟨a, rfl, hs⟩
theorem dq_intl {v : V} {l : List Nat} (h : Dq K D v (.list (l.map di))) : ∃ a, v = .ref a ∧ D a = some (.lst (l.map vi)) := by
  obtain ⟨a, xs, rfl, hs, ha⟩ := dq_lst h
  rw [dqa_vis ha] at hs
  exact ⟨a, rfl, hs⟩
end

/-! an earlier promise's answer becomes data -/
open Classical in
noncomputable def liftD (c : Md) (D H H2 : Hp) : Hp := fun a =>
  if (∃ o, H a = some o ∧ D a = none ∧ Mu o) ∨ c.bag = some a then none else
    match H2 a with
    | some o => if IsDat o then some o else none
    | none => none
section
variable {c : Md} {K : PySem.W.Frag} {D H H2 : Hp}
theorem liftD_some {a : Addr} {o : HO} (h : liftD c D H H2 a = some o) : H2 a = some o ∧ IsDat o := by
  unfold liftD at h
  split at h
  · cases h
  · split at h
    · rename_i u hu
      split at h
      · rename_i hd
        cases h
        exact ⟨hu, hd⟩
      · cases h
    · cases h
theorem liftD_of {a : Addr} {o : HO} (n : ∀ u, H a = some u → D a = none → ¬ Mu u) (nb : c.bag ≠ some a) (h : H2 a = some o) (hd : IsDat o) : liftD c D H H2 a = some o := by
  unfold liftD
  rw [if_neg (fun z => z.elim (fun ⟨u, h1, h2, h3⟩ => n u h1 h2 h3) nb), h]
  exact if_pos hd
theorem Fw.lift (s : Sb c D H) (hx : Xt c H H2) (tab : ∀ t, c.tab = some t → TabS H2 t lamQ) (bag : ∀ p, c.bag = some p → Bag H2 p) : Fw c D H (liftD c D H H2) H2 := by
  refine ⟨⟨fun a o h => (liftD_some h).1, fun a o h => (liftD_some h).2, tab, fun p h => ⟨bag p h, ?_⟩⟩, fun a o h => ?_, hx, fun a o h n m => ?_⟩
  · unfold liftD
    rw [if_pos (.inr h)]
  · have hd := s.dat _ _ h
    exact liftD_of (fun u h1 h2 => by rw [h2] at h; cases h) (s.nbD h) (hx.get (s.ex _ _ h) hd.nt (s.nbD h)) hd
  · unfold liftD
    rw [if_pos (.inl ⟨o, h, n, m⟩)]
theorem Fw.liftE (s : Sb c D H) (e : Ex H H2) : Fw c D H (liftD c D H H2) H2 := Fw.lift s (.of e) (fun t h => (s.tab t h).ext e) (fun p h => (s.bag p h).1.ex e)
theorem nb_tup {a : Addr} {o : HO} (bag : ∀ p, c.bag = some p → Bag H2 p) (h : H2 a = some o) (ho : ∀ xs, o ≠ .lst xs) : c.bag ≠ some a := fun z => by
  obtain ⟨x, y, hb⟩ := bag a z
  rw [hb] at h
  exact ho _ (Option.some.inj h).symm
theorem lift_t (hx : Xt c H H2) (bag : ∀ p, c.bag = some p → Bag H2 p) (a : Addr) (xs : List V) (h : SqT K H2 a xs) : SqT K (liftD c D H H2) a xs := by
  rcases h with h | h
  · refine .inl ?_
    rcases h with h | ⟨u, h⟩
    · have nb := nb_tup bag h (fun _ z => by cases z)
      refine .inl (liftD_of (fun o h1 h2 m => ?_) nb h trivial)
      have := hx.get h1 m.nt nb
      rw [h] at this
      cases this
      exact m
    · have nb := nb_tup bag h (fun _ z => by cases z)
      refine .inr ⟨u, liftD_of (fun o h1 h2 m => ?_) nb h trivial⟩
      have := hx.get h1 m.nt nb
      rw [h] at this
      cases this
      exact m
  · exact .inr h
theorem lift_dq (hx : Xt c H H2) (bag : ∀ p, c.bag = some p → Bag H2 p) {d : PyData} {v : V} (z : noL d = true) (h : Dp K H2 v d) : Dq K (liftD c D H H2) v d := dp_dq (lift_t hx bag) d v z h
theorem lift_l {p : Addr} {xs : List V} (hp : FrT H p) (nb : c.bag ≠ some p) (h : H2 p = some (.lst xs)) : liftD c D H H2 p = some (.lst xs) :=
  liftD_of (fun o h1 _ m => by obtain ⟨ps, rfl⟩ := hp o h1; exact m) nb h trivial
theorem frT_new {H : Hp} {p : Addr} (h : H p = none) : FrT H p := fun o ho => by rw [h] at ho; cases ho
theorem Sb.nbF (s : Sb c D H) {p : Addr} (hp : FrT H p) : c.bag ≠ some p := fun z => by
  obtain ⟨⟨x, y, hb⟩, _⟩ := s.bag p z
  obtain ⟨ps, e⟩ := hp _ hb
  cases e
theorem lift_dl (s : Sb c D H) (hx : Xt c H H2) (bag : ∀ p, c.bag = some p → Bag H2 p) {p : Addr} {xs : List V} {ds : List PyData} (hp : FrT H p) (h : H2 p = some (.lst xs)) (z : noLs ds = true) (hd : DpAll K H2 xs ds) : Dq K (liftD c D H H2) (.ref p) (.list ds) :=
  .lst (lift_l hp (s.nbF hp) h) (dpa_dqa (lift_t hx bag) ds xs z hd)
end
end Nr
namespace Nr
open PySem PySem.Spec PyProof.Rows L2 Evl
open LamX (TabS TabB CodeO ExtN)

/-! slots -/
inductive Sl where
  | un | dat (d : PyData) | raw (v : V)
def SD (K : PySem.W.Frag) (D : Hp) : Option V → Sl → Prop
  | _, .un => True
  | some v, .dat d => Dq K D v d
  | some v, .raw u => v = u
  | none, .dat _ => False
  | none, .raw _ => False
abbrev SE (K : PySem.W.Frag) (D : Hp) : L2.St → List Sl → Prop := Paired (SD K D)
section
variable {K : PySem.W.Frag} {D D2 : Hp}
theorem SD.ex (e : Ex D D2) : ∀ {x : Option V} {s : Sl}, SD K D x s → SD K D2 x s
  | _, .un, _ => by cases ‹Option V› <;> trivial
  | some v, .dat d, h => dq_ex e d v h
  | some v, .raw u, h => h
  | none, .dat _, h => h
  | none, .raw _, h => h
theorem SE.ex {σ : L2.St} {δ : List Sl} (e : Ex D D2) (h : SE K D σ δ) : SE K D2 σ δ := Paired.mapP h fun _ _ => SD.ex e
theorem SE.len {σ : L2.St} {δ : List Sl} (h : SE K D σ δ) : σ.length = δ.length := Paired.length h
theorem SE.get : ∀ {σ : L2.St} {δ : List Sl} {i : Nat} {d : PyData}, SE K D σ δ → δ[i]? = some (.dat d) → ∃ v, σ[i]? = some (some v) ∧ Dq K D v d
  | _, [], _, _, h, e => by simp at e
  | _, _ :: _, 0, _, .cons h1 h2, e => by
    simp at e; subst e
    cases ‹Option V› with
    | none => exact h1.elim
    | some v => exact ⟨v, rfl, h1⟩
  | _, _ :: _, i + 1, _, .cons h1 h2, e => by
    obtain ⟨v, k1, k2⟩ := SE.get (i := i) h2 (by simpa using e)
    exact ⟨v, by simpa using k1, k2⟩
theorem SE.raw : ∀ {σ : L2.St} {δ : List Sl} {i : Nat} {u : V}, SE K D σ δ → δ[i]? = some (.raw u) → σ[i]? = some (some u)
  | _, [], _, _, h, e => by simp at e
  | _, _ :: _, 0, _, .cons h1 h2, e => by
    simp at e; subst e
    cases ‹Option V› with
    | none => exact h1.elim
    | some v => cases h1; rfl
  | _, _ :: _, i + 1, _, .cons h1 h2, e => by
    have k1 := SE.raw (i := i) h2 (by simpa using e)
    simpa using k1
theorem SE.set {x : Option V} {s : Sl} (hx : SD K D x s) : ∀ {σ : L2.St} {δ : List Sl} (i : Nat), SE K D σ δ → SE K D (σ.set i x) (δ.set i s)
  | _, _, _, .nil => .nil
  | _, _, 0, .cons _ t => .cons hx t
  | _, _, i + 1, .cons q t => .cons q (SE.set hx i t)
def wipeD (δ : List Sl) : List Nat → List Sl
  | [] => δ
  | v :: vs => (wipeD δ vs).set v .un
theorem SE.wipe {σ : L2.St} {δ : List Sl} (h : SE K D σ δ) : ∀ vs : List Nat, SE K D (wipe σ vs) (wipeD δ vs)
  | [] => h
  | v :: vs => SE.set (x := none) (s := .un) trivial v (SE.wipe h vs)
theorem wipe_at {σ : L2.St} {i : Nat} : ∀ {vs : List Nat}, i ∈ vs → i < σ.length → (wipe σ vs)[i]? = some none
  | [], h, _ => by cases h
  | v :: vs, h, lt => by
    show ((wipe σ vs).set v none)[i]? = some none
    by_cases e : v = i
    · subst e
      rw [List.getElem?_set_self (by rw [wipe_length]; exact lt)]
    · rw [List.getElem?_set_ne e]
      rcases List.mem_cons.mp h with z | z
      · exact absurd z.symm e
      · exact wipe_at z lt
theorem wipe_same {σ τ : L2.St} {vs : List Nat} (hl : τ.length = σ.length) (h : ∀ i, i ∉ vs → τ[i]? = σ[i]?) : wipe τ vs = wipe σ vs := by
  refine List.ext_getElem? fun i => ?_
  by_cases hi : i ∈ vs
  · by_cases lt : i < σ.length
    · rw [wipe_at hi lt, wipe_at hi (by omega)]
    · rw [List.getElem?_eq_none (by rw [wipe_length]; omega), List.getElem?_eq_none (by rw [wipe_length]; omega)]
  · rw [wipe_out hi, wipe_out hi, h i hi]
end

/-! judgements -/
section
variable (K : PySem.W.Frag) (c : Md)
def ED (te : TE) (δ : List Sl) (d : PyData) : Prop := ∀ σ D H, Sb c D H → SE K D σ δ → ∀ Q : VK, (∀ v D2 H2, Fw c D H D2 H2 → Dq K D2 v d → Q v H2) → te σ H Q
def ET (tt : TT) (δ : List Sl) (b : Bool) : Prop := ∀ σ D H, Sb c D H → SE K D σ δ → ∀ Q : Bool → Hp → Prop, (∀ D2 H2, Fw c D H D2 H2 → Q b H2) → tt σ H Q
def EA (ta : TA) (δ : List Sl) (ds : List PyData) : Prop := ∀ σ D H, Sb c D H → SE K D σ δ → ∀ Q : List V → Hp → Prop, (∀ vs D2 H2, Fw c D H D2 H2 → DqAll K D2 vs ds → Q vs H2) → ta σ H Q
def EO (to : TO) (δ : List Sl) (o : Option Int) : Prop := ∀ σ D H, Sb c D H → SE K D σ δ → ∀ Q : Option Int → Hp → Prop, (∀ D2 H2, Fw c D H D2 H2 → Q o H2) → to σ H Q
/-- by values -/
def R2D (r : R2) (a b z : PyData) : Prop := ∀ x y D H, Sb c D H → Dq K D x a → Dq K D y b → ∀ Q : VK, (∀ v D2 H2, Fw c D H D2 H2 → Dq K D2 v z → Q v H2) → r x y H Q
def RCD (r : List V → Hp → VK → Prop) (ds : List PyData) (z : PyData) : Prop := ∀ vs D H, Sb c D H → DqAll K D vs ds → ∀ Q : VK, (∀ v D2 H2, Fw c D H D2 H2 → Dq K D2 v z → Q v H2) → r vs H Q
def SpD (sp : Sp) (ds : List PyData) (z : PyData) : Prop := ∀ vs D H, Sb c D H → DqAll K D vs ds → ∀ Q : VK, (∀ v D2 H2, Fw c D H D2 H2 → Dq K D2 v z → Q v H2) → ∀ E : XK, sp vs H Q E
/-- a walk over data -/
structure Wk (J : It) (D : Hp) (ds : List PyData) : Prop where
  stop : ∀ H, Ex D H → J.stop ds.length H
  go : ∀ i H, i < ds.length → Ex D H → J.go i H
  yld : ∀ i d D' H x H', ds[i]? = some d → Ex D D' → Sb c D' H → J.yld i H x H' → ∃ D2, Fw c D' H D2 H' ∧ Dq K D2 x d
def EI (wi : TI) (δ : List Sl) (ds : List PyData) : Prop := ∀ σ D H, Sb c D H → SE K D σ δ → ∀ R : It → Hp → Prop, (∀ J D2 H2, Fw c D H D2 H2 → Wk K c J D2 ds → R J H2) → wi σ H R
/-- a target: the slots us are stored -/
def EG (g : TG) (d : PyData) (δ δ2 : List Sl) (us : List Nat) : Prop := ∀ v σ D H, Sb c D H → SE K D σ δ → Dq K D v d → ∀ Q : L2.St → Hp → Prop, (∀ σ2, SE K D σ2 δ2 → σ2.length = σ.length → (∀ i, i ∉ us → σ2[i]? = σ[i]?) → Q σ2 H) → g v σ H Q
def EGs (g : TGs) (ds : List PyData) (δ δ2 : List Sl) (us : List Nat) : Prop := ∀ vs σ D H, Sb c D H → SE K D σ δ → DqAll K D vs ds → ∀ Q : L2.St → Hp → Prop, (∀ σ2, SE K D σ2 δ2 → σ2.length = σ.length → (∀ i, i ∉ us → σ2[i]? = σ[i]?) → Q σ2 H) → g vs σ H Q
/-- a block that returns d -/
def RD (t : TS) (δ : List Sl) (d : PyData) : Prop := ∀ (En : Ends) σ D H, Sb c D H → SE K D σ δ → (∀ v D2 H2, Fw c D H D2 H2 → Dq K D2 v d → En.rt v H2) → t En σ H
end
/-- a promise over data -/
def spF {α : Type} (K : PySem.W.Frag) (A : α → List PyData) (C : α → Prop) (F : α → PyData) : Sp := fun vs H Q _ => ∃ (x : α) (D : Hp), Sb z0 D H ∧ DqAll K D vs (A x) ∧ C x ∧ ∀ v D2 H2, Fw z0 D H D2 H2 → Dq K D2 v (F x) → Q v H2
/-- the same of a def that may make lambdas -/
abbrev zT (t : Addr) : Md := ⟨some t, none⟩
def spT {α : Type} (K : PySem.W.Frag) (t : Addr) (A : α → List PyData) (C : α → Prop) (F : α → PyData) : Sp := fun vs H Q _ => ∃ (x : α) (D : Hp), Sb (zT t) D H ∧ DqAll K D vs (A x) ∧ C x ∧ ∀ v D2 H2, Fw (zT t) D H D2 H2 → Dq K D2 v (F x) → Q v H2
section
variable {K : PySem.W.Frag} {c : Md} {δ δ2 : List Sl} {te ta tb tc : TE} {tt tu : TT} {tr : TA} {a b d z : PyData} {ds es : List PyData} {r r' : R2}
theorem ED.is (h : ED K c te δ d) (e : d = z) : ED K c te δ z := e ▸ h
theorem ET.is {p q : Bool} (h : ET K c tt δ p) (e : p = q) : ET K c tt δ q := e ▸ h
theorem EA.is (h : EA K c tr δ ds) (e : ds = es) : EA K c tr δ es := e ▸ h
theorem RD.is {t : TS} (h : RD K c t δ d) (e : d = z) : RD K c t δ z := e ▸ h
theorem ed_var {i : Nat} (h : δ[i]? = some (.dat d)) : ED K c (tVar i) δ d := fun σ D H s e Q q => by
  obtain ⟨v, h1, h2⟩ := e.get h
  exact ⟨v, h1, q v D H (Fw.refl s) h2⟩
theorem ed_int {i : Int} : ED K c (tC (.int i)) δ (.int i) := fun σ D H s e Q q => q _ D H (Fw.refl s) (.int i)
theorem ed_bl {b : Bool} : ED K c (tC (.bl b)) δ (.bool b) := fun σ D H s e Q q => q _ D H (Fw.refl s) (.bl b)
theorem ed_non : ED K c (tC .non) δ .none := fun σ D H s e Q q => q _ D H (Fw.refl s) .non
theorem ed_str {x : Str} : ED K c (tC (.str x)) δ (.str x) := fun σ D H s e Q q => q _ D H (Fw.refl s) (.str x)
theorem ea_nilD : EA K c tNil δ [] := fun σ D H s e Q q => q _ D H (Fw.refl s) .nil
theorem ea_consD (h : ED K c ta δ d) (hr : EA K c tr δ ds) : EA K c (tCons ta tr) δ (d :: ds) := fun σ D H s e Q q =>
  h σ D H s e _ fun v D1 H1 f1 h1 => hr σ D1 H1 f1.sb (e.ex f1.dx) _ fun vs D2 H2 f2 h2 => q _ D2 H2 (f1.trans f2) (.cons (dq_ex f2.dx _ _ h1) h2)
theorem ed_tup (h : EA K c tr δ ds) (hl : ds.length ≤ 100000 := by simp only [List.length_cons, List.length_nil]; decide) : ED K c (tTup tr) δ (.tuple ds) := fun σ D H s e Q q =>
  h σ D H s e _ fun vs D1 H1 f1 h1 => ⟨by rw [dqa_len h1]; exact sz_of hl, fun p hp => by
    have f2 := Fw.alloc (o := .tup vs) f1.sb hp trivial
    exact q _ _ _ (f1.trans f2) (.tup (st_of upd_same) (dqa_ex f2.dx _ _ h1))⟩
theorem ed_lst (h : EA K c tr δ ds) (hl : ds.length ≤ 100000 := by simp only [List.length_cons, List.length_nil]; decide) : ED K c (tLst tr) δ (.list ds) := fun σ D H s e Q q =>
  h σ D H s e _ fun vs D1 H1 f1 h1 => ⟨by rw [dqa_len h1]; exact sz_of hl, fun p hp => by
    have f2 := Fw.alloc (o := .lst vs) f1.sb hp trivial
    exact q _ _ _ (f1.trans f2) (.lst upd_same (dqa_ex f2.dx _ _ h1))⟩
theorem ed_op (ha : ED K c ta δ a) (hb : ED K c tb δ b) (hr : R2D K c r a b z) : ED K c (tOp r ta tb) δ z := fun σ D H s e Q q =>
  ha σ D H s e _ fun x D1 H1 f1 h1 => hb σ D1 H1 f1.sb (e.ex f1.dx) _ fun y D2 H2 f2 h2 => hr x y D2 H2 f2.sb (dq_ex f2.dx _ _ h1) h2 _ fun v D3 H3 f3 h3 => q v D3 H3 ((f1.trans f2).trans f3) h3
theorem ed_if {p : Bool} (ht : ET K c tt δ p) (h1 : p = true → ED K c ta δ d) (h2 : p = false → ED K c tb δ d) : ED K c (tIf tt ta tb) δ d := fun σ D H s e Q q =>
  ht σ D H s e _ fun D1 H1 f1 => by
    cases p with
    | true => exact h1 rfl σ D1 H1 f1.sb (e.ex f1.dx) _ fun v D2 H2 f2 h2 => q v D2 H2 (f1.trans f2) h2
    | false => exact h2 rfl σ D1 H1 f1.sb (e.ex f1.dx) _ fun v D2 H2 f2 h2 => q v D2 H2 (f1.trans f2) h2
theorem ed_call {sp : Sp} {E : XK} (h : EA K c tr δ ds) (hs : SpD K c sp ds z) : ED K c (tCall sp [] E tr) δ z := fun σ D H s e Q q =>
  h σ D H s e _ fun vs D1 H1 f1 h1 => hs (vs ++ []) D1 H1 f1.sb (by rw [List.append_nil]; exact h1) Q (fun v D2 H2 f2 h2 => q v D2 H2 (f1.trans f2) h2) E
theorem ed_cb {rr : List V → Hp → VK → Prop} (h : EA K c tr δ ds) (hs : RCD K c rr ds z) : ED K c (tCB rr tr) δ z := fun σ D H s e Q q =>
  h σ D H s e _ fun vs D1 H1 f1 h1 => hs vs D1 H1 f1.sb h1 Q (fun v D2 H2 f2 h2 => q v D2 H2 (f1.trans f2) h2)
theorem ed_andV {p q : Bool} (h1 : ED K c ta δ (.bool p)) (h2 : p = true → ED K c tb δ (.bool q)) : ED K c (tAndV ta tb) δ (.bool (p && q)) := fun σ D H s e Q k =>
  h1 σ D H s e _ fun v D1 H1 f1 d1 => ⟨p, dq_bool d1, by
    cases p with
    | true => exact h2 rfl σ D1 H1 f1.sb (e.ex f1.dx) _ fun v D2 H2 f2 d2 => k v D2 H2 (f1.trans f2) d2
    | false => exact k _ D1 H1 f1 (.bl false)⟩
theorem ed_orV {p q : Bool} (h1 : ED K c ta δ (.bool p)) (h2 : p = false → ED K c tb δ (.bool q)) : ED K c (tOrV ta tb) δ (.bool (p || q)) := fun σ D H s e Q k =>
  h1 σ D H s e _ fun v D1 H1 f1 d1 => ⟨p, dq_bool d1, by
    cases p with
    | false => exact h2 rfl σ D1 H1 f1.sb (e.ex f1.dx) _ fun v D2 H2 f2 d2 => k v D2 H2 (f1.trans f2) d2
    | true => exact k _ D1 H1 f1 (.bl true)⟩
theorem ed_notV {p : Bool} (h1 : ED K c ta δ (.bool p)) : ED K c (tNotV ta) δ (.bool (!p)) := fun σ D H s e Q k =>
  h1 σ D H s e _ fun v D1 H1 f1 d1 => ⟨p, dq_bool d1, k _ D1 H1 f1 (.bl _)⟩
theorem ed_chain {p q : Bool} {a2 : PyData} (ha : ED K c ta δ a) (hb : ED K c tb δ b) (hr : R2D K c r a b (.bool p)) (hc : p = true → ED K c tc δ a2) (hr' : p = true → R2D K c r' b a2 (.bool q)) : ED K c (tChain r r' ta tb tc) δ (.bool (p && q)) := fun σ D H s e Q k =>
  ha σ D H s e _ fun x D1 H1 f1 h1 => hb σ D1 H1 f1.sb (e.ex f1.dx) _ fun y D2 H2 f2 h2 => hr x y D2 H2 f2.sb (dq_ex f2.dx _ _ h1) h2 _ fun v D3 H3 f3 h3 => ⟨p, dq_bool h3, by
    cases p with
    | false => exact k _ D3 H3 ((f1.trans f2).trans f3) (.bl false)
    | true => exact hc rfl σ D3 H3 f3.sb (e.ex ((f1.trans f2).trans f3).dx) _ fun w D4 H4 f4 h4 => hr' rfl y w D4 H4 f4.sb (dq_ex (f3.trans f4).dx _ _ h2) h4 _ fun v D5 H5 f5 h5 => k v D5 H5 (((f1.trans f2).trans (f3.trans f4)).trans f5) h5⟩
/-! tests -/
theorem et_testD {p : Bool} (h : ED K c te δ (.bool p)) : ET K c (tTest te) δ p := fun σ D H s e Q q =>
  h σ D H s e _ fun v D1 H1 f1 d1 => ⟨p, dq_bool d1, q D1 H1 f1⟩
theorem et_BD {p : Bool} (h : ED K c te δ (.bool p)) : ET K c (tB te) δ p := fun σ D H s e Q q =>
  h σ D H s e _ fun v D1 H1 f1 d1 => ⟨p, dq_bool d1, q D1 H1 f1⟩
theorem et_andD {p q : Bool} (h1 : ET K c tt δ p) (h2 : p = true → ET K c tu δ q) : ET K c (tAnd tt tu) δ (p && q) := fun σ D H s e Q k =>
  h1 σ D H s e _ fun D1 H1 f1 => by
    cases p with
    | true => exact h2 rfl σ D1 H1 f1.sb (e.ex f1.dx) _ fun D2 H2 f2 => k D2 H2 (f1.trans f2)
    | false => exact k D1 H1 f1
theorem et_orD {p q : Bool} (h1 : ET K c tt δ p) (h2 : p = false → ET K c tu δ q) : ET K c (tOr tt tu) δ (p || q) := fun σ D H s e Q k =>
  h1 σ D H s e _ fun D1 H1 f1 => by
    cases p with
    | false => exact h2 rfl σ D1 H1 f1.sb (e.ex f1.dx) _ fun D2 H2 f2 => k D2 H2 (f1.trans f2)
    | true => exact k D1 H1 f1
theorem et_notD {p : Bool} (h1 : ET K c tt δ p) : ET K c (tNot tt) δ (!p) := fun σ D H s e Q k => h1 σ D H s e _ fun D1 H1 f1 => k D1 H1 f1
theorem et_yesD : ET K c tYes δ true := fun σ D H s e Q k => k D H (Fw.refl s)
/-- the truth of data -/
def truD : PyData → Bool
  | .none => false
  | .bool b => b
  | .int i => i != 0
  | .list ds => !ds.isEmpty
  | .tuple ds => !ds.isEmpty
  | _ => false
def truOk : PyData → Prop
  | .str _ => False
  | .dict _ => False
  | _ => True
theorem dqa_emp {D : Hp} {xs : List V} {ds : List PyData} (h : DqAll K D xs ds) : (!ds.isEmpty) = !xs.isEmpty := by cases h <;> rfl
theorem tru_ofD {D H : Hp} {v : V} {d : PyData} (e : Ex D H) (h : Dq K D v d) (ok : truOk d) : TruV K v H (truD d) := by
  cases h with
  | non => rfl
  | bl b => rfl
  | int i => rfl
  | str x => exact ok.elim
  | lst hs ha => exact .inl ⟨_, sq_of (e _ _ hs), dqa_emp ha⟩
  | tup hs ha => exact .inr (.inl ⟨_, ex_t e hs, dqa_emp ha⟩)
theorem et_tru (h : ED K c te δ d) (ok : truOk d) : ET K c (fun σ H Q => te σ H fun x H' => ∃ k, TruV K x H' k ∧ Q k H') δ (truD d) := fun σ D H s e Q q =>
  h σ D H s e _ fun v D1 H1 f1 d1 => ⟨_, tru_ofD f1.sb.ex d1 ok, q D1 H1 f1⟩
def isNon : PyData → Bool
  | .none => true
  | _ => false
/-! operators -/
theorem r_I0i {f : Int → Int → Int} {i j : Int} : R2D K c (rI0 fun i j => .int (f i j)) (.int i) (.int j) (.int (f i j)) := fun x y D H s hx hy Q q => ⟨i, j, dq_int hx, dq_int hy, q _ D H (Fw.refl s) (.int _)⟩
theorem r_I0b {f : Int → Int → Bool} {i j : Int} : R2D K c (rI0 fun i j => .bl (f i j)) (.int i) (.int j) (.bool (f i j)) := fun x y D H s hx hy Q q => ⟨i, j, dq_int hx, dq_int hy, q _ D H (Fw.refl s) (.bl _)⟩
theorem r_Ii {C : Int → Int → Prop} {f : Int → Int → Int} {i j : Int} (hc : C i j) : R2D K c (rI C fun i j => .int (f i j)) (.int i) (.int j) (.int (f i j)) := fun x y D H s hx hy Q q => ⟨i, j, dq_int hx, dq_int hy, hc, q _ D H (Fw.refl s) (.int _)⟩
theorem r_eqI {i j : Int} : R2D K c rEq (.int i) (.int j) (.bool (decide (i = j))) := fun x y D H s hx hy Q q => by
  rw [dq_int hx, dq_int hy]
  refine ⟨rfl, ?_⟩
  rw [show decide (V.int i = V.int j) = decide (i = j) by rw [decide_eq_decide, V.int.injEq]]
  exact q _ D H (Fw.refl s) (.bl _)
theorem r_neI {i j : Int} : R2D K c rNe (.int i) (.int j) (.bool (!decide (i = j))) := fun x y D H s hx hy Q q => by
  rw [dq_int hx, dq_int hy]
  refine ⟨rfl, ?_⟩
  rw [show decide (V.int i = V.int j) = decide (i = j) by rw [decide_eq_decide, V.int.injEq]]
  exact q _ D H (Fw.refl s) (.bl _)
theorem r_eqD (ha : SeqAt.shaped a = true) (hb : SeqAt.shaped b = true) : R2D K c (rEqD K) a b (.bool (PyData.eqv a b)) := fun x y D H s hx hy Q q =>
  ⟨a, b, dp_ex s.ex _ _ (dq_dp _ _ hx), dp_ex s.ex _ _ (dq_dp _ _ hy), ha, hb, q _ D H (Fw.refl s) (.bl _)⟩
theorem r_neD (ha : SeqAt.shaped a = true) (hb : SeqAt.shaped b = true) : R2D K c (rNeD K) a b (.bool (!PyData.eqv a b)) := fun x y D H s hx hy Q q =>
  ⟨a, b, dp_ex s.ex _ _ (dq_dp _ _ hx), dp_ex s.ex _ _ (dq_dp _ _ hy), ha, hb, q _ D H (Fw.refl s) (.bl _)⟩
theorem r_inT {n : Nat} {l : List Nat} : R2D K c (rIn K false) (di n) (.tuple (l.map di)) (.bool (l.contains n)) := fun x y D H s hx hy Q q => by
  obtain ⟨p, rfl, hp⟩ := dq_ints hy
  rw [dq_int hx]
  refine ⟨p, _, rfl, .inr (ex_t s.ex hp), rfl, flat_vis l, ?_⟩
  have := inV_vis n l
  rw [if_neg (by decide), this]
  exact q _ D H (Fw.refl s) (.bl _)
theorem r_niT {n : Nat} {l : List Nat} : R2D K c (rIn K true) (di n) (.tuple (l.map di)) (.bool (!l.contains n)) := fun x y D H s hx hy Q q => by
  obtain ⟨p, rfl, hp⟩ := dq_ints hy
  rw [dq_int hx]
  refine ⟨p, _, rfl, .inr (ex_t s.ex hp), rfl, flat_vis l, ?_⟩
  have := inV_vis n l
  rw [if_pos rfl, this]
  exact q _ D H (Fw.refl s) (.bl _)
theorem r_inL {n : Nat} {l : List Nat} : R2D K c (rIn K false) (di n) (.list (l.map di)) (.bool (l.contains n)) := fun x y D H s hx hy Q q => by
  obtain ⟨p, rfl, hp⟩ := dq_intl hy
  rw [dq_int hx]
  refine ⟨p, _, rfl, .inl (sq_of (s.ex _ _ hp)), rfl, flat_vis l, ?_⟩
  have := inV_vis n l
  rw [if_neg (by decide), this]
  exact q _ D H (Fw.refl s) (.bl _)
theorem r_niL {n : Nat} {l : List Nat} : R2D K c (rIn K true) (di n) (.list (l.map di)) (.bool (!l.contains n)) := fun x y D H s hx hy Q q => by
  obtain ⟨p, rfl, hp⟩ := dq_intl hy
  rw [dq_int hx]
  refine ⟨p, _, rfl, .inl (sq_of (s.ex _ _ hp)), rfl, flat_vis l, ?_⟩
  have := inV_vis n l
  rw [if_pos rfl, this]
  exact q _ D H (Fw.refl s) (.bl _)
theorem r_ixT {i : Nat} (h : ds[i]? = some d) : R2D K c (rIxT K) (.tuple ds) (.int (i : Int)) d := fun x y D H s hx hy Q q => by
  obtain ⟨p, xs, rfl, hp, ha⟩ := dq_tup hx
  obtain ⟨v, h1, h2⟩ := dqa_get ha h
  exact ⟨p, xs, _, v, rfl, dq_int hy, ex_t s.ex hp, atI_nat h1, q v D H (Fw.refl s) h2⟩
theorem r_ixL {i : Nat} (h : ds[i]? = some d) : R2D K c (rIxL K) (.list ds) (.int (i : Int)) d := fun x y D H s hx hy Q q => by
  obtain ⟨p, xs, rfl, hp, ha⟩ := dq_lst hx
  obtain ⟨v, h1, h2⟩ := dqa_get ha h
  exact ⟨p, xs, _, v, rfl, dq_int hy, sq_of (s.ex _ _ hp), atI_nat h1, q v D H (Fw.refl s) h2⟩
theorem r_isN : R2D K c (fun x y H Q => y = .non ∧ Q (.bl (decide (x = .non))) H) a .none (.bool (isNon a)) := fun x y D H s hx hy Q q => by
  have e : decide (x = V.non) = isNon a := by cases hx <;> rfl
  refine And.intro (dq_none hy) ?_
  rw [e]
  exact q _ D H (Fw.refl s) (.bl _)
theorem r_notN : R2D K c (fun x y H Q => y = .non ∧ Q (.bl (!decide (x = .non))) H) a .none (.bool (!isNon a)) := fun x y D H s hx hy Q q => by
  have e : decide (x = V.non) = isNon a := by cases hx <;> rfl
  refine And.intro (dq_none hy) ?_
  rw [e]
  exact q _ D H (Fw.refl s) (.bl _)
theorem r_catT {es : List PyData} (hl : ds.length + es.length ≤ 100000) : R2D K c (rCatA K) (.tuple ds) (.tuple es) (.tuple (ds ++ es)) := fun x y D H s hx hy Q q => by
  obtain ⟨p, xs, rfl, hp, ha⟩ := dq_tup hx
  obtain ⟨p2, ys, rfl, hp2, hb⟩ := dq_tup hy
  refine ⟨p, p2, xs, ys, rfl, rfl, ex_t s.ex hp, ex_t s.ex hp2, by rw [dqa_len ha, dqa_len hb]; exact sz_of hl, fun z => ?_, fun _ z => ?_, fun _ _ t ht => ?_⟩
  · subst z
    cases ha
    exact q _ D H (Fw.refl s) hy
  · subst z
    cases hb
    rw [List.append_nil] at q
    exact q _ D H (Fw.refl s) hx
  · have f := Fw.alloc (o := .tup (xs ++ ys)) s ht trivial
    exact q _ _ _ f (.tup (st_of upd_same) (dqa_ex f.dx _ _ (dqa_append ha hb)))
theorem r_catL {es : List PyData} (hl : ds.length + es.length ≤ 100000) : R2D K c rCat (.list ds) (.list es) (.list (ds ++ es)) := fun x y D H s hx hy Q q => by
  obtain ⟨p, xs, rfl, hp, ha⟩ := dq_lst hx
  obtain ⟨p2, ys, rfl, hp2, hb⟩ := dq_lst hy
  refine ⟨p, p2, xs, ys, rfl, rfl, s.ex _ _ hp, s.ex _ _ hp2, by rw [dqa_len ha, dqa_len hb]; exact sz_of hl, fun t ht => ?_⟩
  have f := Fw.alloc (o := .lst (xs ++ ys)) s ht trivial
  exact q _ _ _ f (.lst upd_same (dqa_ex f.dx _ _ (dqa_append ha hb)))
/-! built-ins -/
def lenD : PyData → Nat
  | .list ds => ds.length
  | .tuple ds => ds.length
  | _ => 0
theorem b_lenL : RCD K c (fun xs H Q => ∃ p ys, xs = [.ref p] ∧ (SqL K H p ys ∨ SqT K H p ys) ∧ Q (.int ys.length) H) [.list ds] (di ds.length) := fun vs D H s h Q q => by
  cases h with
  | cons h1 h2 =>
  cases h2
  obtain ⟨p, xs, rfl, hp, ha⟩ := dq_lst h1
  refine ⟨p, xs, rfl, .inl (sq_of (s.ex _ _ hp)), ?_⟩
  rw [dqa_len ha]
  exact q _ D H (Fw.refl s) (.int _)
theorem b_lenT : RCD K c (fun xs H Q => ∃ p ys, xs = [.ref p] ∧ (SqL K H p ys ∨ SqT K H p ys) ∧ Q (.int ys.length) H) [.tuple ds] (di ds.length) := fun vs D H s h Q q => by
  cases h with
  | cons h1 h2 =>
  cases h2
  obtain ⟨p, xs, rfl, hp, ha⟩ := dq_tup h1
  refine ⟨p, xs, rfl, .inr (ex_t s.ex hp), ?_⟩
  rw [dqa_len ha]
  exact q _ D H (Fw.refl s) (.int _)
theorem b_tupL : RCD K c (rTupS K) [.list ds] (.tuple ds) := fun vs D H s h Q q => by
  cases h with
  | cons h1 h2 =>
  cases h2
  obtain ⟨p, xs, rfl, hp, ha⟩ := dq_lst h1
  refine ⟨p, xs, rfl, .inl ⟨sq_of (s.ex _ _ hp), fun t ht => ?_⟩⟩
  have f := Fw.alloc (o := .tup xs) s ht trivial
  exact q _ _ _ f (.tup (st_of upd_same) (dqa_ex f.dx _ _ ha))
theorem b_tupT : RCD K c (rTupS K) [.tuple ds] (.tuple ds) := fun vs D H s h Q q => by
  cases h with
  | cons h1 h2 =>
  cases h2
  obtain ⟨p, xs, rfl, hp, ha⟩ := dq_tup h1
  exact ⟨p, xs, rfl, .inr ⟨ex_t s.ex hp, q _ D H (Fw.refl s) h1⟩⟩
theorem b_lisL : RCD K c (rListS K) [.list ds] (.list ds) := fun vs D H s h Q q => by
  cases h with
  | cons h1 h2 =>
  cases h2
  obtain ⟨p, xs, rfl, hp, ha⟩ := dq_lst h1
  refine ⟨p, xs, rfl, .inl (sq_of (s.ex _ _ hp)), fun t ht => ?_⟩
  have f := Fw.alloc (o := .lst xs) s ht trivial
  exact q _ _ _ f (.lst upd_same (dqa_ex f.dx _ _ ha))
theorem b_lisT : RCD K c (rListS K) [.tuple ds] (.list ds) := fun vs D H s h Q q => by
  cases h with
  | cons h1 h2 =>
  cases h2
  obtain ⟨p, xs, rfl, hp, ha⟩ := dq_tup h1
  refine ⟨p, xs, rfl, .inr (ex_t s.ex hp), fun t ht => ?_⟩
  have f := Fw.alloc (o := .lst xs) s ht trivial
  exact q _ _ _ f (.lst upd_same (dqa_ex f.dx _ _ ha))
/-! walks -/
theorem ei_list (h : ED K c te δ (.list ds)) : EI K c (iList K te) δ ds := fun σ D H s e R k =>
  h σ D H s e _ fun v D1 H1 f1 d1 => by
    obtain ⟨p, xs, rfl, hp, ha⟩ := dq_lst d1
    refine ⟨p, rfl, ⟨xs, sq_of (f1.sb.ex _ _ hp)⟩, k _ D1 H1 f1 ⟨fun H' e' => ⟨xs, sq_of (e' _ _ hp), by rw [dqa_len ha]; exact Nat.le_refl _⟩, fun i H' lt e' => ?_, fun i d D' H' x H2 hi e' s' y => ?_⟩⟩
    · have : i < xs.length := by rw [dqa_len ha]; exact lt
      exact ⟨xs, xs[i], sq_of (e' _ _ hp), List.getElem?_eq_getElem this⟩
    · obtain ⟨rfl, y⟩ := y
      obtain ⟨v, h1, h2⟩ := dqa_get ha hi
      have := y xs (sq_of (s'.ex _ _ (e' _ _ hp)))
      rw [h1] at this
      cases this
      exact ⟨D', Fw.refl s', dq_ex e' _ _ h2⟩
theorem ei_tup (h : ED K c te δ (.tuple ds)) : EI K c (iTup K te) δ ds := fun σ D H s e R k =>
  h σ D H s e _ fun v D1 H1 f1 d1 => by
    obtain ⟨p, xs, rfl, hp, ha⟩ := dq_tup d1
    refine ⟨p, rfl, ⟨xs, ex_t f1.sb.ex hp⟩, k _ D1 H1 f1 ⟨fun H' e' => ⟨xs, ex_t e' hp, by rw [dqa_len ha]; exact Nat.le_refl _⟩, fun i H' lt e' => ?_, fun i d D' H' x H2 hi e' s' y => ?_⟩⟩
    · have : i < xs.length := by rw [dqa_len ha]; exact lt
      exact ⟨xs, xs[i], ex_t e' hp, List.getElem?_eq_getElem this⟩
    · obtain ⟨rfl, y⟩ := y
      obtain ⟨v, h1, h2⟩ := dqa_get ha hi
      have := y xs (ex_t s'.ex (ex_t e' hp))
      rw [h1] at this
      cases this
      exact ⟨D', Fw.refl s', dq_ex e' _ _ h2⟩
theorem ei_rng1 {n : Nat} (h : EA K c tr δ [di n]) (hn : n ≤ 100000) : EI K c (iRng1 tr) δ ((List.range n).map di) := fun σ D H s e R k =>
  h σ D H s e _ fun vs D1 H1 f1 d1 => by
    cases d1 with
    | cons h1 h2 =>
    cases h2
    refine ⟨n, by rw [dq_int h1], by omega, by omega, k _ D1 H1 f1 ⟨fun H' e' => ?_, fun i H' lt e' => ?_, fun i d D' H' x H2 hi e' s' y => ?_⟩⟩
    · show ((n : Int)).toNat ≤ _
      rw [List.length_map, List.length_range]; omega
    · rw [List.length_map, List.length_range] at lt
      show i < ((n : Int)).toNat
      omega
    · obtain ⟨rfl, rfl⟩ := y
      rw [List.getElem?_map] at hi
      obtain ⟨j, hj, rfl⟩ := Option.map_eq_some_iff.mp hi
      have : j = i := by
        obtain ⟨lt, e⟩ := List.getElem?_eq_some_iff.mp hj
        rw [List.getElem_range] at e
        exact e.symm
      subst this
      rw [Int.zero_add]
      exact ⟨D', Fw.refl s', .int _⟩
theorem ei_enum (h : EA K c tr δ [.list ds]) : EI K c (iEnum K tr) δ ((List.range ds.length).map fun i => .tuple [di i, ds.getD i .none]) := fun σ D H s e R k =>
  h σ D H s e _ fun vs D1 H1 f1 d1 => by
    cases d1 with
    | cons h1 h2 =>
    cases h2
    obtain ⟨p, xs, rfl, hp, ha⟩ := dq_lst h1
    refine ⟨p, xs, rfl, sq_of (f1.sb.ex _ _ hp), k _ D1 H1 f1 ⟨fun H' e' => ⟨xs, sq_of (e' _ _ hp), by rw [dqa_len ha, List.length_map, List.length_range]; exact Nat.le_refl _⟩, fun i H' lt e' => ?_, fun i d D' H' x H2 hi e' s' y => ?_⟩⟩
    · rw [List.length_map, List.length_range] at lt
      have : i < xs.length := by rw [dqa_len ha]; exact lt
      exact ⟨xs, xs[i], sq_of (e' _ _ hp), List.getElem?_eq_getElem this⟩
    · obtain ⟨t, u, rfl, ht, rfl, y⟩ := y
      rw [List.getElem?_map] at hi
      obtain ⟨j, hj, rfl⟩ := Option.map_eq_some_iff.mp hi
      obtain ⟨lt, ej⟩ := List.getElem?_eq_some_iff.mp hj
      rw [List.getElem_range] at ej
      subst ej
      rw [List.length_range] at lt
      have hd : ds[i]? = some (ds.getD i .none) := by rw [List.getD_eq_getElem?_getD, List.getElem?_eq_getElem lt]; rfl
      obtain ⟨v, h1, h2⟩ := dqa_get ha hd
      have := y xs (sq_of (s'.ex _ _ (e' _ _ hp)))
      rw [h1] at this
      have this := Option.some.inj this
      subst this
      have f := Fw.alloc (o := .tup [.int (i : Nat), v]) s' ht trivial
      exact ⟨_, f, .tup (st_of upd_same) (.cons (.int _) (.cons (dq_ex (e'.trans f.dx) _ _ h2) .nil))⟩
theorem ei_zip (h : EA K c tr δ [.list ds, .list es]) : EI K c (iZip K tr) δ ((ds.zip es).map fun p => .tuple [p.1, p.2]) := fun σ D H s e R k =>
  h σ D H s e _ fun vs D1 H1 f1 d1 => by
    cases d1 with
    | cons h1 h2 =>
    cases h2 with
    | cons h2 h3 =>
    cases h3
    obtain ⟨p, xs, rfl, hp, ha⟩ := dq_lst h1
    obtain ⟨p2, ys, rfl, hp2, hb⟩ := dq_lst h2
    refine ⟨p, p2, xs, ys, rfl, sq_of (f1.sb.ex _ _ hp), sq_of (f1.sb.ex _ _ hp2), k _ D1 H1 f1 ⟨fun H' e' => ⟨xs, ys, sq_of (e' _ _ hp), sq_of (e' _ _ hp2), ?_⟩, fun i H' lt e' => ?_, fun i d D' H' x H2 hi e' s' y => ?_⟩⟩
    · rw [dqa_len ha, dqa_len hb, List.length_map, List.length_zip]; omega
    · rw [List.length_map, List.length_zip] at lt
      have l1 : i < xs.length := by rw [dqa_len ha]; omega
      have l2 : i < ys.length := by rw [dqa_len hb]; omega
      exact ⟨xs, ys, xs[i], ys[i], sq_of (e' _ _ hp), sq_of (e' _ _ hp2), List.getElem?_eq_getElem l1, List.getElem?_eq_getElem l2⟩
    · obtain ⟨t, u, u2, rfl, ht, rfl, y, y2⟩ := y
      rw [List.getElem?_map] at hi
      obtain ⟨j, hj, rfl⟩ := Option.map_eq_some_iff.mp hi
      obtain ⟨j1, j2⟩ := List.getElem?_zip_eq_some.mp hj
      obtain ⟨v, h1, h2⟩ := dqa_get ha j1
      obtain ⟨v2, h1', h2'⟩ := dqa_get hb j2
      have e1 := y xs (sq_of (s'.ex _ _ (e' _ _ hp)))
      rw [h1] at e1
      have e1 := Option.some.inj e1
      subst e1
      have e2 := y2 ys (sq_of (s'.ex _ _ (e' _ _ hp2)))
      rw [h1'] at e2
      have e2 := Option.some.inj e2
      subst e2
      have f := Fw.alloc (o := .tup [v, v2]) s' ht trivial
      exact ⟨_, f, .tup (st_of upd_same) (.cons (dq_ex (e'.trans f.dx) _ _ h2) (.cons (dq_ex (e'.trans f.dx) _ _ h2') .nil))⟩
/-! targets -/
theorem eg_name {i : Nat} : EG K c (gName i) d δ (δ.set i (.dat d)) [i] := fun v σ D H s e h Q q => q _ (SE.set (x := some v) (s := .dat d) h i e) List.length_set fun j hj => by
  rw [List.getElem?_set_ne]
  rintro rfl
  exact hj (List.mem_singleton.mpr rfl)
theorem egs_nil : EGs K c gNil [] δ δ [] := fun vs σ D H s e h Q q => by
  cases h
  exact ⟨rfl, q σ e rfl fun _ _ => rfl⟩
theorem egs_cons {g : TG} {gs : TGs} {δ1 : List Sl} {us ws : List Nat} (h1 : EG K c g d δ δ1 us) (h2 : EGs K c gs ds δ1 δ2 ws) : EGs K c (gCons g gs) (d :: ds) δ δ2 (us ++ ws) := fun vs σ D H s e h Q q => by
  cases h with
  | cons a b =>
  exact ⟨_, _, rfl, h1 _ σ D H s e a _ fun σ1 e1 l1 n1 => h2 _ σ1 D H s e1 b _ fun σ2 e2 l2 n2 => q σ2 e2 (l2.trans l1) fun i hi => by
    rw [List.mem_append, not_or] at hi
    rw [n2 i hi.2, n1 i hi.1]⟩
theorem eg_tup {n : Nat} {gs : TGs} {us : List Nat} (h : EGs K c gs ds δ δ2 us) (hn : ds.length = n) : EG K c (gTup K n gs) (.tuple ds) δ δ2 us := fun v σ D H s e hd Q q => by
  obtain ⟨p, xs, rfl, hp, ha⟩ := dq_tup hd
  exact ⟨p, xs, rfl, ex_t s.ex hp, by rw [dqa_len ha, hn], h xs σ D H s e ha Q q⟩
/-! comprehensions -/
theorem EI.is {wi : TI} (h : EI K c wi δ ds) (e : ds = es) : EI K c wi δ es := e ▸ h
/-- new, or a table's place -/
def Fr (c : Md) (H : Hp) (p : Addr) : Prop := ∀ o, H p = some o → c.tab ≠ none ∧ ∃ ps, o = .tbl ps
theorem Fr.none {H : Hp} {p : Addr} (h : H p = none) : Fr c H p := fun o ho => by rw [h] at ho; cases ho
theorem Fr.ne {H : Hp} {p a : Addr} {o : HO} (n : Fr c H p) (h : H a = some o) (nt : c.tab = .none ∨ ∀ ps, o ≠ .tbl ps) : a ≠ p := fun z => by
  subst z
  obtain ⟨h1, ps, h2⟩ := n o h
  rcases nt with nt | nt
  · exact h1 nt
  · exact nt ps h2
theorem Fr.back {D H D2 H2 : Hp} {p : Addr} (f : Fw c D H D2 H2) (n : Fr c H2 p) (nb : c.bag ≠ some p) : Fr c H p := fun o ho => by
  by_cases nt : c.tab = .none ∨ ∀ ps, o ≠ .tbl ps
  · exact n o (f.hx p o ho nt nb)
  · refine ⟨fun z => nt (.inl z), ?_⟩
    cases o with
    | tbl ps => exact ⟨ps, rfl⟩
    | _ => exact absurd (.inr fun _ z => by cases z) nt
theorem Xt.mut {H H2 : Hp} {p : Addr} {o : HO} (x : Xt c H H2) (n : Fr c H p) : Xt c H (upd H2 p o) := fun a v h nt nb => by
  rw [upd_ne (n.ne h nt)]
  exact x a v h nt nb
theorem Fw.mut {D H D2 H2 : Hp} {p : Addr} {u o : HO} (f : Fw c D H D2 H2) (n : Fr c H p) (nD : D2 p = none) (hp : H2 p = some u) (hu : Ord u) (nb : c.bag ≠ some p) : Fw c D H D2 (upd H2 p o) :=
  ⟨f.sb.put nD hp hu nb, f.dx, f.hx.mut n, f.new⟩
theorem Fw.give {D H D2 H2 : Hp} {p : Addr} {xs : List V} (f : Fw c D H D2 H2) (n : Fr c H p) (nD : D2 p = none) (hp : H2 p = some (.lst xs)) (nb : c.bag ≠ some p) : Fw c D H (upd D2 p (.lst xs)) H2 :=
  ⟨f.sb.give nD hp nb, f.dx.trans (Ex.new nD), f.hx, fun a o h nd m => by rw [upd_ne (n.ne h (.inr m.nt))]; exact f.new a o h nd m⟩
theorem ed_lc {α : Type} {wi : TI} {g : TG} {vs us : List Nat} {L : List α} {enc : α → PyData} {δx : α → List Sl} (f : α → Bool) (F : α → PyData) (hi : EI K c wi δ (L.map enc)) (hg : ∀ x ∈ L, EG K c g (enc x) (wipeD δ vs) (δx x) us)
    (ht : ∀ x ∈ L, ET K c tt (δx x) (f x)) (he : ∀ x ∈ L, f x = true → ED K c te (δx x) (F x)) (hu : ∀ i ∈ us, i ∈ vs) (hl : L.length ≤ 50000) : ED K c (tLc wi g tt te vs) δ (.list ((L.filter f).map F)) := fun σ D H s e Q q =>
  hi σ D H s e _ fun J D1 H1 f1 wk => fun p hp => by
    have nb := f1.sb.nbH hp
    have key : ∀ (W : Nat → Hp → Prop), (∀ i H', W i H' ↔ ∃ (D' : Hp) (xs : List V), Fw c D1 H1 D' H' ∧ D' p = none ∧ H' p = some (.lst xs) ∧ DqAll K D' xs (((L.take i).filter f).map F)) →
        ∃ W : Nat → Nat → Hp → Prop, (∃ m, W 0 m (upd H1 p (.lst []))) ∧ ∀ i m H, W i m H → (J.stop i H ∧ Q (.ref p) H) ∨ (J.go i H ∧ ∃ Nx : Hp → Prop, (∀ H', Nx H' → ∃ m', m' < m ∧ W (i + 1) m' H') ∧ ∀ x H', J.yld i H x H' → g x (wipe σ vs) H' fun σ2 H2 => wipe σ2 vs = wipe σ vs ∧ tt σ2 H2 fun b H3 =>
          if b = true then te σ2 H3 fun y H4 => ∃ acc, H4 p = some (.lst acc) ∧ acc.length < sizeLine ∧ Nx (upd H4 p (.lst (acc ++ [y]))) else Nx H3) := fun W hW => by
      refine ⟨fun i m H' => m + i = L.length ∧ W i H', ⟨L.length, rfl, (hW 0 _).mpr ⟨D1, [], Fw.made f1.sb hp, f1.sb.free hp, upd_same, .nil⟩⟩, fun i m H' hw => ?_⟩
      obtain ⟨em, hw⟩ := hw
      obtain ⟨D', xs, fw, nD, hpx, hd⟩ := (hW i H').mp hw
      by_cases lt : i < L.length
      · refine .inr ⟨wk.go i H' (by rw [List.length_map]; exact lt) (fw.dx.trans fw.sb.ex), W (i + 1), fun H2 h2 => ⟨m - 1, by omega, by omega, h2⟩, fun x H2 hy => ?_⟩
        have hLi : L[i]? = some L[i] := List.getElem?_eq_getElem lt
        have hmem : L[i] ∈ L := List.getElem_mem lt
        obtain ⟨D2, fy, dx⟩ := wk.yld i (enc L[i]) D' H' x H2 (by rw [List.getElem?_map, hLi]; rfl) fw.dx fw.sb hy
        refine hg _ hmem x (wipe σ vs) D2 H2 fy.sb ((e.ex ((f1.trans fw).trans fy).dx).wipe vs) dx _ fun σ2 e2 l2 n2 => ⟨?_, ?_⟩
        · refine wipe_same (by rw [l2, wipe_length]) fun j hj => ?_
          rw [n2 j fun z => hj (hu j z), wipe_out hj]
        · refine ht _ hmem σ2 D2 H2 fy.sb e2 _ fun D3 H3 f3 => ?_
          have ftk : (L.take (i + 1)).filter f = (L.take i).filter f ++ [L[i]].filter f := by
            rw [List.take_add_one, hLi, List.filter_append]; rfl
          have fa := fw.trans (fy.trans f3)
          have np3 : D3 p = none := (fy.trans f3).off hpx nD trivial
          have hp3 : H3 p = some (.lst xs) := (fy.trans f3).keep hpx trivial nb
          cases hf : f L[i] with
          | true =>
            rw [if_pos rfl]
            refine he _ hmem hf σ2 D3 H3 f3.sb (e2.ex f3.dx) _ fun y D4 H4 f4 dy => ?_
            have np4 : D4 p = none := f4.off hp3 np3 trivial
            have hp4 : H4 p = some (.lst xs) := f4.keep hp3 trivial nb
            refine ⟨xs, hp4, ?_, (hW _ _).mpr ⟨D4, xs ++ [y], (fa.trans f4).mut (.none hp) np4 hp4 trivial nb, np4, upd_same, ?_⟩⟩
            · have l1 := dqa_len hd
              have l2 := List.length_filter_le f (L.take i)
              rw [List.length_map] at l1
              rw [List.length_take] at l2
              exact sz_lt (by omega)
            · rw [ftk, List.filter_cons, if_pos hf, List.map_append]
              exact dqa_append (dqa_ex (fy.trans (f3.trans f4)).dx _ _ hd) (.cons dy .nil)
          | false =>
            rw [if_neg (by decide)]
            refine (hW _ _).mpr ⟨D3, xs, fa, np3, hp3, ?_⟩
            rw [ftk, List.filter_cons, if_neg (by rw [hf]; decide), List.filter_nil, List.append_nil]
            exact dqa_ex (fy.trans f3).dx _ _ hd
      · have ei : i = L.length := by omega
        subst ei
        have st := wk.stop H' (fw.dx.trans fw.sb.ex)
        rw [List.length_map] at st
        rw [List.take_length] at hd
        have fg := fw.give (.none hp) nD hpx nb
        exact .inl ⟨st, q _ _ _ (f1.trans fg) (.lst upd_same (dqa_ex (Ex.new nD) _ _ hd))⟩
    exact key _ fun _ _ => Iff.rfl
/-- every turn gives -/
theorem ed_lcA {α : Type} {wi : TI} {g : TG} {vs us : List Nat} {L : List α} {enc : α → PyData} {δx : α → List Sl} (F : α → PyData) (hi : EI K c wi δ (L.map enc)) (hg : ∀ x ∈ L, EG K c g (enc x) (wipeD δ vs) (δx x) us)
    (he : ∀ x ∈ L, ED K c te (δx x) (F x)) (hu : ∀ i ∈ us, i ∈ vs) (hl : L.length ≤ 50000) : ED K c (tLc wi g tYes te vs) δ (.list (L.map F)) :=
  (ed_lc (fun _ => true) F hi hg (fun _ _ => et_yesD) (fun x hx _ => he x hx) hu hl).is (by rw [List.filter_eq_self.mpr fun _ _ => rfl])
/-! blocks that return -/
theorem rd_ret (h : ED K c te δ d) : RD K c (tRet te) δ d := fun En σ D H s e k => h σ D H s e _ k
theorem rd_asgG {g : TG} {tz : TS} {us : List Nat} (h : ED K c te δ a) (hg : EG K c g a δ δ2 us) (hz : RD K c tz δ2 d) : RD K c (tSeq (tAsg te g) tz) δ d := fun En σ D H s e k =>
  h σ D H s e _ fun v D1 H1 f1 d1 => hg v σ D1 H1 f1.sb (e.ex f1.dx) d1 _ fun σ2 e2 _ _ => hz En σ2 D1 H1 f1.sb e2 fun v D2 H2 f2 d2 => k v D2 H2 (f1.trans f2) d2
theorem rd_asg {i : Nat} {tz : TS} (h : ED K c te δ a) (hz : RD K c tz (δ.set i (.dat a)) d) : RD K c (tSeq (tAsg te (gName i)) tz) δ d := rd_asgG h eg_name hz
theorem rd_when {p : Bool} {ts tz : TS} (h : ET K c tt δ p) (h1 : p = true → RD K c ts δ d) (h2 : p = false → RD K c tz δ d) : RD K c (tSeq (tIfS tt ts tNext) tz) δ d := fun En σ D H s e k =>
  h σ D H s e _ fun D1 H1 f1 => by
    cases p with
    | true => exact h1 rfl _ σ D1 H1 f1.sb (e.ex f1.dx) fun v D2 H2 f2 d2 => k v D2 H2 (f1.trans f2) d2
    | false => exact h2 rfl _ σ D1 H1 f1.sb (e.ex f1.dx) fun v D2 H2 f2 d2 => k v D2 H2 (f1.trans f2) d2
theorem rd_if {p : Bool} {ts tw : TS} (h : ET K c tt δ p) (h1 : p = true → RD K c ts δ d) (h2 : p = false → RD K c tw δ d) : RD K c (tIfS tt ts tw) δ d := fun En σ D H s e k =>
  h σ D H s e _ fun D1 H1 f1 => by
    cases p with
    | true => exact h1 rfl _ σ D1 H1 f1.sb (e.ex f1.dx) fun v D2 H2 f2 d2 => k v D2 H2 (f1.trans f2) d2
    | false => exact h2 rfl _ σ D1 H1 f1.sb (e.ex f1.dx) fun v D2 H2 f2 d2 => k v D2 H2 (f1.trans f2) d2
/-! defs -/
theorem sp_of {α : Type} {A : α → List PyData} {C : α → Prop} {F : α → PyData} (x : α) (hC : C x) : SpD K c (spF K A C F) (A x) (F x) := fun vs D H s h Q q E => by
  refine ⟨x, D, ⟨s.ex, s.dat, fun t z => (by cases z), fun t z => (by cases z)⟩, h, hC, fun v D2 H2 f d => q v D2 H2 ⟨⟨f.sb.ex, f.sb.dat, fun t z => (s.tab t z).ext f.hx.ex, fun p z => ⟨(s.bag p z).1.ex f.hx.ex, ?_⟩⟩, f.dx, .of f.hx.ex, f.new⟩ d⟩
  obtain ⟨⟨x, y, hb⟩, nb⟩ := s.bag p z
  exact f.new _ _ hb nb trivial
theorem spT_of {t : Addr} {α : Type} {A : α → List PyData} {C : α → Prop} {F : α → PyData} (x : α) (hC : C x) (ht : c.tab = some t) : SpD K c (spT K t A C F) (A x) (F x) := fun vs D H s h Q q E => by
  refine ⟨x, D, ⟨s.ex, s.dat, fun t' z => (by cases z; exact s.tab _ ht), fun t z => (by cases z)⟩, h, hC, fun v D2 H2 f d => q v D2 H2 ⟨⟨f.sb.ex, f.sb.dat, fun t' z => (by rw [ht] at z; cases z; exact f.sb.tab _ rfl), fun p z => ?_⟩, f.dx, fun a o ho n _ => f.hx a o ho (.inr (n.resolve_left (by rw [ht]; intro z; cases z))) (fun z => by cases z), f.new⟩ d⟩
  obtain ⟨⟨x, y, hb⟩, nb⟩ := s.bag p z
  exact ⟨⟨x, y, f.hx.get hb (fun _ z => by cases z) (fun z => by cases z)⟩, f.new _ _ hb nb trivial⟩
theorem start_se {D : Hp} {vs : List V} (h : DqAll K D vs ds) : ∀ m : Nat, SE K D (vs.map some ++ List.replicate m none) (ds.map .dat ++ List.replicate m .un)
  | m => by
    induction ds generalizing vs with
    | nil =>
      cases h
      show SE K D (List.replicate m none) (List.replicate m .un)
      induction m with
      | zero => exact .nil
      | succ m ih => exact .cons trivial ih
    | cons d ds ih =>
      cases h with
      | cons h1 h2 => exact .cons h1 (ih h2)
theorem RD.go {t : TS} {N : List Str} {vs : List V} {D H : Hp} {Q : VK} {nx : L2.St → Hp → Prop} (s : Sb c D H) (h : DqAll K D vs ds) (hδ : ds.map Sl.dat ++ List.replicate (N.length - ds.length) .un = δ) (k : RD K c t δ d) (q : ∀ v D2 H2, Fw c D H D2 H2 → Dq K D2 v d → Q v H2) : t { nx := nx, rt := Q } (L2.start N vs) H := by
  subst hδ
  refine k _ _ D H s ?_ q
  unfold L2.start
  rw [dqa_len h]
  exact start_se h _
end
end Nr
namespace Nr
open PySem PySem.Spec PyProof.Rows L2 Evl
open LamX (TabS TabB CodeO ExtN)

/-! some data of which C holds -/
section
variable (K : PySem.W.Frag) (c : Md)
def EN (te : TE) (δ : List Sl) (C : PyData → Prop) : Prop := ∀ σ D H, Sb c D H → SE K D σ δ → ∀ Q : VK, (∀ v d D2 H2, Fw c D H D2 H2 → C d → Dq K D2 v d → Q v H2) → te σ H Q
abbrev AS (D : Hp) : List V → List Sl → Prop := Paired fun v s => SD K D (some v) s
def EAs (ta : TA) (δ ss : List Sl) : Prop := ∀ σ D H, Sb c D H → SE K D σ δ → ∀ Q : List V → Hp → Prop, (∀ vs D2 H2, Fw c D H D2 H2 → AS K D2 vs ss → Q vs H2) → ta σ H Q
def SpN (sp : Sp) (ss : List Sl) (C : PyData → Prop) : Prop := ∀ vs D H, Sb c D H → AS K D vs ss → ∀ Q : VK, (∀ v d D2 H2, Fw c D H D2 H2 → C d → Dq K D2 v d → Q v H2) → ∀ E : XK, sp vs H Q E
structure LB (δ : List Sl) (D H : Hp) (σ : L2.St) : Prop where
  sb : Sb c D H
  se : SE K D σ δ
/-- a list that is filled -/
def Acc (D H : Hp) (p : Addr) (ds : List PyData) : Prop := D p = none ∧ ∃ xs, H p = some (.lst xs) ∧ DqAll K D xs ds
end
/-- what stands at p has changed -/
structure Ch (c : Md) (p : Addr) (D H D2 H2 : Hp) : Prop where
  sb : Sb c D2 H2
  dx : Ex D D2
  hx : ∀ a o, a ≠ p → H a = some o → (c.tab = none ∨ ∀ ps, o ≠ .tbl ps) → c.bag ≠ some a → H2 a = some o
  new : ∀ a o, H a = some o → D a = none → Mu o → D2 a = none
section
variable {K : PySem.W.Frag} {c : Md} {δ δ2 ss : List Sl} {te ta tb tc : TE} {tt tu : TT} {tr : TA} {a b d z : PyData} {ds es : List PyData} {r r' : R2} {D H D2 H2 D0 H0 : Hp} {σ : L2.St} {En : Ends} {ts tz : TS} {i j : Nat} {p : Addr} {C : PyData → Prop}
theorem Ch.of {u o : HO} (f : Fw c D H D2 H2) (n : D2 p = none) (hp : H2 p = some u) (hu : Ord u) (nb : c.bag ≠ some p) : Ch c p D H D2 (upd H2 p o) :=
  ⟨f.sb.put n hp hu nb, f.dx, fun a v ne h nt nb => by rw [upd_ne ne]; exact f.hx a v h nt nb, f.new⟩
theorem Ch.after (h : Ch c p D H D2 H2) (f : Fw c D0 H0 D H) (n : Fr c H0 p) : Fw c D0 H0 D2 H2 :=
  ⟨h.sb, f.dx.trans h.dx, fun a o ha nt nb => h.hx a o (n.ne ha nt) (f.hx a o ha nt nb) nt nb, fun a o ha nd m => by
    by_cases z : c.bag = some a
    · exact (h.sb.bag a z).2
    · exact h.new a o (f.hx.get ha m.nt z) (f.new a o ha nd m) m⟩
theorem Acc.fw {q : Addr} (A : Acc K D H q ds) (f : Fw c D H D2 H2) (nb : c.bag ≠ some q) : Acc K D2 H2 q ds := by
  obtain ⟨n, xs, h, d⟩ := A
  exact ⟨f.off h n trivial, xs, f.keep h trivial nb, dqa_ex f.dx _ _ d⟩
theorem Acc.ch {q : Addr} (A : Acc K D H q ds) (f : Ch c p D H D2 H2) (ne : q ≠ p) (nb : c.bag ≠ some q) : Acc K D2 H2 q ds := by
  obtain ⟨n, xs, h, d⟩ := A
  exact ⟨f.new _ _ h n trivial, xs, f.hx _ _ ne h (.inr fun _ z => by cases z) nb, dqa_ex f.dx _ _ d⟩
theorem Acc.give {D0 H0 : Hp} (A : Acc K D H p ds) (f : Fw c D0 H0 D H) (n : Fr c H0 p) (nb : c.bag ≠ some p) : ∃ D2, Fw c D0 H0 D2 H ∧ Dq K D2 (.ref p) (.list ds) := by
  obtain ⟨nD, xs, h, d⟩ := A
  exact ⟨_, f.give n nD h nb, .lst upd_same (dqa_ex (Ex.new nD) _ _ d)⟩
theorem EN.of (h : ED K c te δ d) : EN K c te δ (· = d) := fun σ D H s e Q q => h σ D H s e _ fun v D2 H2 f dv => q v d D2 H2 f rfl dv
theorem EN.imp {C' : PyData → Prop} (h : EN K c te δ C) (k : ∀ d, C d → C' d) : EN K c te δ C' := fun σ D H s e Q q => h σ D H s e _ fun v d D2 H2 f hc dv => q v d D2 H2 f (k d hc) dv
theorem eas_nil : EAs K c tNil δ [] := fun σ D H s e Q q => q _ D H (Fw.refl s) .nil
theorem AS.ex {vs : List V} (e : Ex D D2) (h : AS K D vs ss) : AS K D2 vs ss := Paired.mapP h fun _ _ => SD.ex e
theorem eas_raw {u : V} (h : δ[i]? = some (.raw u)) (hr : EAs K c tr δ ss) : EAs K c (tCons (tVar i) tr) δ (.raw u :: ss) := fun σ D H s e Q q =>
  ⟨u, e.raw h, hr σ D H s e _ fun vs D2 H2 f2 h2 => q _ D2 H2 f2 (.cons rfl h2)⟩
theorem eas_dat (h : ED K c ta δ d) (hr : EAs K c tr δ ss) : EAs K c (tCons ta tr) δ (.dat d :: ss) := fun σ D H s e Q q =>
  h σ D H s e _ fun v D1 H1 f1 h1 => hr σ D1 H1 f1.sb (e.ex f1.dx) _ fun vs D2 H2 f2 h2 => q _ D2 H2 (f1.trans f2) (.cons (dq_ex f2.dx _ _ h1) h2)
theorem en_call {sp : Sp} {E : XK} (h : EAs K c tr δ ss) (hs : SpN K c sp ss C) : EN K c (tCall sp [] E tr) δ C := fun σ D H s e Q q =>
  h σ D H s e _ fun vs D1 H1 f1 h1 => hs (vs ++ []) D1 H1 f1.sb (by rw [List.append_nil]; exact h1) Q (fun v d D2 H2 f2 hc h2 => q v d D2 H2 (f1.trans f2) hc h2) E
/-- a drawn number and one more -/
theorem en_op {F : PyData → PyData} (ha : ED K c ta δ a) (hb : EN K c tb δ C) (hr : ∀ d, C d → R2D K c r a d (F d)) : EN K c (tOp r ta tb) δ (fun x => ∃ d, C d ∧ x = F d) := fun σ D H s e Q q =>
  ha σ D H s e _ fun x D1 H1 f1 h1 => hb σ D1 H1 f1.sb (e.ex f1.dx) _ fun y d D2 H2 f2 hc h2 => hr d hc x y D2 H2 f2.sb (dq_ex f2.dx _ _ h1) h2 _ fun v D3 H3 f3 h3 => q v _ D3 H3 ((f1.trans f2).trans f3) ⟨d, hc, rfl⟩ h3
/-! a tuple of two, each of its own -/
theorem en_tup2 {C' : PyData → Prop} (ha : EN K c ta δ C) (hb : EN K c tb δ C') : EN K c (tTup (tCons ta (tCons tb tNil))) δ (fun x => ∃ d d', C d ∧ C' d' ∧ x = .tuple [d, d']) := fun σ D H s e Q q =>
  ha σ D H s e _ fun v d D1 H1 f1 hc h1 => hb σ D1 H1 f1.sb (e.ex f1.dx) _ fun v' d' D2 H2 f2 hc' h2 => ⟨by show 2 ≤ sizeLine; decide, fun t ht => by
    have f3 := Fw.alloc (o := .tup [v, v']) f2.sb ht trivial
    exact q _ _ _ _ ((f1.trans f2).trans f3) ⟨d, d', hc, hc', rfl⟩ (.tup (st_of upd_same) (.cons (dq_ex (f2.trans f3).dx _ _ h1) (.cons (dq_ex f3.dx _ _ h2) .nil)))⟩
/-! statements, by what follows -/
theorem LB.fw (S : LB K c δ D H σ) (f : Fw c D H D2 H2) : LB K c δ D2 H2 σ := ⟨f.sb, S.se.ex f.dx⟩
theorem LB.ch (S : LB K c δ D H σ) (f : Ch c p D H D2 H2) : LB K c δ D2 H2 σ := ⟨f.sb, S.se.ex f.dx⟩
theorem LB.dat {v : V} (S : LB K c δ D H σ) (h : Dq K D v d) : LB K c (δ.set i (.dat d)) D H (σ.set i (some v)) := ⟨S.sb, SE.set (x := some v) (s := .dat d) h i S.se⟩
theorem LB.raw {v : V} (S : LB K c δ D H σ) : LB K c (δ.set i (.raw v)) D H (σ.set i (some v)) := ⟨S.sb, SE.set (x := some v) (s := .raw v) rfl i S.se⟩
theorem LB.start {vs : List V} {N : List Str} (s : Sb c D H) (h : DqAll K D vs ds) (hδ : ds.map Sl.dat ++ List.replicate (N.length - ds.length) .un = δ) : LB K c δ D H (L2.start N vs) := by
  subst hδ
  refine ⟨s, ?_⟩
  unfold L2.start
  rw [dqa_len h]
  exact start_se h _
theorem l_asg (S : LB K c δ D H σ) (h : ED K c te δ d) (k : ∀ σ2 D2 H2, Fw c D H D2 H2 → LB K c (δ.set i (.dat d)) D2 H2 σ2 → tz En σ2 H2) : tSeq (tAsg te (gName i)) tz En σ H :=
  h σ D H S.sb S.se _ fun v D2 H2 f dv => k _ D2 H2 f ((S.fw f).dat dv)
theorem l_asgN (S : LB K c δ D H σ) (h : EN K c te δ C) (k : ∀ d σ2 D2 H2, C d → Fw c D H D2 H2 → LB K c (δ.set i (.dat d)) D2 H2 σ2 → tz En σ2 H2) : tSeq (tAsg te (gName i)) tz En σ H :=
  h σ D H S.sb S.se _ fun v d D2 H2 f hc dv => k d _ D2 H2 hc f ((S.fw f).dat dv)
theorem l_asgG {g : TG} {us : List Nat} (S : LB K c δ D H σ) (h : ED K c te δ d) (hg : EG K c g d δ δ2 us) (k : ∀ σ2 D2 H2, Fw c D H D2 H2 → LB K c δ2 D2 H2 σ2 → tz En σ2 H2) : tSeq (tAsg te g) tz En σ H :=
  h σ D H S.sb S.se _ fun v D2 H2 f dv => hg v σ D2 H2 f.sb (S.se.ex f.dx) dv _ fun σ2 e2 _ _ => k σ2 D2 H2 f ⟨f.sb, e2⟩
theorem l_asgGN {g : TG} {us : List Nat} (S : LB K c δ D H σ) (h : EN K c te δ C) {δ2 : PyData → List Sl} (hg : ∀ d, C d → EG K c g d δ (δ2 d) us) (k : ∀ d σ2 D2 H2, C d → Fw c D H D2 H2 → LB K c (δ2 d) D2 H2 σ2 → tz En σ2 H2) : tSeq (tAsg te g) tz En σ H :=
  h σ D H S.sb S.se _ fun v d D2 H2 f hc dv => hg d hc v σ D2 H2 f.sb (S.se.ex f.dx) dv _ fun σ2 e2 _ _ => k d σ2 D2 H2 hc f ⟨f.sb, e2⟩
theorem l_when {q : Bool} (S : LB K c δ D H σ) (h : ET K c tt δ q) (h1 : q = true → ∀ D2 H2, Fw c D H D2 H2 → LB K c δ D2 H2 σ → ts { En with nx := tz En } σ H2) (h2 : q = false → ∀ D2 H2, Fw c D H D2 H2 → LB K c δ D2 H2 σ → tz En σ H2) : tSeq (tIfS tt ts tNext) tz En σ H :=
  h σ D H S.sb S.se _ fun D2 H2 f => by
    cases q with
    | true => exact h1 rfl D2 H2 f (S.fw f)
    | false => exact h2 rfl D2 H2 f (S.fw f)
theorem l_no (S : LB K c δ D H σ) (h : ET K c tt δ false) (k : ∀ D2 H2, Fw c D H D2 H2 → LB K c δ D2 H2 σ → tz En σ H2) : tSeq (tIfS tt ts tNext) tz En σ H := l_when S h (fun z => by cases z) fun _ => k
theorem e_when {q : Bool} (S : LB K c δ D H σ) (h : ET K c tt δ q) (h1 : q = true → ∀ D2 H2, Fw c D H D2 H2 → LB K c δ D2 H2 σ → ts En σ H2) (h2 : q = false → ∀ D2 H2, Fw c D H D2 H2 → LB K c δ D2 H2 σ → tz En σ H2) : tIfS tt ts tz En σ H :=
  h σ D H S.sb S.se _ fun D2 H2 f => by
    cases q with
    | true => exact h1 rfl D2 H2 f (S.fw f)
    | false => exact h2 rfl D2 H2 f (S.fw f)
theorem e_no (S : LB K c δ D H σ) (h : ET K c tt δ false) (k : ∀ D2 H2, Fw c D H D2 H2 → LB K c δ D2 H2 σ → En.nx σ H2) : tIfS tt ts tNext En σ H := e_when (tz := tNext) S h (fun z => by cases z) fun _ => k
theorem e_ret (S : LB K c δ D H σ) (h : ED K c te δ d) (k : ∀ v D2 H2, Fw c D H D2 H2 → Dq K D2 v d → En.rt v H2) : tRet te En σ H := h σ D H S.sb S.se _ k
theorem e_retL (S : LB K c δ D H σ) (hi : δ[i]? = some (.raw (.ref p))) (k : En.rt (.ref p) H) : tRet (tVar i) En σ H := ⟨.ref p, S.se.raw hi, k⟩
theorem l_if {q : Bool} {tw : TS} (S : LB K c δ D H σ) (h : ET K c tt δ q) (h1 : q = true → ∀ D2 H2, Fw c D H D2 H2 → LB K c δ D2 H2 σ → ts { En with nx := tz En } σ H2) (h2 : q = false → ∀ D2 H2, Fw c D H D2 H2 → LB K c δ D2 H2 σ → tw { En with nx := tz En } σ H2) : tSeq (tIfS tt ts tw) tz En σ H :=
  h σ D H S.sb S.se _ fun D2 H2 f => by
    cases q with
    | true => exact h1 rfl D2 H2 f (S.fw f)
    | false => exact h2 rfl D2 H2 f (S.fw f)
theorem l_new (S : LB K c δ D H σ) (k : ∀ p σ2 H2, Fw c D H D H2 → Fr c H p → c.bag ≠ some p → Acc K D H2 p [] → LB K c (δ.set i (.raw (.ref p))) D H2 σ2 → tz En σ2 H2) : tSeq (tAsg (tLst tNil) (gName i)) tz En σ H :=
  ⟨Nat.zero_le _, fun p hp => by
    have f := Fw.made (o := .lst []) S.sb hp
    exact k p _ _ f (.none hp) (S.sb.nbH hp) ⟨S.sb.free hp, [], upd_same, .nil⟩ ((S.fw f).raw)⟩
/-- a list that is made of data and changed later -/
theorem l_newL (S : LB K c δ D H σ) (h : EA K c tr δ ds) (hl : ds.length ≤ 100000) (k : ∀ p σ2 D2 H2, Fw c D H D2 H2 → Fr c H p → c.bag ≠ some p → Acc K D2 H2 p ds → LB K c (δ.set i (.raw (.ref p))) D2 H2 σ2 → tz En σ2 H2) : tSeq (tAsg (tLst tr) (gName i)) tz En σ H :=
  h σ D H S.sb S.se _ fun vs D1 H1 f1 h1 => ⟨by rw [dqa_len h1]; exact sz_of hl, fun p hp => by
    have f := Fw.made (o := .lst vs) f1.sb hp
    have nb := f1.sb.nbH hp
    exact k p _ _ _ (f1.trans f) (Fr.back f1 (.none hp) nb) nb ⟨f1.sb.free hp, vs, upd_same, h1⟩ (((S.fw f1).fw f).raw)⟩
theorem e_app (S : LB K c δ D H σ) (hi : δ[i]? = some (.raw (.ref p))) (A : Acc K D H p ds) (nb : c.bag ≠ some p) (h : ED K c te δ d) (hl : ds.length < 50000) (k : ∀ D2 H2, Ch c p D H D2 H2 → Acc K D2 H2 p (ds ++ [d]) → LB K c δ D2 H2 σ → En.nx σ H2) :
    tDrop (tBM K "list" rAppend (tVar i) (tCons te tNil)) En σ H := by
  obtain ⟨nD, xs, hp, hd⟩ := A
  refine ⟨.ref p, S.se.raw hi, Or.inl ⟨rfl, xs, sq_of hp⟩, h σ D H S.sb S.se _ fun v D2 H2 f dv => ⟨p, xs, v, rfl, rfl, f.keep hp trivial nb, sz_lt (by rw [dqa_len hd]; omega), ?_⟩⟩
  have np := f.off hp nD trivial
  have ch := Ch.of (o := .lst (xs ++ [v])) f np (f.keep hp trivial nb) trivial nb
  exact k D2 _ ch ⟨np, _, upd_same, dqa_append (dqa_ex f.dx _ _ hd) (.cons dv .nil)⟩ (S.ch ch)
theorem l_app (S : LB K c δ D H σ) (hi : δ[i]? = some (.raw (.ref p))) (A : Acc K D H p ds) (nb : c.bag ≠ some p) (h : ED K c te δ d) (hl : ds.length < 50000) (k : ∀ D2 H2, Ch c p D H D2 H2 → Acc K D2 H2 p (ds ++ [d]) → LB K c δ D2 H2 σ → tz En σ H2) :
    tSeq (tDrop (tBM K "list" rAppend (tVar i) (tCons te tNil))) tz En σ H := e_app (En := { En with nx := tz En }) S hi A nb h hl k
/-! loops -/
def NX (K : PySem.W.Frag) (c : Md) (Pv : Nat → List Sl → Hp → Hp → Prop) (D' : Hp) (j : Nat) : L2.St → Hp → Prop := fun σ H => ∃ δ2 D2, LB K c δ2 D2 H σ ∧ Ex D' D2 ∧ Pv j δ2 D2 H
theorem e_for {wi : TI} {g : TG} (S : LB K c δ D H σ) (hi : EI K c wi δ ds) (Pv : Nat → List Sl → Hp → Hp → Prop) (h0 : ∀ D1 H1, Fw c D H D1 H1 → Pv 0 δ D1 H1)
    (ht : ∀ i d δ' D' H' σ' v D2 H2, ds[i]? = some d → LB K c δ' D' H' σ' → Ex D D' → Pv i δ' D' H' → Fw c D' H' D2 H2 → Dq K D2 v d → g v σ' H2 fun σ2 H3 => ts { En with nx := NX K c Pv D' (i + 1), ct := NX K c Pv D' (i + 1), bk := En.nx } σ2 H3)
    (hd : ∀ δ' D' H' σ', LB K c δ' D' H' σ' → Ex D D' → Pv ds.length δ' D' H' → En.nx σ' H') : tFor wi g ts En σ H :=
  hi σ D H S.sb S.se _ fun J D1 H1 f1 wk => by
    refine ⟨fun i m σ' H' => m + i = ds.length ∧ ∃ δ' D', LB K c δ' D' H' σ' ∧ Ex D1 D' ∧ Pv i δ' D' H', ⟨ds.length, rfl, δ, D1, S.fw f1, Ex.refl _, h0 D1 H1 f1⟩, fun i m σ' H' hW => ?_⟩
    obtain ⟨em, δ', D', L, ex, pv⟩ := hW
    by_cases lt : i < ds.length
    · refine .inr ⟨wk.go i H' lt (ex.trans L.sb.ex), NX K c Pv D' (i + 1), fun σ2 H2 h2 => ?_, fun v H2 hy => ?_⟩
      · obtain ⟨δ2, D2, L2', e2, p2⟩ := h2
        exact ⟨m - 1, by omega, by omega, δ2, D2, L2', ex.trans e2, p2⟩
      · obtain ⟨D2, fy, dy⟩ := wk.yld i ds[i] D' H' v H2 (List.getElem?_eq_getElem lt) ex L.sb hy
        exact ht i ds[i] δ' D' H' σ' v D2 H2 (List.getElem?_eq_getElem lt) L (f1.dx.trans ex) pv fy dy
    · have ei : i = ds.length := by omega
      subst ei
      exact .inl ⟨wk.stop H' (ex.trans L.sb.ex), hd δ' D' H' σ' L (f1.dx.trans ex) pv⟩
theorem l_for {wi : TI} {g : TG} (S : LB K c δ D H σ) (hi : EI K c wi δ ds) (Pv : Nat → List Sl → Hp → Hp → Prop) (h0 : ∀ D1 H1, Fw c D H D1 H1 → Pv 0 δ D1 H1)
    (ht : ∀ i d δ' D' H' σ' v D2 H2, ds[i]? = some d → LB K c δ' D' H' σ' → Ex D D' → Pv i δ' D' H' → Fw c D' H' D2 H2 → Dq K D2 v d → g v σ' H2 fun σ2 H3 => ts { En with nx := NX K c Pv D' (i + 1), ct := NX K c Pv D' (i + 1), bk := tz En } σ2 H3)
    (hd : ∀ δ' D' H' σ', LB K c δ' D' H' σ' → Ex D D' → Pv ds.length δ' D' H' → tz En σ' H') : tSeq (tFor wi g ts) tz En σ H := e_for (En := { En with nx := tz En }) S hi Pv h0 ht hd
theorem EG.go {g : TG} {us : List Nat} {v : V} {Q : L2.St → Hp → Prop} (h : EG K c g d δ δ2 us) (S : LB K c δ D H σ) (dv : Dq K D v d) (k : ∀ σ2, LB K c δ2 D H σ2 → Q σ2 H) : g v σ H Q :=
  h v σ D H S.sb S.se dv Q fun σ2 e _ _ => k σ2 ⟨S.sb, e⟩
/-- a name for the item; what holds stays where things are made -/
theorem e_forN {wi : TI} {j : Nat} (S : LB K c δ D H σ) (hi : EI K c wi δ ds) (Pv : Nat → List Sl → Hp → Hp → Prop) (hf : ∀ i δ' D' H' D2 H2, Pv i δ' D' H' → Fw c D' H' D2 H2 → Pv i δ' D2 H2) (h0 : Pv 0 δ D H)
    (ht : ∀ i d δ' Db D' H' σ', ds[i]? = some d → LB K c (δ'.set j (.dat d)) D' H' σ' → Ex D D' → Ex Db D' → Pv i δ' D' H' → ts { En with nx := NX K c Pv Db (i + 1), ct := NX K c Pv Db (i + 1), bk := En.nx } σ' H')
    (hd : ∀ δ' D' H' σ', LB K c δ' D' H' σ' → Ex D D' → Pv ds.length δ' D' H' → En.nx σ' H') : tFor wi (gName j) ts En σ H :=
  e_for S hi Pv (fun D1 H1 f => hf 0 δ D H D1 H1 h0 f) (fun i d δ' D' H' σ' v D2 H2 hi L ex pv f dv => ht i d δ' D' D2 H2 (σ'.set j (some v)) hi ((L.fw f).dat dv) (ex.trans f.dx) f.dx (hf _ _ _ _ _ _ pv f)) hd
theorem l_forN {wi : TI} {j : Nat} (S : LB K c δ D H σ) (hi : EI K c wi δ ds) (Pv : Nat → List Sl → Hp → Hp → Prop) (hf : ∀ i δ' D' H' D2 H2, Pv i δ' D' H' → Fw c D' H' D2 H2 → Pv i δ' D2 H2) (h0 : Pv 0 δ D H)
    (ht : ∀ i d δ' Db D' H' σ', ds[i]? = some d → LB K c (δ'.set j (.dat d)) D' H' σ' → Ex D D' → Ex Db D' → Pv i δ' D' H' → ts { En with nx := NX K c Pv Db (i + 1), ct := NX K c Pv Db (i + 1), bk := tz En } σ' H')
    (hd : ∀ δ' D' H' σ', LB K c δ' D' H' σ' → Ex D D' → Pv ds.length δ' D' H' → tz En σ' H') : tSeq (tFor wi (gName j) ts) tz En σ H := e_forN (En := { En with nx := tz En }) S hi Pv hf h0 ht hd
/-- any target -/
theorem e_forG {wi : TI} {g : TG} {us : List Nat} (S : LB K c δ D H σ) (hi : EI K c wi δ ds) (Pv : Nat → List Sl → Hp → Hp → Prop) (hf : ∀ i δ' D' H' D2 H2, Pv i δ' D' H' → Fw c D' H' D2 H2 → Pv i δ' D2 H2) (h0 : Pv 0 δ D H)
    (ht : ∀ i d δ' Db D' H' σ', ds[i]? = some d → LB K c δ' D' H' σ' → Ex D D' → Ex Db D' → Pv i δ' D' H' → ∃ δ2, EG K c g d δ' δ2 us ∧ ∀ σ2, LB K c δ2 D' H' σ2 → ts { En with nx := NX K c Pv Db (i + 1), ct := NX K c Pv Db (i + 1), bk := En.nx } σ2 H')
    (hd : ∀ δ' D' H' σ', LB K c δ' D' H' σ' → Ex D D' → Pv ds.length δ' D' H' → En.nx σ' H') : tFor wi g ts En σ H :=
  e_for S hi Pv (fun D1 H1 f => hf 0 δ D H D1 H1 h0 f) (fun i d δ' D' H' σ' v D2 H2 hi L ex pv f dv => by
    obtain ⟨δ2, hg, k⟩ := ht i d δ' D' D2 H2 σ' hi (L.fw f) (ex.trans f.dx) f.dx (hf _ _ _ _ _ _ pv f)
    exact hg.go (L.fw f) dv k) hd
theorem l_forG {wi : TI} {g : TG} {us : List Nat} (S : LB K c δ D H σ) (hi : EI K c wi δ ds) (Pv : Nat → List Sl → Hp → Hp → Prop) (hf : ∀ i δ' D' H' D2 H2, Pv i δ' D' H' → Fw c D' H' D2 H2 → Pv i δ' D2 H2) (h0 : Pv 0 δ D H)
    (ht : ∀ i d δ' Db D' H' σ', ds[i]? = some d → LB K c δ' D' H' σ' → Ex D D' → Ex Db D' → Pv i δ' D' H' → ∃ δ2, EG K c g d δ' δ2 us ∧ ∀ σ2, LB K c δ2 D' H' σ2 → ts { En with nx := NX K c Pv Db (i + 1), ct := NX K c Pv Db (i + 1), bk := tz En } σ2 H')
    (hd : ∀ δ' D' H' σ', LB K c δ' D' H' σ' → Ex D D' → Pv ds.length δ' D' H' → tz En σ' H') : tSeq (tFor wi g ts) tz En σ H := e_forG (En := { En with nx := tz En }) S hi Pv hf h0 ht hd
def NW (K : PySem.W.Frag) (c : Md) (Pv : Nat → List Sl → Hp → Hp → Prop) (Db : Hp) (m : Nat) : L2.St → Hp → Prop := fun σ H => ∃ m', m' < m ∧ ∃ δ2 D2, LB K c δ2 D2 H σ ∧ Ex Db D2 ∧ Pv m' δ2 D2 H
theorem e_while (S : LB K c δ D H σ) (Pv : Nat → List Sl → Hp → Hp → Prop) (hf : ∀ i δ' D' H' D2 H2, Pv i δ' D' H' → Fw c D' H' D2 H2 → Pv i δ' D2 H2) (m0 : Nat) (h0 : Pv m0 δ D H)
    (ht : ∀ m δ' D' H' σ', LB K c δ' D' H' σ' → Ex D D' → Pv m δ' D' H' → ∃ q, ET K c tt δ' q ∧ (q = true → ∀ Db D2 H2, LB K c δ' D2 H2 σ' → Ex D D2 → Ex Db D2 → Pv m δ' D2 H2 → ts { En with nx := NW K c Pv Db m, ct := NW K c Pv Db m, bk := En.nx } σ' H2) ∧ (q = false → ∀ D2 H2, LB K c δ' D2 H2 σ' → Ex D D2 → Pv m δ' D2 H2 → En.nx σ' H2)) : tWhile tt ts En σ H := by
  refine ⟨fun m σ' H' => ∃ δ' D', LB K c δ' D' H' σ' ∧ Ex D D' ∧ Pv m δ' D' H', ⟨m0, δ, D, S, Ex.refl D, h0⟩, fun m σ' H' hW => ?_⟩
  obtain ⟨δ', D', L, ex, pv⟩ := hW
  obtain ⟨q, hq, h1, h2⟩ := ht m δ' D' H' σ' L ex pv
  refine hq σ' D' H' L.sb L.se _ fun D2 H2 f => ?_
  cases q with
  | true =>
    rw [if_pos rfl]
    refine ⟨NW K c Pv D' m, fun σ2 H3 ⟨m', lt, δ2, D3, L3, e3, p3⟩ => ⟨m', lt, δ2, D3, L3, ex.trans e3, p3⟩, h1 rfl D' D2 H2 (L.fw f) (ex.trans f.dx) f.dx (hf _ _ _ _ _ _ pv f)⟩
  | false => exact h2 rfl D2 H2 (L.fw f) (ex.trans f.dx) (hf _ _ _ _ _ _ pv f)
theorem l_while (S : LB K c δ D H σ) (Pv : Nat → List Sl → Hp → Hp → Prop) (hf : ∀ i δ' D' H' D2 H2, Pv i δ' D' H' → Fw c D' H' D2 H2 → Pv i δ' D2 H2) (m0 : Nat) (h0 : Pv m0 δ D H)
    (ht : ∀ m δ' D' H' σ', LB K c δ' D' H' σ' → Ex D D' → Pv m δ' D' H' → ∃ q, ET K c tt δ' q ∧ (q = true → ∀ Db D2 H2, LB K c δ' D2 H2 σ' → Ex D D2 → Ex Db D2 → Pv m δ' D2 H2 → ts { En with nx := NW K c Pv Db m, ct := NW K c Pv Db m, bk := tz En } σ' H2) ∧ (q = false → ∀ D2 H2, LB K c δ' D2 H2 σ' → Ex D D2 → Pv m δ' D2 H2 → tz En σ' H2)) : tSeq (tWhile tt ts) tz En σ H := e_while (En := { En with nx := tz En }) S Pv hf m0 h0 ht
end
/-! earlier promises as data -/
section
variable {K : PySem.W.Frag} {c : Md} {D H H2 : Hp} {p : Addr}
theorem Sb.exBag (s : Sb c D H) (e : Ex H H2) : ∀ p, c.bag = some p → Bag H2 p := fun p h => (s.bag p h).1.ex e
theorem sd_stretches {n g h e : Nat} (hn : n ≤ 24) (hg : 4 ≤ g) (hg2 : g ≤ 16) (hh : h ≤ 8) : SpD K c (spStretches K) [di n, wD g h e] (.list (strM n g h e)) := fun vs D H s hv Q q E => by
  cases hv with
  | cons h1 hv =>
  cases hv with
  | cons h2 hv =>
  cases hv
  refine ⟨n, g, h, e, _, by rw [dq_int h1], dp_ex s.ex _ _ (dq_dp _ _ h2), hn, hg, hg2, hh, fun p xs H2 hp ex hpx hd => ?_⟩
  refine q _ _ _ (Fw.liftE s ex) (lift_dl s (.of ex) (s.exBag ex) (frT_new hp) hpx ?_ hd)
  unfold strM
  exact noLs_map (noL_str n g h e _) _
theorem sd_pricked {n g h e t b : Nat} (hg : 2 ≤ g) (hg2 : g ≤ 1000) (hh : h ≤ 1000) (hn : n ≤ 31) (hb : 0 < b) (hb2 : b < 2 ^ 200) : SpD K c (spPricked K) [di n, wD g h e, td (t, b)] (.list ((pricksM n g h e t b).map di)) := fun vs D H s hv Q q E => by
  cases hv with
  | cons h1 hv =>
  cases hv with
  | cons h2 hv =>
  cases hv with
  | cons h3 hv =>
  cases hv
  refine ⟨n, g, h, e, t, b, _, _, by rw [dq_int h1], dp_ex s.ex _ _ (dq_dp _ _ h2), dp_ex s.ex _ _ (dq_dp _ _ h3), hg, hg2, hh, hn, hb, hb2, fun p H2 hp ex hpx => ?_⟩
  exact q _ _ _ (Fw.liftE s ex) (lift_dl s (.of ex) (s.exBag ex) (frT_new hp) hpx (noLs_dis _) (dis_vis _))
theorem sd_lpr {n g h e t b : Nat} (hg : 2 ≤ g) (hg2 : g ≤ 1000) (hh : h ≤ 1000) (he : e ≤ 1) (hn : n ≤ 31) (hb : 0 < b) (hb2 : b < 2 ^ 200) (ht : t < 2 ^ 200) : SpD K c (spLPr K) [di n, wD g h e, td (t, b)] (.list ((pricksM n g h e t b).map di)) := fun vs D H s hv Q q E => by
  cases hv with
  | cons h1 hv =>
  cases hv with
  | cons h2 hv =>
  cases hv with
  | cons h3 hv =>
  cases hv
  refine ⟨n, g, h, e, t, b, _, _, by rw [dq_int h1], dp_ex s.ex _ _ (dq_dp _ _ h2), dp_ex s.ex _ _ (dq_dp _ _ h3), hg, hg2, hh, he, hn, hb, hb2, ht, fun p H2 hp ex hpx => ?_⟩
  exact q _ _ _ (Fw.liftE s ex) (lift_dl s (.of ex) (s.exBag ex) (frT_new hp) hpx (noLs_dis _) (dis_vis _))
theorem sd_low2 {a b : Nat} (hb : 0 < b) (hb2 : b < 2 ^ 200) : SpD K c spLow2 [di a, di b] (td (a / Nat.gcd a b, b / Nat.gcd a b)) := fun vs D H s hv Q q E => by
  cases hv with
  | cons h1 hv =>
  cases hv with
  | cons h2 hv =>
  cases hv
  refine ⟨a, b, by rw [dq_int h1, dq_int h2], hb, hb2, fun t H2 ex ht => ?_⟩
  exact q _ _ _ (Fw.liftE s ex) (lift_dq (.of ex) (s.exBag ex) (noL_td _) (td_of (p := (a / Nat.gcd a b, b / Nat.gcd a b)) (st_of ht)))
theorem xt_exn {t : Addr} (ht : c.tab = some t) (e : ExtN H H2) : Xt c H H2 := fun a o h n _ => e a o h (n.resolve_left (by rw [ht]; intro z; cases z))
theorem sd_lstr {t : Addr} (ht : c.tab = some t) {n g h e : Nat} (hn : n ≤ 24) (hg : 4 ≤ g) (hg2 : g ≤ 16) (hh : h ≤ 8) (he : e ≤ 1) : SpD K c (spLStr K t) [di n, wD g h e] (.list (strM n g h e)) := fun vs D H s hv Q q E => by
  cases hv with
  | cons h1 hv =>
  cases hv with
  | cons h2 hv =>
  cases hv
  refine ⟨n, g, h, e, _, by rw [dq_int h1], dp_ex s.ex _ _ (dq_dp _ _ h2), hn, hg, hg2, hh, he, s.tab _ ht, fun p xs H2 hp ex tb hpx hd => ?_⟩
  have bg : ∀ p, c.bag = some p → Bag H2 p := fun p h => by
    obtain ⟨⟨x, y, hb⟩, _⟩ := s.bag p h
    exact ⟨x, y, ex _ _ hb (fun _ z => by cases z)⟩
  refine q _ _ _ (Fw.lift s (xt_exn ht ex) (fun t' z => by rw [ht] at z; cases z; exact tb) bg) (lift_dl s (xt_exn ht ex) bg hp hpx ?_ hd)
  unfold strM
  exact noLs_map (noL_str n g h e _) _
theorem sd_lbrk {t : Addr} (ht : c.tab = some t) {n g h e : Nat} (hn : n ≤ 24) (hg : 4 ≤ g) (hg2 : g ≤ 16) (hh : h ≤ 8) : SpD K c (spBreaks K t) [di n, wD g h e] (.list ((brkM n g h).map td)) := fun vs D H s hv Q q E => by
  cases hv with
  | cons h1 hv =>
  cases hv with
  | cons h2 hv =>
  cases hv
  refine ⟨n, g, h, e, _, by rw [dq_int h1], dp_ex s.ex _ _ (dq_dp _ _ h2), hn, hg, hg2, hh, s.tab _ ht, fun p xs H2 hp ex tb hpx hd => ?_⟩
  have bg : ∀ p, c.bag = some p → Bag H2 p := fun p h => by
    obtain ⟨⟨x, y, hb⟩, _⟩ := s.bag p h
    exact ⟨x, y, ex _ _ hb (fun _ z => by cases z)⟩
  exact q _ _ _ (Fw.lift s (xt_exn ht ex) (fun t' z => by rw [ht] at z; cases z; exact tb) bg) (lift_dl s (xt_exn ht ex) bg hp hpx (noLs_map noL_td _) hd)
/-! draws -/
theorem tab_bxD {H H' : Hp} {p T : Addr} {q : Str} (t : TabS H T q) (b0 : Bag H p) (b : Bx p H H') : TabS H' T q := by
  obtain ⟨ps, h1, h2, h3⟩ := t
  obtain ⟨c, z, hz⟩ := b0
  have nT : T ≠ p := by
    rintro rfl
    rw [hz] at h1
    cases h1
  refine ⟨ps, b _ _ nT h1, h2, fun pos cv hc => ?_⟩
  obtain ⟨c', e1, e2⟩ := h3 pos cv hc
  refine ⟨c', e1, b _ _ ?_ e2⟩
  rintro rfl
  rw [hz] at e2
  have e2 := Option.some.inj e2
  unfold CodeO at e2
  cases e2
theorem Fw.drawn (hb : c.bag = some p) (s : Sb c D H) (bx : Bx p H H2) (b : Bag H2 p) : Fw c D H (liftD c D H H2) H2 ∧ (∀ (d : PyData) (v : V), noL d = true → Dp K H2 v d → Dq K (liftD c D H H2) v d) := by
  have hx : Xt c H H2 := fun a o h _ nb => bx a o (fun z => nb (z ▸ hb)) h
  have bg : ∀ q, c.bag = some q → Bag H2 q := fun q h => by rw [hb] at h; cases h; exact b
  exact ⟨Fw.lift s hx (fun t h => tab_bxD (s.tab t h) (s.bag p hb).1 bx) bg, fun d v z h => lift_dq hx bg z h⟩
theorem sn_take (hb : c.bag = some p) {n : Nat} (h0 : 0 < n) (h1 : n < 1000000000) : SpN K c spTake [.raw (.ref p), .dat (di n)] (fun d => ∃ r, r < n ∧ d = di r) := fun vs D H s hv Q q E => by
  cases hv with
  | cons a1 hv =>
  cases hv with
  | cons a2 hv =>
  cases hv
  cases a1
  refine ⟨p, n, by rw [dq_int a2], (s.bag p hb).1, h0, h1, ?_⟩
  rintro v H2 bx b ⟨r, rfl, hr⟩
  exact q _ _ _ _ (Fw.drawn (K := K) hb s bx b).1 ⟨r, hr, rfl⟩ (.int _)
theorem sn_wind (hb : c.bag = some p) : SpN K c (spWind K) [.raw (.ref p)] (fun d => ∃ g h e, 4 ≤ g ∧ g ≤ 16 ∧ h ≤ 8 ∧ e ≤ 1 ∧ d = wD g h e) := fun vs D H s hv Q q E => by
  cases hv with
  | cons a1 hv =>
  cases hv
  cases a1
  refine ⟨p, rfl, (s.bag p hb).1, ?_⟩
  rintro v H2 bx b ⟨g, h, e, hg, hg2, hh, he, hw⟩
  obtain ⟨f, l⟩ := Fw.drawn (K := K) hb s bx b
  exact q _ _ _ _ f ⟨g, h, e, hg, hg2, hh, he, rfl⟩ (l _ _ (wD_noL g h e) hw)
theorem sn_angle (hb : c.bag = some p) : SpN K c (spAngle K) [.raw (.ref p)] (fun d => ∃ t b, t < b ∧ b ≤ 1000 ∧ Nat.gcd t b = 1 ∧ d = td (t, b)) := fun vs D H s hv Q q E => by
  cases hv with
  | cons a1 hv =>
  cases hv
  cases a1
  refine ⟨p, rfl, (s.bag p hb).1, ?_⟩
  rintro v H2 bx b ⟨t, b', h1, h2, h3, hw⟩
  obtain ⟨f, l⟩ := Fw.drawn (K := K) hb s bx b
  exact q _ _ _ _ f ⟨t, b', h1, h2, h3, rfl⟩ (l _ _ (noL_td _) hw)
theorem sn_of (hb : c.bag = some p) {ds : List PyData} (h0 : ds ≠ []) (h1 : ds.length ≤ 1000) : SpN K c (spOf K) [.raw (.ref p), .dat (.list ds)] (fun d => d ∈ ds) := fun vs D H s hv Q q E => by
  cases hv with
  | cons a1 hv =>
  cases hv with
  | cons a2 hv =>
  cases hv
  cases a1
  obtain ⟨l, xs, rfl, hl, hd⟩ := dq_lst a2
  have ne : l ≠ p := fun z => s.nbD hl (z ▸ hb)
  refine ⟨p, l, xs, rfl, (s.bag p hb).1, s.ex _ _ hl, ne, ?_, by rw [dqa_len hd]; exact h1, ?_⟩
  · rintro rfl
    cases hd
    exact h0 rfl
  · intro v H2 bx b hv
    obtain ⟨f, _⟩ := Fw.drawn (K := K) hb s bx b
    obtain ⟨i, hi⟩ := List.getElem?_of_mem hv
    obtain ⟨d, h1, h2⟩ := dqa_at hd hi
    exact q _ d _ _ f (List.mem_of_getElem? h1) (dq_ex f.dx _ _ h2)
end
end Nr
namespace Nr
open PySem PySem.Spec PyProof.Rows L2 Evl
open LamX (TabS TabB CodeO ExtN)
/-! truth -/
def tTr (K : PySem.W.Frag) (te : TE) : TT := fun σ H Q => te σ H fun x H' => ∃ k, TruV K x H' k ∧ Q k H'
theorem pt_tr {X : Cx} {a : Expr} {ta : TE} (ha : PE X a ta) (he : ∀ whole, isTrue a X.env whole = (do let v ← whole; standAt a.pos; holding [v] (truthy v))) : PT X a (tTr X.K ta) := pt_truth ha he
/-! a list that is filled, read as data -/
def minus (D : Hp) (p : Addr) : Hp := fun a => if a = p then none else D a
section
variable {K : PySem.W.Frag} {c : Md} {δ δ2 ss : List Sl} {te ta tb tc : TE} {tt tu : TT} {tr : TA} {a b d z : PyData} {ds es : List PyData} {r r' : R2} {D H D2 H2 D0 H0 : Hp} {σ : L2.St} {En : Ends} {ts tz : TS} {i j : Nat} {p : Addr} {C : PyData → Prop}
theorem et_trD (h : ED K c te δ d) (ok : truOk d) : ET K c (tTr K te) δ (truD d) := et_tru h ok
theorem ed_notT (h : ED K c te δ d) (ok : truOk d) : ED K c (tNotT K te) δ (.bool (!truD d)) := fun σ D H s e Q q =>
  h σ D H s e _ fun v D1 H1 f1 d1 => ⟨_, tru_ofD f1.sb.ex d1 ok, q _ _ _ f1 (.bl _)⟩
theorem b_any {α : Type} {L : List α} {f : α → Bool} : RCD K c (rAny K) [.list (L.map fun x => .bool (f x))] (.bool (L.any f)) := fun vs D H s h Q q => by
  cases h with
  | cons h1 h2 =>
  cases h2
  obtain ⟨p, xs, rfl, hp, ha⟩ := dq_lst h1
  have e : xs = (L.map f).map V.bl := by
    clear h1 hp q
    induction L generalizing xs with
    | nil => cases ha; rfl
    | cons x L ih =>
      cases ha with
      | cons a b => rw [dq_bool a, ih _ b]; rfl
  refine ⟨p, L.map f, rfl, sq_of (e ▸ s.ex _ _ hp), ?_⟩
  rw [List.any_map]
  exact q _ D H (Fw.refl s) (.bl _)
theorem b_all {α : Type} {L : List α} {f : α → Bool} : RCD K c (rAll K) [.list (L.map fun x => .bool (f x))] (.bool (L.all f)) := fun vs D H s h Q q => by
  cases h with
  | cons h1 h2 =>
  cases h2
  obtain ⟨p, xs, rfl, hp, ha⟩ := dq_lst h1
  have e : xs = (L.map f).map V.bl := by
    clear h1 hp q
    induction L generalizing xs with
    | nil => cases ha; rfl
    | cons x L ih =>
      cases ha with
      | cons a b => rw [dq_bool a, ih _ b]; rfl
  refine ⟨p, L.map f, rfl, sq_of (e ▸ s.ex _ _ hp), ?_⟩
  rw [List.all_map]
  exact q _ D H (Fw.refl s) (.bl _)
theorem ed_neg {k : Int} (h : ED K c te δ (.int k)) : ED K c (tUn (rU fun i => .int (-i)) te) δ (.int (-k)) := fun σ D H s e Q q =>
  h σ D H s e _ fun v D1 H1 f1 d1 => ⟨k, dq_int d1, q _ _ _ f1 (.int _)⟩
theorem r_lastL : R2D K c (rIxL K) (.list (ds ++ [d])) (.int (-1)) d := fun x y D H s hx hy Q q => by
  obtain ⟨p, xs, rfl, hp, ha⟩ := dq_lst hx
  have hl := dqa_len ha
  rw [List.length_append, List.length_singleton] at hl
  obtain ⟨v, h1, h2⟩ := dqa_get (i := ds.length) (d := d) ha (by simp)
  have ex : xs = xs.dropLast ++ [v] := by
    have ne : xs ≠ [] := by intro z; subst z; simp at hl
    have e2 : xs.getLast ne = v := by
      have := List.getLast?_eq_getElem? (l := xs)
      rw [show xs.length - 1 = ds.length by omega, h1, List.getLast?_eq_some_getLast ne] at this
      exact Option.some.inj this
    rw [← e2, List.dropLast_concat_getLast]
  refine ⟨p, xs, _, v, rfl, dq_int hy, sq_of (s.ex _ _ hp), ?_, q v D H (Fw.refl s) h2⟩
  rw [ex]
  exact atI_last _ _
theorem Acc.lb (S : LB K c δ D H σ) (hi : δ[i]? = some (.raw (.ref p))) (A : Acc K D H p ds) (nb : c.bag ≠ some p) :
    ∃ xs, A.2.choose = xs ∧ LB K c (δ.set i (.dat (.list ds))) (upd D p (.lst A.2.choose)) H σ := by
  obtain ⟨hp, hd⟩ := A.2.choose_spec
  refine ⟨_, rfl, S.sb.give A.1 hp nb, ?_⟩
  have e := S.se.ex (Ex.new (o := .lst A.2.choose) A.1)
  have k := SE.set (K := K) (x := some (.ref p)) (s := .dat (.list ds)) (show SD K (upd D p (.lst A.2.choose)) _ _ from .lst upd_same (dqa_ex (Ex.new A.1) _ _ hd)) i e
  have es : σ.set i (some (V.ref p)) = σ := by
    have := S.se.raw hi
    refine List.ext_getElem? fun j => ?_
    by_cases z : i = j
    · subst z
      rw [List.getElem?_set_self (List.getElem?_eq_some_iff.mp this).1, this]
    · rw [List.getElem?_set_ne z]
  rw [es] at k
  exact k
theorem back_fw {xs : List V} (nD : D p = none) (hp : H p = some (.lst xs)) (f : Fw c (upd D p (.lst xs)) H D2 H2) : Fw c D H (minus D2 p) H2 := by
  have m : ∀ {a o}, minus D2 p a = some o → a ≠ p ∧ D2 a = some o := fun {a o} h => by
    unfold minus at h
    split at h
    · cases h
    · exact ⟨by assumption, h⟩
  have mk : ∀ {a}, a ≠ p → minus D2 p a = D2 a := fun {a} h => by unfold minus; rw [if_neg h]
  refine ⟨⟨fun a o h => f.sb.ex _ _ (m h).2, fun a o h => f.sb.dat _ _ (m h).2, f.sb.tab, fun q h => ⟨(f.sb.bag q h).1, ?_⟩⟩, fun a o h => ?_, f.hx, fun a o h n mu => ?_⟩
  · by_cases e : q = p
    · subst e; unfold minus; rw [if_pos rfl]
    · rw [mk e]; exact (f.sb.bag q h).2
  · have e : a ≠ p := fun z => by subst z; rw [nD] at h; cases h
    rw [mk e]
    exact f.dx _ _ (by rw [upd_ne e]; exact h)
  · by_cases e : a = p
    · subst e; unfold minus; rw [if_pos rfl]
    · rw [mk e]
      exact f.new a o h (by rw [upd_ne e]; exact n) mu
theorem minus_t {xs : List V} (hp : D2 p = some (.lst xs)) (a : Addr) (ys : List V) (h : SqT K D2 a ys) : SqT K (minus D2 p) a ys := by
  rcases h with h | h
  · have e : a ≠ p := by
      rintro rfl
      rcases h with h | ⟨u, h⟩ <;> rw [hp] at h <;> cases h
    have mk : minus D2 p a = D2 a := by unfold minus; rw [if_neg e]
    exact .inl (h.imp (fun h => by rw [mk]; exact h) (fun ⟨u, h⟩ => ⟨u, by rw [mk]; exact h⟩))
  · exact .inr h
theorem back_acc (A : Acc K D H p ds) (nb : c.bag ≠ some p) {xs : List V} (hx : H p = some (.lst xs)) (f : Fw c (upd D p (.lst xs)) H D2 H2) : Acc K (minus D2 p) H2 p ds := by
  have fw := back_fw A.1 hx f
  obtain ⟨n, ys, hp, hd⟩ := A
  exact ⟨by unfold minus; rw [if_pos rfl], ys, f.hx.get hp (fun _ z => by cases z) nb, dqa_ex fw.dx _ _ hd⟩
theorem acc_ed {Q : VK} (S : LB K c δ D H σ) (hi : δ[i]? = some (.raw (.ref p))) (A : Acc K D H p ds) (nb : c.bag ≠ some p) (h : ED K c te (δ.set i (.dat (.list ds))) d) (z : noL d = true)
    (k : ∀ v D2 H2, Fw c D H D2 H2 → Acc K D2 H2 p ds → Dq K D2 v d → Q v H2) : te σ H Q := by
  obtain ⟨_, _, L⟩ := Acc.lb S hi A nb
  have hp := A.2.choose_spec.1
  refine h σ _ H L.sb L.se _ fun v D2 H2 f dv => ?_
  refine k v _ H2 (back_fw A.1 hp f) (back_acc A nb hp f) (dp_dq (minus_t (f.dx _ _ upd_same)) d v z (dq_dp _ _ dv))
theorem acc_et {q : Bool} {Q : Bool → Hp → Prop} (S : LB K c δ D H σ) (hi : δ[i]? = some (.raw (.ref p))) (A : Acc K D H p ds) (nb : c.bag ≠ some p) (h : ET K c tt (δ.set i (.dat (.list ds))) q)
    (k : ∀ D2 H2, Fw c D H D2 H2 → Acc K D2 H2 p ds → Q q H2) : tt σ H Q := by
  obtain ⟨_, _, L⟩ := Acc.lb S hi A nb
  have hp := A.2.choose_spec.1
  refine h σ _ H L.sb L.se _ fun D2 H2 f => ?_
  exact k _ H2 (back_fw A.1 hp f) (back_acc A nb hp f)
/-- if .. of a list that is filled -/
theorem a_if {q : Bool} (S : LB K c δ D H σ) (hi : δ[i]? = some (.raw (.ref p))) (A : Acc K D H p ds) (nb : c.bag ≠ some p) (h : ET K c tt (δ.set i (.dat (.list ds))) q)
    (h1 : q = true → ∀ D2 H2, Fw c D H D2 H2 → Acc K D2 H2 p ds → LB K c δ D2 H2 σ → ts En σ H2) (h2 : q = false → ∀ D2 H2, Fw c D H D2 H2 → Acc K D2 H2 p ds → LB K c δ D2 H2 σ → tz En σ H2) : tIfS tt ts tz En σ H :=
  acc_et S hi A nb h fun D2 H2 f A2 => by
    cases q with
    | true => exact h1 rfl D2 H2 f A2 (S.fw f)
    | false => exact h2 rfl D2 H2 f A2 (S.fw f)
/-- xs[-1] = e -/
theorem a_last (S : LB K c δ D H σ) (hi : δ[i]? = some (.raw (.ref p))) (A : Acc K D H p (ds ++ [d])) (nb : c.bag ≠ some p) (h : ED K c te (δ.set i (.dat (.list (ds ++ [d])))) z) (hz : noL z = true)
    (k : ∀ D2 H2, Ch c p D H D2 H2 → Acc K D2 H2 p (ds ++ [z]) → LB K c δ D2 H2 σ → En.nx σ H2) : tAsg te (gSub (tVar i) (tUn (rU fun i => .int (-i)) (tC (.int 1))) rSetL) En σ H := by
  refine acc_ed S hi A nb h hz fun v D2 H2 f A2 dv => ?_
  obtain ⟨nD, xs, hp, hd⟩ := A2
  have hl := dqa_len hd
  rw [List.length_append, List.length_singleton] at hl
  refine ⟨.ref p, S.se.raw hi, ⟨1, rfl, p, xs, -1, ds.length, rfl, rfl, hp, ?_, ?_⟩⟩
  · unfold ixN
    rw [if_neg (by decide), if_pos (by omega)]
    congr 1
    omega
  · have ch := Ch.of (o := .lst (xs.set ds.length v)) f nD hp trivial nb
    refine k D2 _ ch ⟨nD, _, upd_same, ?_⟩ (S.ch ch)
    have e : xs.set ds.length v = xs.take ds.length ++ [v] := by
      rw [List.set_eq_take_append_cons_drop, if_pos (by omega), List.drop_of_length_le (by omega)]
    rw [e]
    have := dqa_take ds.length hd
    rw [List.take_left] at this
    exact dqa_append this (.cons dv .nil)
end
end Nr
namespace Nr
open PySem PySem.Spec PyProof.Rows L2 Evl
open LamX (TabS TabB CodeO ExtN)
section
variable (K : PySem.W.Frag) (c : Md)
def EAc (ta : TA) (δ : List Sl) (CS : List Sl → Prop) : Prop := ∀ σ D H, Sb c D H → SE K D σ δ → ∀ Q : List V → Hp → Prop, (∀ vs ss D2 H2, Fw c D H D2 H2 → CS ss → AS K D2 vs ss → Q vs H2) → ta σ H Q
end
section
variable {K : PySem.W.Frag} {c : Md} {δ δ2 ss : List Sl} {te ta tb tc : TE} {tt tu : TT} {tr : TA} {a b d z : PyData} {ds es : List PyData} {r r' : R2} {D H D2 H2 D0 H0 : Hp} {σ : L2.St} {En : Ends} {ts tz : TS} {i j : Nat} {p : Addr} {C : PyData → Prop} {CS : List Sl → Prop}
theorem eac_nil : EAc K c tNil δ (· = []) := fun σ D H s e Q q => q _ _ D H (Fw.refl s) rfl .nil
theorem eac_raw {u : V} (h : δ[i]? = some (.raw u)) (hr : EAc K c tr δ CS) : EAc K c (tCons (tVar i) tr) δ (fun ss => ∃ s2, CS s2 ∧ ss = .raw u :: s2) := fun σ D H s e Q q =>
  ⟨u, e.raw h, hr σ D H s e _ fun vs ss D2 H2 f2 hc h2 => q _ _ D2 H2 f2 ⟨ss, hc, rfl⟩ (.cons rfl h2)⟩
theorem eac_dat (h : ED K c ta δ d) (hr : EAc K c tr δ CS) : EAc K c (tCons ta tr) δ (fun ss => ∃ s2, CS s2 ∧ ss = .dat d :: s2) := fun σ D H s e Q q =>
  h σ D H s e _ fun v D1 H1 f1 h1 => hr σ D1 H1 f1.sb (e.ex f1.dx) _ fun vs ss D2 H2 f2 hc h2 => q _ _ D2 H2 (f1.trans f2) ⟨ss, hc, rfl⟩ (.cons (dq_ex f2.dx _ _ h1) h2)
theorem eac_en (h : EN K c ta δ C) (hr : EAc K c tr δ CS) : EAc K c (tCons ta tr) δ (fun ss => ∃ d s2, C d ∧ CS s2 ∧ ss = .dat d :: s2) := fun σ D H s e Q q =>
  h σ D H s e _ fun v d D1 H1 f1 hd h1 => hr σ D1 H1 f1.sb (e.ex f1.dx) _ fun vs ss D2 H2 f2 hc h2 => q _ _ D2 H2 (f1.trans f2) ⟨d, ss, hd, hc, rfl⟩ (.cons (dq_ex f2.dx _ _ h1) h2)
theorem en_callc {sp : Sp} {E : XK} (h : EAc K c tr δ CS) (hs : ∀ ss, CS ss → SpN K c sp ss C) : EN K c (tCall sp [] E tr) δ C := fun σ D H s e Q q =>
  h σ D H s e _ fun vs ss D1 H1 f1 hc h1 => hs ss hc (vs ++ []) D1 H1 f1.sb (by rw [List.append_nil]; exact h1) Q (fun v d D2 H2 f2 hd h2 => q v d D2 H2 (f1.trans f2) hd h2) E
/-! more operators -/
theorem r_eqB {x y : Bool} : R2D K c rEq (.bool x) (.bool y) (.bool (decide (x = y))) := fun u v D H s hx hy Q q => by
  rw [dq_bool hx, dq_bool hy]
  refine ⟨rfl, ?_⟩
  rw [show decide (V.bl x = V.bl y) = decide (x = y) by rw [decide_eq_decide, V.bl.injEq]]
  exact q _ D H (Fw.refl s) (.bl _)
theorem r_neB {x y : Bool} : R2D K c rNe (.bool x) (.bool y) (.bool (!decide (x = y))) := fun u v D H s hx hy Q q => by
  rw [dq_bool hx, dq_bool hy]
  refine ⟨rfl, ?_⟩
  rw [show decide (V.bl x = V.bl y) = decide (x = y) by rw [decide_eq_decide, V.bl.injEq]]
  exact q _ D H (Fw.refl s) (.bl _)
/-- sorted(set(t)), t a tuple of numbers -/
theorem ed_sortset {w : World} {l : List Nat} (h : ED K c te δ (.tuple (l.map di))) (hl : l.length < 64) : ED K c (tCB (rSortedSet w) (tCons (tCB (rSetT K w) (tCons te tNil)) tNil)) δ (.list ((sortU l).map di)) := fun σ D H s e Q q =>
  h σ D H s e _ fun v D1 H1 f1 d1 => by
    obtain ⟨t, rfl, ht⟩ := dq_ints d1
    refine ⟨t, l.map fun k : Nat => (k : Int), rfl, by rw [List.map_map]; exact ex_t f1.sb.ex ht, by rw [List.length_map]; omega, fun sa m hsa hm => ?_⟩
    rw [List.length_map] at hm
    refine ⟨sa, _, m, rfl, upd_same, by omega, fun ns lp up hmem _ hlp => ?_⟩
    have en : ns = (sortU l).map (fun k : Nat => (k : Int)) := by
      refine ints_of_rising up (sortU_up _) fun i => ?_
      rw [hmem i, decide_eq_true_eq, List.mem_map]
      constructor
      · rintro ⟨k, hk, rfl⟩
        exact ⟨k, (sortU_mem _ _).mpr hk, rfl⟩
      · rintro ⟨k, hk, rfl⟩
        exact ⟨k, (sortU_mem _ _).mp hk, rfl⟩
    have f2 := Fw.made (o := SetO w sa (fun j => decide (j ∈ l.map fun k : Nat => (k : Int))) m) f1.sb hsa
    have f3 := Fw.alloc (o := .lst (ns.map V.int)) f2.sb hlp trivial
    have e2 : ns.map V.int = (sortU l).map vi := by rw [en, List.map_map]; rfl
    refine q _ _ _ ((f1.trans f2).trans f3) (.lst upd_same ?_)
    rw [e2]
    exact vis_dqa _
/-- xs[1:] -/
theorem ed_rest (h : ED K c te δ (.list ds)) : ED K c (tSl (rSlL K) te (tPart (tC (.int 1))) tNoPart) δ (.list (ds.drop 1)) := fun σ D H s e Q q =>
  h σ D H s e _ fun v D1 H1 f1 d1 => by
    obtain ⟨l, xs, rfl, hl, hd⟩ := dq_lst d1
    refine ⟨1, rfl, l, xs, rfl, sq_of (f1.sb.ex _ _ hl), fun t ht => ?_⟩
    have f2 := Fw.alloc (o := .lst (cutV xs (some 1) none)) f1.sb ht trivial
    refine q _ _ _ (f1.trans f2) (.lst upd_same (dqa_ex f2.dx _ _ ?_))
    rw [cut_1]
    exact dqa_drop 1 hd
/-- a, b = e1, e2 -/
theorem l_par {C2 : PyData → Prop} (S : LB K c δ D H σ) (h1 : EN K c ta δ C) (h2 : EN K c tb δ C2) (k : ∀ d1 d2 σ2 D2 H2, C d1 → C2 d2 → Fw c D H D2 H2 → LB K c ((δ.set i (.dat d1)).set j (.dat d2)) D2 H2 σ2 → tz En σ2 H2) : tSeq (tPar i j (tCons ta (tCons tb tNil))) tz En σ H :=
  h1 σ D H S.sb S.se _ fun v1 d1 D1 H1 f1 c1 e1 => h2 σ D1 H1 f1.sb (S.se.ex f1.dx) _ fun v2 d2 D2 H2 f2 c2 e2 => ⟨v1, v2, rfl, k d1 d2 _ D2 H2 c1 c2 (f1.trans f2) (((S.fw (f1.trans f2)).dat (dq_ex f2.dx _ _ e1)).dat e2)⟩
theorem rg_nat (n : Nat) : rgV 0 (n : Int) = (List.range n).map vi := by
  unfold rgV
  rw [show ((n : Int) - 0).toNat = n by omega]
  refine List.map_congr_left fun i _ => ?_
  rw [Int.zero_add]
theorem ed_tupRg {n : Nat} (h : ED K c te δ (di n)) (hn : n ≤ 100000) : ED K c (tTupRg (tRg1 te)) δ (.tuple ((List.range n).map di)) := fun σ D H s e Q q =>
  h σ D H s e _ fun v D1 H1 f1 d1 => ⟨n, dq_int d1, .of_le (by omega) (by omega) (by omega) (by omega), fun t ht => by
    have f2 := Fw.alloc (o := .tup (rgV 0 (n : Int))) f1.sb ht trivial
    refine q _ _ _ (f1.trans f2) (.tup (st_of upd_same) ?_)
    rw [rg_nat]
    exact vis_dqa _⟩
/-! loops, pointwise -/
theorem e_forP {wi : TI} {g : TG} (S : LB K c δ D H σ) (hi : ∀ R : It → Hp → Prop, (∀ J D2 H2, Fw c D H D2 H2 → Wk K c J D2 ds → R J H2) → wi σ H R) (Pv : Nat → List Sl → Hp → Hp → Prop) (h0 : ∀ D1 H1, Fw c D H D1 H1 → Pv 0 δ D1 H1)
    (ht : ∀ i d δ' D' H' σ' v D2 H2, ds[i]? = some d → LB K c δ' D' H' σ' → Pv i δ' D' H' → Fw c D' H' D2 H2 → Dq K D2 v d → g v σ' H2 fun σ2 H3 => ts { En with nx := NX K c Pv D' (i + 1), ct := NX K c Pv D' (i + 1), bk := En.nx } σ2 H3)
    (hd : ∀ δ' D' H' σ', LB K c δ' D' H' σ' → Pv ds.length δ' D' H' → En.nx σ' H') : tFor wi g ts En σ H :=
  hi _ fun J D1 H1 f1 wk => by
    refine ⟨fun i m σ' H' => m + i = ds.length ∧ ∃ δ' D', LB K c δ' D' H' σ' ∧ Ex D1 D' ∧ Pv i δ' D' H', ⟨ds.length, rfl, δ, D1, S.fw f1, Ex.refl _, h0 D1 H1 f1⟩, fun i m σ' H' hW => ?_⟩
    obtain ⟨em, δ', D', L, ex, pv⟩ := hW
    by_cases lt : i < ds.length
    · refine .inr ⟨wk.go i H' lt (ex.trans L.sb.ex), NX K c Pv D' (i + 1), fun σ2 H2 h2 => ?_, fun v H2 hy => ?_⟩
      · obtain ⟨δ2, D2, L2', e2, p2⟩ := h2
        exact ⟨m - 1, by omega, by omega, δ2, D2, L2', ex.trans e2, p2⟩
      · obtain ⟨D2, fy, dy⟩ := wk.yld i ds[i] D' H' v H2 (List.getElem?_eq_getElem lt) ex L.sb hy
        exact ht i ds[i] δ' D' H' σ' v D2 H2 (List.getElem?_eq_getElem lt) L pv fy dy
    · have ei : i = ds.length := by omega
      subst ei
      exact .inl ⟨wk.stop H' (ex.trans L.sb.ex), hd δ' D' H' σ' L pv⟩
theorem sq_xt {xs : List V} {sa : Addr} (h : SqL K H sa xs) (x : Xt c H H2) (nb : c.bag ≠ some sa) : SqL K H2 sa xs := by
  rcases h with h | h
  · refine .inl ?_
    rcases h with h | ⟨o, h⟩
    · exact .inl (x.get h (fun _ z => by cases z) nb)
    · exact .inr ⟨o, x.get h (fun _ z => by cases z) nb⟩
  · exact .inr h
theorem wk_range (n : Nat) : Wk K c (Itr 0 n) D ((List.range n).map di) := by
  refine ⟨fun H' e' => ?_, fun i H' lt e' => ?_, fun i d D' H' x H2 hi e' s' y => ?_⟩
  · rw [List.length_map, List.length_range]
    exact Nat.le_refl _
  · rw [List.length_map, List.length_range] at lt
    exact lt
  · obtain ⟨rfl, rfl⟩ := y
    rw [List.getElem?_map] at hi
    obtain ⟨j, hj, rfl⟩ := Option.map_eq_some_iff.mp hi
    have : j = i := by
      obtain ⟨lt, e⟩ := List.getElem?_eq_some_iff.mp hj
      rw [List.getElem_range] at e
      exact e.symm
    subst this
    rw [Int.zero_add]
    exact ⟨D', Fw.refl s', .int _⟩
/-- where a turn of the law ends -/
def LX (K : PySem.W.Frag) (c : Md) (Pv : List Sl → Prop) (sa : Addr) (ns : List Int) : L2.St → Hp → Prop := fun σ H => ∃ δ2 D2, LB K c δ2 D2 H σ ∧ Pv δ2 ∧ SqL K H sa (ns.map V.int)
/-- the law's loop: for k in range(min(len(script), A) + B) -/
theorem law_for {ns : List Int} {sa : Addr} {A B : Nat} (S : LB K c δ D H σ) (hb : c.bag = none) (h0 : δ[0]? = some (.raw (.ref sa))) (hS : SqL K H sa (ns.map V.int)) (hAB : A ≤ 1000 ∧ B ≤ 1000)
    (Pv : List Sl → Prop) (hp : Pv δ) (ht : ∀ k δ' D' H' σ', k < A + B → Pv δ' → LB K c (δ'.set 1 (.dat (di k))) D' H' σ' → SqL K H' sa (ns.map V.int) → ts { En with nx := LX K c Pv sa ns, ct := LX K c Pv sa ns, bk := tz En } σ' H')
    (hd : ∀ δ' D' H' σ', Pv δ' → LB K c δ' D' H' σ' → tz En σ' H') :
    tSeq (tFor (iRng1 (tCons (tOp (rI0 fun i j => .int (i + j)) (tCB (fun xs H Q => ∃ i j, xs = [.int i, .int j] ∧ Q (.int (if j < i then j else i)) H) (tCons (tCB (fun xs H Q => ∃ p ys, xs = [.ref p] ∧ (SqL K H p ys ∨ SqT K H p ys) ∧ Q (.int ys.length) H) (tCons (tVar 0) tNil)) (tCons (tC (.int (A : Int))) tNil))) (tC (.int (B : Int)))) tNil)) (gName 1) ts) tz En σ H := by
  obtain ⟨m, em⟩ : ∃ m : Nat, (m : Int) = (if (A : Int) < ((ns.map V.int).length : Int) then (A : Int) else ((ns.map V.int).length : Int)) + (B : Int) := ⟨(if A < (ns.map V.int).length then A else (ns.map V.int).length) + B, by split <;> split <;> omega⟩
  have hm : m ≤ A + B := by
    split at em <;> omega
  refine ⟨.ref sa, S.se.raw h0, sa, _, rfl, .inl hS, _, _, rfl, _, _, rfl, rfl, m, by rw [em], by omega, by omega, ?_⟩
  rw [Int.toNat_natCast]
  refine for_range (lo := 0) (n := m) (fun i σ' H' => LX K c Pv sa ns σ' H') ⟨δ, D, S, hp, hS⟩ (fun i σ' H' hi ⟨δ', D', L, pv, sq⟩ => ?_) (fun σ' H' ⟨δ', D', L, pv, sq⟩ => hd δ' D' H' σ' pv L)
  have e0 : (0 : Int) + (i : Int) = (i : Int) := Int.zero_add _
  rw [e0]
  exact ht i δ' D' H' _ (by omega) pv (L.dat (.int _)) sq
/-- the script, beside the bag at p -/
def Scr (K : PySem.W.Frag) (H : Hp) (sa p : Addr) (xs : List V) : Prop := SqL K H sa xs ∧ (sa ≠ p ∨ ∀ H', SqL K H' sa xs)
theorem Scr.fw {xs : List V} {sa : Addr} (s : Scr K H sa p xs) (f : Fw c D H D2 H2) (hb : c.bag = some p) : Scr K H2 sa p xs := by
  obtain ⟨s1, s2⟩ := s
  refine ⟨?_, s2⟩
  rcases s2 with n | n
  · exact sq_xt s1 f.hx (by rw [hb]; intro z; cases z; exact n rfl)
  · exact n H2
/-- bag = _law_bag(script, k) -/
theorem l_bag {ns : List Int} {sa : Addr} {t : Option Addr} {k m : Nat} {E : XK} (S : LB K ⟨t, none⟩ δ D H σ) (h0 : δ[0]? = some (.raw (.ref sa))) (h1 : δ[i]? = some (.dat (di k))) (hk : k < 1000) (hS : SqL K H sa (ns.map V.int))
    (q : ∀ p σ2 H2, H p = none → Ex H H2 → LB K ⟨t, some p⟩ (δ.set m (.raw (.ref p))) D H2 σ2 → Scr K H2 sa p (ns.map V.int) → tz En σ2 H2) :
    tSeq (tAsg (tCall (spBag K) [] E (tCons (tVar 0) (tCons (tVar i) tNil))) (gName m)) tz En σ H := by
  obtain ⟨v, hv, dv⟩ := S.se.get h1
  refine ⟨.ref sa, S.se.raw h0, v, hv, sa, ns, k, by rw [dq_int dv]; rfl, hS, hk, fun p H2 hp ex hb => ?_⟩
  refine q p _ H2 hp ex ⟨⟨S.sb.ex.trans ex, S.sb.dat, fun t' z => (S.sb.tab t' z).ext ex, fun p' z => ?_⟩, SE.set (x := some (.ref p)) (s := .raw (.ref p)) rfl m S.se⟩ ⟨ex_l ex hS, ?_⟩
  · cases z
    exact ⟨hb, S.sb.free hp⟩
  · rcases hS with h | h
    · refine .inl ?_
      rintro rfl
      rcases h with h | ⟨o, h⟩ <;> rw [hp] at h <;> cases h
    · exact .inr fun H' => .inr h
/-- a turn of the law is over: the bag is forgotten -/
theorem LB.done {t : Option Addr} (S : LB K ⟨t, some p⟩ δ D H σ) : LB K ⟨t, none⟩ δ D H σ := ⟨⟨S.sb.ex, S.sb.dat, S.sb.tab, fun _ z => by cases z⟩, S.se⟩
theorem lx_of {Pv : List Sl → Prop} {sa : Addr} {ns : List Int} {t : Option Addr} (S : LB K ⟨t, some p⟩ δ D H σ) (s : Scr K H sa p (ns.map V.int)) (pv : Pv δ) : LX K ⟨t, none⟩ Pv sa ns σ H := ⟨δ, D, S.done, pv, s.1⟩
end
section
variable {K : PySem.W.Frag} {c : Md} {δ : List Sl} {D H : Hp} {σ : L2.St} {i : Nat}
theorem set_same : ∀ {σ : L2.St} {i : Nat}, σ.set i (σ.getD i none) = σ
  | [], i => by cases i <;> rfl
  | x :: l, 0 => rfl
  | x :: l, i + 1 => by rw [List.set_cons_succ, show (x :: l).getD (i + 1) none = l.getD i none from rfl, set_same]
theorem LB.forget (S : LB K c δ D H σ) (i : Nat) : LB K c (δ.set i .un) D H σ := by
  have k := SE.set (K := K) (D := D) (x := σ.getD i none) (s := .un) (by cases σ.getD i none <;> trivial) i S.se
  rw [set_same] at k
  exact ⟨S.sb, k⟩
end
end Nr
namespace Nr
open PySem PySem.Spec PyProof.Rows L2 Evl

/-! a dict whose keys are numbers -/
theorem nodup_len : ∀ (n : Nat) (l : List Nat), l.Nodup → (∀ x ∈ l, x < n) → l.length ≤ n
  | 0, l, _, h => by
    cases l with
    | nil => exact Nat.le_refl _
    | cons x l => exact absurd (h x List.mem_cons_self) (by omega)
  | n + 1, l, nd, h => by
    by_cases hn : n ∈ l
    · have ih := nodup_len n (l.erase n) (nd.erase n) fun x hx => by
        have h1 := (nd.mem_erase_iff).mp hx
        have h2 := h x h1.2
        have h3 := h1.1
        omega
      rw [List.length_erase_of_mem hn] at ih
      omega
    · have ih := nodup_len n l nd fun x hx => by
        have h2 := h x hx
        have : x ≠ n := fun z => hn (z ▸ hx)
        omega
      omega
abbrev kn (k : Nat) : Key := .inl (k : Int)
theorem kn_inj {a b : Nat} (h : kn a = kn b) : a = b := by
  injection h with h
  exact Int.ofNat.inj h
open Classical in
theorem putK_keysK {kvs : List (Key × V)} {k : Key} {v : V} : (putK kvs k v).map (·.1) = if k ∈ kvs.map (·.1) then kvs.map (·.1) else kvs.map (·.1) ++ [k] := by
  unfold putK
  have e : (kvs.any fun kv => decide (kv.1 = k)) = true ↔ k ∈ kvs.map (·.1) := by
    rw [List.any_eq_true, List.mem_map]
    constructor
    · rintro ⟨x, hx, hk⟩
      exact ⟨x, hx, of_decide_eq_true hk⟩
    · rintro ⟨x, hx, hk⟩
      exact ⟨x, hx, decide_eq_true hk⟩
  by_cases h : k ∈ kvs.map (·.1)
  · rw [if_pos (e.mpr h), if_pos h, List.map_map]
    refine List.map_congr_left fun x _ => ?_
    show (if x.1 = k then (x.1, v) else x).1 = x.1
    split <;> rfl
  · rw [if_neg (fun z => h (e.mp z)), if_neg h, List.map_append]
    rfl
/-- its keys are the members of S -/
def DK (kvs : List (Key × V)) (S : Nat → Prop) : Prop := ∃ ks : List Nat, kvs.map (·.1) = ks.map kn ∧ ks.Nodup ∧ ∀ c, c ∈ ks ↔ S c
theorem DK.nil : DK [] fun _ => False := ⟨[], rfl, .nil, fun c => by simp⟩
theorem DK.put {kvs : List (Key × V)} {S : Nat → Prop} {c : Nat} {v : V} (d : DK kvs S) : DK (putK kvs (kn c) v) fun x => S x ∨ x = c := by
  obtain ⟨ks, h1, h2, h3⟩ := d
  by_cases hc : c ∈ ks
  · refine ⟨ks, ?_, h2, fun x => ?_⟩
    · rw [putK_keysK, if_pos (by rw [h1]; exact List.mem_map.mpr ⟨c, hc, rfl⟩), h1]
    · rw [h3 x]
      constructor
      · exact .inl
      · rintro (z | rfl)
        · exact z
        · exact (h3 x).mp hc
  · refine ⟨ks ++ [c], ?_, ?_, fun x => ?_⟩
    · rw [putK_keysK, if_neg, h1, List.map_append]
      · rfl
      · rw [h1]
        intro z
        obtain ⟨y, hy, e⟩ := List.mem_map.mp z
        exact hc (kn_inj e ▸ hy)
    · refine List.nodup_append.mpr ⟨h2, by simp, fun x hx y hy => ?_⟩
      rw [List.mem_singleton.mp hy]
      exact fun z => hc (z ▸ hx)
    · rw [List.mem_append, h3 x, List.mem_singleton]
theorem DK.congr {kvs : List (Key × V)} {S T : Nat → Prop} (d : DK kvs S) (h : ∀ c, S c ↔ T c) : DK kvs T := by
  obtain ⟨ks, h1, h2, h3⟩ := d
  exact ⟨ks, h1, h2, fun c => (h3 c).trans (h c)⟩
theorem DK.len {kvs : List (Key × V)} {S : Nat → Prop} {n : Nat} (d : DK kvs S) (h : ∀ c, S c → c < n) : kvs.length ≤ n := by
  obtain ⟨ks, h1, h2, h3⟩ := d
  have e := congrArg List.length h1
  rw [List.length_map, List.length_map] at e
  rw [e]
  exact nodup_len n ks h2 fun x hx => h x ((h3 x).mp hx)
/-- what sorted makes of such a dict -/
def rSortDI : List V → Hp → VK → Prop := fun xs H Q => ∃ (a : Addr) (kvs : List (Key × V)) (ks : List Int), xs = [.ref a] ∧ Rd H a (.dK kvs) ∧ kvs.map (·.1) = ks.map Sum.inl ∧ ks.length < 64 ∧ ∀ (ys : List Int) (p : Addr), ys.Perm ks → ys.Pairwise (· ≤ ·) → H p = none → Q (.ref p) (upd H p (.lst (ys.map V.int)))
theorem DK.sorted {kvs : List (Key × V)} {S : Nat → Prop} {H : Hp} {D : Addr} {ms : List Nat} {n : Nat} {Q : VK} (d : DK kvs S) (hD : H D = some (.dK kvs)) (hn : ∀ c, S c → c < n) (h64 : n < 64) (up : ms.Pairwise (· < ·)) (hm : ∀ c, c ∈ ms ↔ S c)
    (k : ∀ p, H p = none → Q (.ref p) (upd H p (.lst (ms.map vi)))) : rSortDI [.ref D] H Q := by
  have hl := d.len hn
  obtain ⟨ks, h1, h2, h3⟩ := d
  have e := congrArg List.length h1
  rw [List.length_map, List.length_map] at e
  refine ⟨D, kvs, ks.map fun k : Nat => (k : Int), rfl, .inl hD, ?_, by rw [List.length_map]; omega, fun ys p hp ho hpn => ?_⟩
  · rw [h1, List.map_map]
    rfl
  · have hk : ks.Perm ms := perm_of_mem h2 (up.imp fun {a b} lt => Nat.ne_of_lt lt) fun x => (h3 x).trans (hm x).symm
    have := sorted_is hp hk ho up
    rw [this, List.map_map]
    exact k p hpn
theorem el_sortDI {σ : L2.St} {H : Hp} {D : Addr} {i n : Nat} {kvs : List (Key × V)} {S : Nat → Prop} {ms : List Nat} (hi : σ[i]? = some (some (.ref D))) (d : DK kvs S) (hD : H D = some (.dK kvs)) (hn : ∀ c, S c → c < n) (h64 : n < 64) (up : ms.Pairwise (· < ·)) (hm : ∀ c, c ∈ ms ↔ S c) :
    EvL (tCB rSortDI (tCons (tVar i) tNil)) σ H (ms.map vi) := fun H1 e Q q => ⟨.ref D, hi, d.sorted (Q := Q) (e _ _ hD) hn h64 up hm fun p hp => q p _ hp (Ex.new hp) upd_same⟩
theorem rg_is (n : Nat) : rgV 0 (n : Int) = (List.range n).map vi := by
  unfold rgV
  rw [show ((n : Int) - 0).toNat = n by omega]
  refine List.map_congr_left fun i _ => ?_
  show V.int _ = V.int _
  rw [Int.zero_add]

theorem ret_one {σ : L2.St} {H : Hp} {D : Ends} {r : List V → Hp → VK → Prop} {tl : TE} (h : tl σ H fun x H1 => r [x] H1 D.rt) : tRet (tCB r (tCons tl tNil)) D σ H := h
theorem Bx.mutD {p D : Addr} {H H1 : Hp} {o : HO} (b : Bx p H H1) (h : H D = none) : Bx p H (L2.upd H1 D o) := fun a u n ha => by
  rw [upd_ne (ne_of_none ha h)]
  exact b a u n ha
theorem Bag.mutD {p D : Addr} {H : Hp} {o : HO} (b : Bag H p) (h : D ≠ p) : Bag (upd H D o) p := by
  obtain ⟨c, z, hz⟩ := b
  exact ⟨c, z, by rw [upd_ne h.symm]; exact hz⟩
theorem noT_dK {H : Hp} {p : Addr} {kvs : List (Key × V)} (h : H p = some (.dK kvs)) : NoT H p := fun xs r => by
  rcases r with r | ⟨o, r⟩
  · rw [h] at r; cases r
  · rw [h] at r; cases r
theorem pricks_lt {n g h e t b c : Nat} (hc : c ∈ pricksM n g h e t b) : c < n := by
  unfold pricksM at hc
  split at hc
  · obtain ⟨p, hp, rfl⟩ := List.mem_map.mp (List.mem_reverse.mp hc)
    have := of_decide_eq_true (List.mem_filter.mp hp).2
    omega
  · exact of_decide_eq_true (List.mem_filter.mp hc).2
end Nr
namespace Nr
def lessM (a b : Nat × Nat) : Bool := decide (a.1 * b.2 < b.1 * a.2)
theorem low_gcd {a b : Nat} (hb : 0 < b) : a = (lowP a b).1 * Nat.gcd a b ∧ b = (lowP a b).2 * Nat.gcd a b ∧ 0 < Nat.gcd a b :=
  ⟨(Nat.div_mul_cancel (Nat.gcd_dvd_left a b)).symm, (Nat.div_mul_cancel (Nat.gcd_dvd_right a b)).symm, Nat.gcd_pos_of_pos_right a hb⟩
theorem less_low {t b T w : Nat} (hw : 0 < w) : lessM (t, b) (lowP T w) = decide (t * w < T * b) := by
  unfold lessM
  rw [decide_eq_decide]
  obtain ⟨h1, h2, h3⟩ := low_gcd (a := T) hw
  revert h1 h2 h3
  generalize Nat.gcd T w = d
  generalize lowP T w = q
  intro h1 h2 h3
  show t * q.2 < q.1 * b ↔ _
  rw [h1, h2]
  have e1 : t * (q.2 * d) = t * q.2 * d := by rw [Nat.mul_assoc]
  have e2 : q.1 * d * b = q.1 * b * d := by rw [Nat.mul_assoc, Nat.mul_comm d b, ← Nat.mul_assoc]
  rw [e1, e2]
  exact ⟨fun z => Nat.mul_lt_mul_of_pos_right z h3, fun z => Nat.lt_of_mul_lt_mul_right z⟩
theorem low_cross {T w : Nat} (hw : 0 < w) : (lowP T w).1 * w = T * (lowP T w).2 := by
  obtain ⟨h1, h2, h3⟩ := low_gcd (a := T) hw
  revert h1 h2 h3
  generalize Nat.gcd T w = d
  generalize lowP T w = q
  intro h1 h2 h3
  rw [h1, h2, Nat.mul_assoc, Nat.mul_comm d q.2]
theorem low_pos {T w : Nat} (hw : 0 < w) : 0 < (lowP T w).2 := Nat.div_pos (Nat.le_of_dvd hw (Nat.gcd_dvd_right _ _)) (Nat.gcd_pos_of_pos_right _ hw)
theorem less_two {T U w : Nat} (hw : 0 < w) : lessM (lowP T w) (lowP U w) = decide (T < U) := by
  have e : lessM (lowP T w) (lowP U w) = decide ((lowP T w).1 * w < U * (lowP T w).2) := less_low (t := (lowP T w).1) (b := (lowP T w).2) hw
  rw [e, low_cross hw, decide_eq_decide]
  have := low_pos (T := T) hw
  exact ⟨fun z => Nat.lt_of_mul_lt_mul_right z, fun z => Nat.mul_lt_mul_of_pos_right z this⟩
theorem low_inj {T U w : Nat} (hw : 0 < w) (h : lowP T w = lowP U w) : T = U := by
  have h1 := low_cross (T := T) hw
  have h2 := low_cross (T := U) hw
  rw [h] at h1
  have := low_pos (T := U) hw
  exact Nat.eq_of_mul_eq_mul_right this (h1.symm.trans h2)
theorem low_zero {w : Nat} (hw : 0 < w) : lowP 0 w = (0, 1) := by
  unfold lowP
  rw [Nat.gcd_zero_left, Nat.zero_div, Nat.div_self hw]
theorem low_self {w : Nat} (hw : 0 < w) : lowP w w = (1, 1) := by
  unfold lowP
  rw [Nat.gcd_self, Nat.div_self hw]
theorem low_le {T w : Nat} : (lowP T w).1 ≤ T ∧ (lowP T w).2 ≤ w := ⟨Nat.div_le_self _ _, Nat.div_le_self _ _⟩
theorem low_gcd1 {T w : Nat} (hw : 0 < w) : Nat.gcd (lowP T w).1 (lowP T w).2 = 1 := by
  show Nat.gcd (T / Nat.gcd T w) (w / Nat.gcd T w) = 1
  rw [Nat.gcd_div (Nat.gcd_dvd_left _ _) (Nat.gcd_dvd_right _ _), Nat.div_self (Nat.gcd_pos_of_pos_right _ hw)]
section
variable {n g h : Nat}
theorem whole_lt {n g h : Nat} (hn : n ≤ 24) (hg : 4 ≤ g) (hg2 : g ≤ 16) (hh : h ≤ 8) : wholeM n g h < 2 ^ 30 := (ok_at hn hg hg2 hh).1
/-- the pair that holds an angle -/
theorem pair_at (hg : 2 ≤ g) {t b : Nat} (htb : t < b) : ∃ Q ∈ pairsM n g h, Q.1 * b ≤ t * wholeM n g h ∧ t * wholeM n g h < Q.2 * b := by
  obtain ⟨l, hl⟩ := tops_cons (n := n) (g := g) (h := h) (by omega)
  have hw : 0 < wholeM n g h := wholeM_pos (by omega)
  have up := tops_up (n := n) (g := g) (h := h)
  have lt := tops_ltA (n := n) (g := g) (h := h) (by omega)
  rw [hl] at up lt
  have h2 : t * wholeM n g h < wholeM n g h * b := by
    rw [Nat.mul_comm (wholeM n g h) b]
    exact Nat.mul_lt_mul_of_pos_right htb hw
  obtain ⟨Q, hQ, q1, q2⟩ := pairL_one_holds b (t * wholeM n g h) l (wholeM n g h) 0 up lt (by omega) h2
  refine ⟨Q, ?_, q1, q2⟩
  rw [pairs_is, hl]
  have : Q ∈ (pairL (0 :: l) (wholeM n g h)).filter (fun q => !decide (t * wholeM n g h < q.1 * b) && decide (t * wholeM n g h < q.2 * b)) := by rw [hQ]; exact List.mem_singleton.mpr rfl
  exact (List.mem_filter.mp this).1
theorem pairL_up : ∀ (l : List Nat) (w : Nat), l.Pairwise (· < ·) → (pairL l w).Pairwise fun a b => a.2 ≤ b.1
  | [], _, _ => .nil
  | [x], w, _ => by rw [pairL_one]; exact List.pairwise_singleton _ _
  | x :: y :: l, w, h => by
    have p := List.pairwise_cons.mp h
    rw [pairL_cons]
    refine List.pairwise_cons.mpr ⟨fun q hq => ?_, pairL_up (y :: l) w p.2⟩
    have := (pairL_mem _ _ _ hq).1
    rcases List.mem_cons.mp this with e | e
    · show y ≤ q.1
      omega
    · exact Nat.le_of_lt ((List.pairwise_cons.mp p.2).1 _ e)
theorem pairs_up (hg : 2 ≤ g) : (pairsM n g h).Pairwise (fun a b => a.2 ≤ b.1) ∧ ∀ q ∈ pairsM n g h, q.1 < q.2 ∧ q.2 ≤ wholeM n g h := by
  rw [pairs_is]
  have up := tops_up (n := n) (g := g) (h := h)
  have lt := tops_ltA (n := n) (g := g) (h := h) (by omega)
  refine ⟨pairL_up _ _ up, fun q hq => ⟨(pairL_lt _ _ up lt q hq).1, ?_⟩⟩
  rcases (pairL_mem _ _ _ hq).2 with e | e
  · exact Nat.le_of_lt (lt _ e)
  · omega
end
end Nr
namespace Nr
open PySem PySem.Spec PyProof.Rows L2 Evl
theorem mem_unw {cs ws : List Nat} {x : Nat} : x ∈ unwM cs ws ↔ x ∈ cs ∧ x ∉ ws := by
  unfold unwM
  rw [List.mem_filter]
  simp
theorem unw_nil {cs ws : List Nat} : unwM cs ws = [] ↔ ∀ x ∈ cs, x ∈ ws := by
  rw [List.eq_nil_iff_forall_not_mem]
  constructor
  · intro h x hx
    refine Classical.byContradiction fun z => h x (mem_unw.mpr ⟨hx, z⟩)
  · intro h x hx
    obtain ⟨a, b⟩ := mem_unw.mp hx
    exact b (h x a)
section
variable {P : Program} {w : World} {K : PySem.W.Frag} {mg : Str → Option Value} {base : Heap}
/-! unwished -/
abbrev sUnw : Stmt := topS 27
abbrev nUnw : List Str := ["cells", "wished", "cell"]
theorem scUnw : FnScope nUnw ["cells", "wished"] (defScope sUnw) := ⟨rfl, rfl, rfl, by decide +kernel, rfl, by decide +kernel, by decide +kernel⟩
def spUnw (K : PySem.W.Frag) : Sp := fun vs H Q _ => ∃ (a b : Addr) (cs ws : List Nat), vs = [.ref a, .ref b] ∧ SqT K H a (cs.map vi) ∧ SqT K H b (ws.map vi) ∧ cs.length ≤ 1000 ∧ RetL ((unwM cs ws).map vi) H Q
theorem ok_unw {f : Addr} {fd : FuncData} {k : Nat} (F : Fun K "unwished" "unwished" sUnw f fd) : FnOk P w K mg base CX0 (k + 1) f fd ["cells", "wished"] (spUnw K) := by
  refine F.ok scUnw (fun vs H Q E h => ?_) (fun cdv A outer s H vs Q E hr h => ?_)
  · obtain ⟨a, b, cs, ws, rfl, _⟩ := h
    rfl
  obtain ⟨a, b, cs, ws, rfl, ha, hb, hl, q⟩ := h
  refine ⟨_, pss_one (ps_ret (pe_lc (own := [("cell", 2)]) (g := gName 2) (by rfl) scUnw.nd (pi_tup (pv 0)) (blkOk_by (N := nUnw) (sc := defScope sUnw) (by decide +kernel))
    (fun _ _ _ _ _ => pg_name (i := 2) scUnw.nd rfl (Or.inl rfl)) (fun _ _ _ _ _ => pts_one (pt_cmpR (show OpR _ (compareOp .NotIn) (rIn K true) from op_notIn_seq) (pv 2) (pv 1) rfl)) (fun _ _ _ _ _ => pv 2))), ?_⟩
  refine s_retL (xs := (unwM cs ws).map vi) ?_ q
  have k := el_lcT (K := K) (σ := [some (.ref a), some (.ref b), none]) (H := H) (t := tTest (tOp (rIn K true) (tVar 2) (tVar 1))) (te := tVar 2) (tl := tVar 0) (j := 2) (vs := [2]) (fun i => !ws.contains (cs.getD i 0)) (fun i => vi (cs.getD i 0)) (ev_var rfl) ha (by rw [List.length_map]; omega) (fun _ => rfl)
    (fun i x H1 e1 hx => ?_) (fun i x H1 e1 hx _ => ?_)
  · rw [List.length_map, given_filter (fun c => !ws.contains c) (fun i x hx => by rw [List.getD_eq_getElem?_getD, hx]; rfl) (fun i x hx => by rw [List.getD_eq_getElem?_getD, hx]; rfl)] at k
    exact k
  · rw [List.getElem?_map] at hx
    obtain ⟨c, hc, rfl⟩ := Option.map_eq_some_iff.mp hx
    have e : cs.getD i 0 = c := by rw [List.getD_eq_getElem?_getD, hc]; rfl
    rw [e]
    have := et_test (ev_op (ev_var (i := 2) (σ := [some (.ref a), some (.ref b), some (vi c)]) (H := H1) rfl) (ev_var (i := 1) rfl) (rv_niT (K := K) (ex_t e1 hb) rfl (flat_vis ws)))
    rw [inV_vis] at this
    exact this
  · rw [List.getElem?_map] at hx
    obtain ⟨c, hc, rfl⟩ := Option.map_eq_some_iff.mp hx
    have e : cs.getD i 0 = c := by rw [List.getD_eq_getElem?_getD, hc]; rfl
    rw [e]
    exact ev_var rfl


end
section
variable {K : PySem.W.Frag} {c : Md}
theorem sd_unw {cs ws : List Nat} (hl : cs.length ≤ 1000) : SpD K c (spUnw K) [.tuple (cs.map di), .tuple (ws.map di)] (.list ((unwM cs ws).map di)) := fun vs D H s hv Q q E => by
  cases hv with
  | cons h1 hv =>
  cases hv with
  | cons h2 hv =>
  cases hv
  obtain ⟨a, rfl, ha⟩ := dq_ints h1
  obtain ⟨b, rfl, hb⟩ := dq_ints h2
  refine ⟨a, b, cs, ws, rfl, ex_t s.ex ha, ex_t s.ex hb, hl, fun p H2 hp ex hpx => ?_⟩
  exact q _ _ _ (Fw.liftE s ex) (lift_dl s (.of ex) (s.exBag ex) (frT_new hp) hpx (noLs_dis _) (dis_vis _))
end
end Nr
namespace Nr
open PySem PySem.Spec PyProof.Rows L2 Evl
/-! rows -/
abbrev Row := (Nat × Nat) × (Nat × Nat) × List Nat
def rowD (r : Row) : PyData := .tuple [td r.1, td r.2.1, .tuple (r.2.2.map di)]
def rowOf (n g h e w : Nat) (q : Nat × Nat) : Row := (lowP q.1 w, lowP q.2 w, pricksM n g h e q.1 w)
def rowsM (n g h e : Nat) : List Row := (pairsM n g h).map (rowOf n g h e (wholeM n g h))
theorem strM_rows (n g h e : Nat) : strM n g h e = (rowsM n g h e).map rowD := by
  unfold strM rowsM
  rw [List.map_map]
  rfl
def harmM (n g h e : Nat) (ws : List Nat) : List Row := (rowsM n g h e).filter fun r => (unwM r.2.2 ws).isEmpty
theorem rows_len {n g h e : Nat} (hn : n ≤ 24) (hg : 4 ≤ g) (hg2 : g ≤ 16) (hh : h ≤ 8) : (rowsM n g h e).length ≤ 61 := by
  have := str_len (e := e) hn hg hg2 hh
  rw [strM_rows, List.length_map] at this
  exact this
theorem rows_cells {n g h e : Nat} {r : Row} (hr : r ∈ rowsM n g h e) : r.2.2.length ≤ 2 * n := by
  obtain ⟨q, _, rfl⟩ := List.mem_map.mp hr
  exact pricks_len _ _ _ _ _ _
theorem harm_len {n g h e : Nat} {ws : List Nat} (hn : n ≤ 24) (hg : 4 ≤ g) (hg2 : g ≤ 16) (hh : h ≤ 8) : (harmM n g h e ws).length ≤ 61 := Nat.le_trans (List.length_filter_le _ _) (rows_len hn hg hg2 hh)
/-- a strip, a winding, wishes -/
structure Wz where
  n : Nat
  g : Nat
  h : Nat
  e : Nat
  ws : List Nat
abbrev Wz.args (x : Wz) : List PyData := [di x.n, wD x.g x.h x.e, .tuple (x.ws.map di)]
structure Wz.ok (x : Wz) : Prop where
  n : x.n ≤ 24
  g : 4 ≤ x.g
  g2 : x.g ≤ 16
  h : x.h ≤ 8
  w : x.ws.length ≤ 100
abbrev Wz.harm (x : Wz) : List Row := harmM x.n x.g x.h x.e x.ws
section
variable {P : Program} {w : World} {K : PySem.W.Frag} {mg : Str → Option Value} {base : Heap}
abbrev sHarm : Stmt := topS 28 /- harmless -/
abbrev nHarm : List Str := ["many", "winding", "wished", "row"]
theorem scHarm : FnScope nHarm ["many", "winding", "wished"] (defScope sHarm) := ⟨rfl, rfl, rfl, by decide +kernel, rfl, by decide +kernel, by decide +kernel⟩
def spHarm (K : PySem.W.Frag) : Sp := spF K Wz.args Wz.ok fun x => .list (x.harm.map rowD)
theorem spF_len {α : Type} {A : α → List PyData} {C : α → Prop} {F : α → PyData} {vs : List V} {H : Hp} {Q : VK} {E : XK} {k : Nat} (h : spF K A C F vs H Q E) (hk : ∀ x, (A x).length = k) : vs.length = k := by
  obtain ⟨x, D, _, hv, _⟩ := h
  rw [dqa_len hv, hk]
theorem ok_Harm {f : Addr} {fd : FuncData} (F : Fun K "harmless" "harmless" sHarm f fd)
    {f0 : Addr} {fd0 : FuncData} (C_stretches : Can P w K mg base "stretches" 3 f0 fd0 ["many", "winding"] (spStretches K))
    {f1 : Addr} {fd1 : FuncData} (C_unwished : Can P w K mg base "unwished" 1 f1 fd1 ["cells", "wished"] (spUnw K)) :
    FnOk P w K mg base CX0 4 f fd ["many", "winding", "wished"] (spHarm K) := by
  refine F.ok scHarm (fun vs H Q E h => spF_len h fun _ => rfl) (fun cdv A outer s H vs Q E hr h => ?_)
  obtain ⟨x, D, sb, hv, ok, q⟩ := h
  have nd := scHarm.nd
  refine ⟨_, (pss_one (ps_ret (pe_lc (own := [("row", 3)]) (g := (gName 3)) (by rfl) nd (pi_list (pcall C_stretches hr (pa_cons (pv 0) (pa_cons (pv 1) pa_nil)))) (blkOk_by (N := nHarm) (sc := defScope sHarm) (by decide +kernel)) (fun _ _ _ _ _ => (pg_name (i := 3) nd rfl (.inl rfl))) (fun _ _ _ _ _ => (pts_one (pt_not (show PT _ _ (tTr K _) from pt_tr (pcall C_unwished hr (pa_cons (pe_ix (show IxR _ (rIxT K) from ix_tup) (pv 3) pe_int (fun _ _ => rfl)) (pa_cons (pv 2) pa_nil))) (by intro _; rfl))))) (fun _ _ _ _ _ => (pv 3))))), RD.go sb hv rfl (rd_ret ?_) q⟩
  refine (ed_lc (L := rowsM x.n x.g x.h x.e) (enc := rowD) (fun r => (unwM r.2.2 x.ws).isEmpty) rowD ((ei_list (ed_call (ea_consD (ed_var rfl) (ea_consD (ed_var rfl) ea_nilD)) (sd_stretches ok.n ok.g ok.g2 ok.h))).is (strM_rows _ _ _ _)) (fun r hr => eg_name) (fun r hr => ?_) (fun r hr _ => ed_var rfl) (by decide) (Nat.le_trans (rows_len ok.n ok.g ok.g2 ok.h) (by decide)))
  have h1 := rows_cells hr
  have h2 := ok.n
  refine (et_notD (et_trD (ed_call (ea_consD (ed_op (ed_var rfl) ed_int (r_ixT (i := 2) rfl)) (ea_consD (ed_var rfl) ea_nilD)) (sd_unw (by omega))) trivial)).is ?_
  show (!(!((unwM r.2.2 x.ws).map di).isEmpty)) = _
  cases unwM r.2.2 x.ws <;> rfl
end
end Nr
namespace Nr
open PySem PySem.Spec PyProof.Rows L2 Evl
/-! min(xs, key=len) -/
def bestI (ks : List Nat) : Nat := argBest (fun i j => decide (ks.getD i 0 < ks.getD j 0)) (ks.length - 1)
def tMinLen (K : PySem.W.Frag) (ta : TA) : TE := fun σ H Q => ta σ H fun xs H1 => ∃ (a : Addr) (vs : List V) (ks : List Nat), xs = [.ref a] ∧ SqL K H1 a vs ∧ ks.length = vs.length ∧ 0 < ks.length ∧
  (∀ (j : Nat) (v : V), vs[j]? = some v → ∃ b ys, v = .ref b ∧ SqL K H1 b ys ∧ ks[j]? = some ys.length) ∧ ∀ v, vs[bestI ks]? = some v → Q v H1
theorem bestI_lt {ks : List Nat} (h : 0 < ks.length) : bestI ks < ks.length := by
  have : ∀ (bt : Nat → Nat → Bool) (k : Nat), argBest bt k ≤ k := fun bt k => by
    induction k with
    | zero => exact Nat.le_refl _
    | succ k ih =>
      rw [argBest]
      split
      · exact Nat.le_refl _
      · omega
  have := this (fun i j => decide (ks.getD i 0 < ks.getD j 0)) (ks.length - 1)
  unfold bestI
  omega
section
variable {X : Cx} {e : Expr} {ta : TA} {p p2 kpos pos : Pos}
theorem pe_minLen (hc : X.calm = true) (hg : Gl X "min") (hm : X.mg "min" = none) (hgl : Gl X "len") (hml : X.mg "len" = none) (ha : PA X [e] ta)
    (he : backTo pos (starEach [e] X.env) = (false, eval e X.env) :: backTo pos (starEach [] X.env) := by rfl) (hpl : (backTo pos (starEach [e] X.env)).any (·.1) = false := by rfl)
    (hall : (backToKw pos (keywordEach [⟨some "key", .Name "len" p2, kpos⟩] X.env)).all (·.1.isSome) = true := by rfl) (hnone : (backToKw pos (keywordEach [⟨some "key", .Name "len" p2, kpos⟩] X.env)).any (·.1.isNone) = false := by rfl) (hks : (backToKw pos (keywordEach [⟨some "key", .Name "len" p2, kpos⟩] X.env)).filterMap (·.1) = [Str.ofString "key"] := by rfl) :
    PE X (.Call (.Name "min" p) [e] [⟨some "key", .Name "len" p2, kpos⟩] pos) (tMinLen X.K ta) := by
  refine ⟨fun pins s σ H Q I h => ?_⟩
  refine wpAny_Call_Name_kw (ld_blt I hg hm PyProof.Rows.boot_min ?_)
  refine PyProof.Rows.callWith_kw (thn (ha.run pos pins s σ H _ I h) fun us s1 ⟨xs, H1, I1, r1, q1⟩ => ?_) he hpl hall hnone
  rw [hks]
  refine wpAny_evalAll_cons (wpAny_bind (ld_blt I1 hgl hml PySem.boot_len (wpAny_bind (wpAny_standAt (wpAny_pure (wpAny_evalAll_nil ?_))))))
  obtain ⟨a, vs, ks, rfl, hs, hl, h0, hlen, q⟩ := q1
  rw [Vals.ref1 r1]
  obtain ⟨its, rv, pl, _⟩ := I1.list hs
  have hh : X.A.handled = none := I1.ok.hd hc
  have hsz : its.toArray.size = ks.length := by rw [List.size_toArray, ← rv.length, hl]
  refine call_min_walkKB (PySem.W.iter_listW (A := X.A.in1) hh pl.isList fun s₂ e2 W st hfp hw hk => ?_)
  have hsize : s₂.heap.objs.size = s1.heap.objs.size + 1 := by rw [e2]; exact Heap.size_push _ _
  refine ⟨_, _, _, _, _, _, _, (fun s' => ∃ h' tk, s' = { s1 with heap := h', toks := tk } ∧ ∀ b o, s1.heap.get? b = some o → h'.get? b = some o), (fun i k _ => ∃ t, k = Value.int (ks.getD i 0 : Nat) t), (fun i j => decide (ks.getD i 0 < ks.getD j 0)), rfl, W, st, hfp, by rw [hsz]; exact h0, ?_, ?_, ?_⟩
  · refine ⟨?_, ?_, ?_, ?_⟩
    · rintro sa sb ⟨h', tk, rfl, hk'⟩ mv
      refine ⟨sb.heap, sb.toks, ?_, fun b o hb => mv.heap b o ?_ (hk' b o hb)⟩
      · obtain ⟨m1, m2, m3, m4, m5⟩ := mv
        cases sb
        simp only at m2 m3 m4
        subst m2 m3 m4
        rfl
      · have lt := Heap.lt_size hb
        intro hm
        rcases List.mem_cons.mp hm with z | z
        · rw [z, hsize] at lt
          exact Nat.lt_irrefl _ (Nat.lt_trans lt (Nat.lt_succ_self _))
        · rw [List.mem_singleton.mp z] at lt
          exact Nat.lt_irrefl _ lt
    · exact fun i k sa sb hv _ => hv
    · rintro i v sa o Q' E' hi hP ⟨h', tk, rfl, hk'⟩ hst ho hq
      have hit : its[i]? = some v := by simpa using hP
      have hi2 : i < vs.length := by rw [rv.length]; exact (List.getElem?_eq_some_iff.mp hit).1
      obtain ⟨u, hu, ru⟩ := rv.get (List.getElem?_eq_getElem hi2)
      rw [hit] at hu
      cases hu
      obtain ⟨b, ys, ev, hb, hkj⟩ := hlen i _ (List.getElem?_eq_getElem hi2)
      rw [ev] at ru
      cases ru
      obtain ⟨its2, rv2, pl2, hz2⟩ := I1.list hb
      have hl2 := rv2.length
      have hn := line63
      have il : ({ s1 with heap := h', toks := tk } : Shared).heap.IsList b its2.toArray := by
        obtain ⟨o2, ho2, hc2, n2, hd2⟩ := pl2.isList
        exact ⟨o2, hk' _ _ ho2, hc2, n2, hd2⟩
      refine Calls.call_len_list il (by simp only [List.size_toArray]; omega) (hq _ _ ⟨h', _, rfl, hk'⟩ ?_ ho ⟨tk + 1, ?_⟩ fun j k' hv => hv)
      · exact hst
      · rw [List.size_toArray, ← hl2, List.getD_eq_getElem?_getD, hkj]
        rfl
    · rintro i j ki kj sa Q' E' _ ⟨t, rfl⟩ ⟨t', rfl⟩ hq
      refine (show wpAny (model X.prog X.w) X.A.in1 (compareOp .Lt (.int _ t) (.int _ t')) Q' E' sa from PyProof.Rows.lt_int ?_)
      rw [show decide (((ks.getD i 0 : Nat) : Int) < ((ks.getD j 0 : Nat) : Int)) = decide (ks.getD i 0 < ks.getD j 0) by rw [decide_eq_decide]; omega]
      exact hq
  · subst e2
    exact ⟨_, _, rfl, hk⟩
  · rintro v s' hP ⟨h', tk, rfl, hk'⟩
    rw [hsz] at hP
    have hit : its[bestI ks]? = some v := by simpa [bestI] using hP
    have hi2 : bestI ks < vs.length := by rw [← hl]; exact bestI_lt h0
    obtain ⟨u, hu, ru⟩ := rv.get (List.getElem?_eq_getElem hi2)
    rw [hit] at hu
    cases hu
    exact ⟨_, H1, I1.kept (t' := tk) hk', ru, q _ (List.getElem?_eq_getElem hi2)⟩
end
/-! the first of the shortest -/
def minBy {α : Type} (f : α → Nat) : List α → Option α
  | [] => none
  | x :: xs => some (xs.foldl (fun a y => if f y < f a then y else a) x)
theorem minBy_is {α : Type} (f : α → Nat) : ∀ (l : List α) (m : α), minBy f l = some m → m ∈ l ∧ ∀ y ∈ l, f m ≤ f y
  | [], m, h => by cases h
  | x :: xs, m, h => by
    have key : ∀ (xs : List α) (x : α), xs.foldl (fun a y => if f y < f a then y else a) x ∈ x :: xs ∧ ∀ y ∈ x :: xs, f (xs.foldl (fun a y => if f y < f a then y else a) x) ≤ f y := fun xs => by
      induction xs with
      | nil => intro x; exact ⟨List.mem_cons_self, fun y hy => by rw [List.mem_singleton.mp hy]; exact Nat.le_refl _⟩
      | cons z xs ih =>
        intro x
        rw [List.foldl_cons]
        by_cases c : f z < f x
        · rw [if_pos c]
          obtain ⟨h1, h2⟩ := ih z
          refine ⟨List.mem_cons_of_mem _ h1, fun y hy => ?_⟩
          rcases List.mem_cons.mp hy with rfl | hy
          · have := h2 z List.mem_cons_self
            omega
          · exact h2 y hy
        · rw [if_neg c]
          obtain ⟨h1, h2⟩ := ih x
          refine ⟨?_, fun y hy => ?_⟩
          · rcases List.mem_cons.mp h1 with e | e
            · rw [e]; exact List.mem_cons_self
            · exact List.mem_cons_of_mem _ (List.mem_cons_of_mem _ e)
          · rcases List.mem_cons.mp hy with rfl | hy
            · exact h2 y List.mem_cons_self
            · rcases List.mem_cons.mp hy with rfl | hy
              · have := h2 x List.mem_cons_self
                omega
              · exact h2 y (List.mem_cons_of_mem _ hy)
    obtain ⟨h1, h2⟩ := key xs x
    rw [minBy] at h
    cases h
    exact ⟨h1, h2⟩
theorem minBy_best {α : Type} (f : α → Nat) (l : List α) (m : α) (h : minBy f l = some m) : l[bestI (l.map f)]? = some m := by
  cases l with
  | nil => cases h
  | cons x xs =>
    have e := PySem.W.argBest_fold (fun a b => decide (f a < f b)) x x xs xs.length (Nat.le_refl _)
    rw [List.take_length] at e
    have eb : bestI ((x :: xs).map f) = argBest (fun i j => decide (f ((x :: xs).getD i x) < f ((x :: xs).getD j x))) xs.length := by
      unfold bestI
      rw [List.length_map, List.length_cons, Nat.add_sub_cancel]
      have cong : ∀ (k : Nat), k < (x :: xs).length → argBest (fun i j => decide (((x :: xs).map f).getD i 0 < ((x :: xs).map f).getD j 0)) k = argBest (fun i j => decide (f ((x :: xs).getD i x) < f ((x :: xs).getD j x))) k ∧ argBest (fun i j => decide (((x :: xs).map f).getD i 0 < ((x :: xs).map f).getD j 0)) k ≤ k := fun k => by
        have g : ∀ i, i < (x :: xs).length → ((x :: xs).map f).getD i 0 = f ((x :: xs).getD i x) := fun i hi => by
          rw [List.getD_eq_getElem?_getD, List.getElem?_map, List.getElem?_eq_getElem hi, List.getD_eq_getElem?_getD, List.getElem?_eq_getElem hi]
          rfl
        induction k with
        | zero => exact fun _ => ⟨rfl, Nat.le_refl _⟩
        | succ k ih =>
          intro hk
          obtain ⟨i1, i2⟩ := ih (by omega)
          rw [argBest, argBest, ← i1, g _ hk, g _ (by omega)]
          refine ⟨rfl, ?_⟩
          split
          · exact Nat.le_refl _
          · omega
      exact (cong xs.length (by rw [List.length_cons]; omega)).1
    rw [eb]
    have lt : argBest (fun i j => decide (f ((x :: xs).getD i x) < f ((x :: xs).getD j x))) xs.length < (x :: xs).length := by
      rw [List.length_cons]
      have := e.1
      omega
    rw [List.getElem?_eq_getElem lt]
    congr 1
    have e2 := e.2
    rw [List.getD_eq_getElem?_getD, List.getElem?_eq_getElem lt] at e2
    rw [minBy] at h
    cases h
    simp only [decide_eq_true_eq] at e2
    exact e2
section
variable {K : PySem.W.Frag} {c : Md} {δ : List Sl} {te : TE}
theorem ed_minLen {α : Type} {L : List α} {F : α → List PyData} {m : α} (h : ED K c te δ (.list (L.map fun x => .list (F x)))) (hm : minBy (fun x => (F x).length) L = some m) : ED K c (tMinLen K (tCons te tNil)) δ (.list (F m)) := fun σ D H s e Q q =>
  h σ D H s e _ fun v D1 H1 f1 d1 => by
    obtain ⟨a, xs, rfl, ha, hd⟩ := dq_lst d1
    have hl := dqa_len hd
    rw [List.length_map] at hl
    have h0 : 0 < L.length := by
      cases L with
      | nil => cases hm
      | cons x L => exact Nat.succ_pos _
    refine ⟨a, xs, L.map fun x => (F x).length, rfl, sq_of (f1.sb.ex _ _ ha), by rw [List.length_map, hl], by rw [List.length_map]; exact h0, fun j v hj => ?_, fun v hv => ?_⟩
    · obtain ⟨d, hd1, hd2⟩ := dqa_at hd hj
      rw [List.getElem?_map] at hd1
      obtain ⟨x, hx, rfl⟩ := Option.map_eq_some_iff.mp hd1
      obtain ⟨b, ys, rfl, hb, hy⟩ := dq_lst hd2
      refine ⟨b, ys, rfl, sq_of (f1.sb.ex _ _ hb), ?_⟩
      rw [List.getElem?_map, hx, dqa_len hy]
      rfl
    · obtain ⟨d, hd1, hd2⟩ := dqa_at hd hv
      rw [List.getElem?_map, minBy_best _ _ _ hm] at hd1
      cases hd1
      exact q _ _ _ f1 hd2
end
end Nr

namespace Nr
open PySem PySem.Spec PyProof.Rows L2 Evl
/-! rising order -/
def srt (l : List Nat) : List Nat := l.mergeSort (fun a b => decide (a ≤ b))
theorem srt_perm (l : List Nat) : (srt l).Perm l := List.mergeSort_perm _ _
theorem srt_up (l : List Nat) : (srt l).Pairwise (· ≤ ·) := by
  have := List.pairwise_mergeSort (le := fun a b : Nat => decide (a ≤ b)) (fun a b c h1 h2 => by simp at *; omega) (fun a b => by simp; omega) l
  exact this.imp fun {a b} h => by simpa using h
theorem srt_len (l : List Nat) : (srt l).length = l.length := (srt_perm l).length_eq
theorem srt_one {l m : List Nat} (h : m.Perm l) (up : m.Pairwise (· ≤ ·)) : m = srt l := (h.trans (srt_perm l).symm).eq_of_pairwise (fun a b _ _ h1 h2 => Nat.le_antisymm h1 h2) up (srt_up l)
section
variable {K : PySem.W.Frag} {c : Md} {δ ss : List Sl} {te : TE} {tr : TA} {d : PyData} {ds : List PyData} {D H D2 H2 : Hp} {σ : L2.St} {En : Ends} {i : Nat}
theorem b_sorted {l : List Nat} (hl : l.length < 64) : RCD K c (rSorted K) [.list (l.map di)] (.list ((srt l).map di)) := fun vs D H s h Q q => by
  cases h with
  | cons h1 h2 =>
  cases h2
  obtain ⟨p, rfl, hp⟩ := dq_intl h1
  have e0 : ∀ l : List Nat, (l.map fun k : Nat => (k : Int)).map V.int = l.map vi := fun l => by rw [List.map_map]; rfl
  refine ⟨p, l.map fun k : Nat => (k : Int), rfl, by rw [e0]; exact sq_of (s.ex _ _ hp), by rw [List.length_map]; exact hl, fun ns' t pm up ht => ?_⟩
  obtain ⟨m, em⟩ : ∃ m : List Nat, ns' = m.map fun k : Nat => (k : Int) := by
    refine ⟨ns'.map Int.toNat, ?_⟩
    rw [List.map_map]
    have : ns'.map id = ns'.map ((fun k : Nat => (k : Int)) ∘ Int.toNat) := List.map_congr_left fun x hx => by
      obtain ⟨k, _, rfl⟩ := List.mem_map.mp (pm.mem_iff.mp hx)
      rfl
    rw [List.map_id] at this
    exact this
  subst em
  have pm2 : m.Perm l := by
    have := pm.map Int.toNat
    rw [List.map_map, List.map_map] at this
    have e1 : ∀ l : List Nat, l.map (Int.toNat ∘ fun k : Nat => (k : Int)) = l := fun l => by
      have : l.map (Int.toNat ∘ fun k : Nat => (k : Int)) = l.map id := List.map_congr_left fun x _ => rfl
      rw [this, List.map_id]
    rw [e1, e1] at this
    exact this
  have up2 : m.Pairwise (· ≤ ·) := (List.pairwise_map.mp up).imp fun {a b} h => by omega
  have f := Fw.alloc (o := .lst ((m.map fun k : Nat => (k : Int)).map V.int)) s ht trivial
  refine q _ _ _ f (.lst upd_same ?_)
  rw [e0, srt_one pm2 up2]
  exact vis_dqa _
theorem ei_rng2 {a b : Nat} (h : EA K c tr δ [di a, di b]) (ha : a ≤ 100000) (hb : b ≤ 100000) : EI K c (iRng2 tr) δ ((List.range (b - a)).map fun i => di (a + i)) := fun σ D H s e R k =>
  h σ D H s e _ fun vs D1 H1 f1 d1 => by
    cases d1 with
    | cons h1 h2 =>
    cases h2 with
    | cons h2 h3 =>
    cases h3
    refine ⟨a, b, by rw [dq_int h1, dq_int h2], ⟨by omega, by omega, by omega, by omega⟩, k _ D1 H1 f1 ⟨fun H' e' => ?_, fun i H' lt e' => ?_, fun i d D' H' x H2 hi e' s' y => ?_⟩⟩
    · show ((b : Int) - (a : Int)).toNat ≤ _
      rw [List.length_map, List.length_range]; omega
    · rw [List.length_map, List.length_range] at lt
      show i < ((b : Int) - (a : Int)).toNat
      omega
    · obtain ⟨rfl, rfl⟩ := y
      rw [List.getElem?_map] at hi
      obtain ⟨j, hj, rfl⟩ := Option.map_eq_some_iff.mp hi
      obtain ⟨lt, ej⟩ := List.getElem?_eq_some_iff.mp hj
      rw [List.getElem_range] at ej
      subst ej
      rw [← Int.natCast_add]
      exact ⟨D', Fw.refl s', .int _⟩
theorem e_asg (S : LB K c δ D H σ) (h : ED K c te δ d) (k : ∀ σ2 D2 H2, Fw c D H D2 H2 → LB K c (δ.set i (.dat d)) D2 H2 σ2 → En.nx σ2 H2) : tAsg te (gName i) En σ H :=
  h σ D H S.sb S.se _ fun v D2 H2 f dv => k _ D2 H2 f ((S.fw f).dat dv)
/-- a list that is filled, taken as data for good -/
theorem Acc.lbGive {p : Addr} (S : LB K c δ D H σ) (hi : δ[i]? = some (.raw (.ref p))) (A : Acc K D H p ds) (nb : c.bag ≠ some p) : ∃ D2, LB K c (δ.set i (.dat (.list ds))) D2 H σ ∧ ∀ D0 H0, Fw c D0 H0 D H → Fr c H0 p → Fw c D0 H0 D2 H := by
  obtain ⟨_, _, L⟩ := Acc.lb S hi A nb
  exact ⟨_, L, fun D0 H0 f fr => f.give fr A.1 A.2.choose_spec.1 nb⟩
/-- the same beside another list that is filled -/
theorem Acc.lbGive2 {p q : Addr} {es : List PyData} (S : LB K c δ D H σ) (hi : δ[i]? = some (.raw (.ref p))) (A : Acc K D H p ds) (nb : c.bag ≠ some p) (B : Acc K D H q es) (ne : q ≠ p) :
    ∃ D2, LB K c (δ.set i (.dat (.list ds))) D2 H σ ∧ Acc K D2 H q es ∧ ∀ D0 H0, Fw c D0 H0 D H → Fr c H0 p → Fw c D0 H0 D2 H := by
  obtain ⟨_, _, L⟩ := Acc.lb S hi A nb
  refine ⟨_, L, ?_, fun D0 H0 f fr => f.give fr A.1 A.2.choose_spec.1 nb⟩
  obtain ⟨n, xs, h, d⟩ := B
  exact ⟨by rw [upd_ne ne]; exact n, xs, h, dqa_ex (Ex.new A.1) _ _ d⟩
end
abbrev tupN (l : List Nat) : PyData := .tuple (l.map di)
abbrev grpD (G : List (List Nat)) : PyData := .list (G.map tupN)
def plM (G : List (List Nat)) (x : Nat) : List Nat := (List.range G.length).filter fun i => (G.getD i []).contains x
def sbM (G : List (List Nat)) (ws : List Nat) : Bool := ws.any fun x => (plM G x).isEmpty
/-! a plan -/
structure Pl where
  pl : List Nat
  fa : List Nat
  le : List Nat
def endsM (G : List (List Nat)) (a b : Nat) (le : List Nat) : List Nat := le.filter fun x => (G.getD a []).contains x && !(G.getD b []).contains x
def plStep (G : List (List Nat)) (first : Nat) (p : Pl) (s : Nat) : Pl :=
  match endsM G ((first + s) % G.length) (((first + s) % G.length + 1) % G.length) p.le with
  | [] => p
  | y :: _ => ⟨p.pl ++ [(first + s) % G.length], p.fa ++ [y], p.le.filter fun x => !(G.getD ((first + s) % G.length) []).contains x⟩
def plFold (G : List (List Nat)) (ws : List Nat) (first k : Nat) : Pl := ((List.range k).map (1 + ·)).foldl (plStep G first) ⟨[first], [], ws.filter fun x => !(G.getD first []).contains x⟩
def planP (G : List (List Nat)) (ws : List Nat) (first : Nat) : Pl := plFold G ws first (G.length - 1)
def planM (G : List (List Nat)) (ws : List Nat) (first : Nat) : List Nat × List Nat := (srt (planP G ws first).pl, srt (planP G ws first).fa)
def planD (p : List Nat × List Nat) : PyData := .tuple [.list (p.1.map di), tupN p.2]
theorem plFold_succ (G : List (List Nat)) (ws : List Nat) (first k : Nat) : plFold G ws first (k + 1) = plStep G first (plFold G ws first k) (1 + k) := by
  unfold plFold
  rw [List.range_succ, List.map_append, List.foldl_append]
  rfl
theorem plStep_len (G : List (List Nat)) (first : Nat) (p : Pl) (s : Nat) : (plStep G first p s).pl.length ≤ p.pl.length + 1 ∧ (plStep G first p s).fa.length ≤ p.fa.length + 1 ∧ (plStep G first p s).le.length ≤ p.le.length := by
  unfold plStep
  split
  · exact ⟨Nat.le_succ _, Nat.le_succ _, Nat.le_refl _⟩
  · refine ⟨?_, ?_, List.length_filter_le _ _⟩ <;> simp
theorem plFold_len (G : List (List Nat)) (ws : List Nat) (first : Nat) : ∀ k, (plFold G ws first k).pl.length ≤ k + 1 ∧ (plFold G ws first k).fa.length ≤ k ∧ (plFold G ws first k).le.length ≤ ws.length
  | 0 => ⟨Nat.le_refl _, Nat.le_refl _, List.length_filter_le _ _⟩
  | k + 1 => by
    have h := plFold_len G ws first k
    have s := plStep_len G first (plFold G ws first k) (1 + k)
    rw [plFold_succ]
    omega
def plansM (G : List (List Nat)) (ws : List Nat) : List (List Nat × List Nat) := (plM G (ws.headD 0)).map (planM G ws)
section
variable {P : Program} {w : World} {K : PySem.W.Frag} {mg : Str → Option Value} {base : Heap}
def spGroupsOf (K : PySem.W.Frag) : Sp := spF K (fun L : List Row => [.list (L.map rowD)]) (fun L => L.length ≤ 1000) fun L => grpD (L.map (·.2.2))
def spPlacesOf (K : PySem.W.Frag) : Sp := spF K (fun x : List (List Nat) × Nat => [grpD x.1, di x.2]) (fun x => x.1.length ≤ 1000) fun x => .list ((plM x.1 x.2).map di)
def spSomeBarred (K : PySem.W.Frag) : Sp := spF K (fun x : List (List Nat) × List Nat => [grpD x.1, tupN x.2]) (fun x => x.1.length ≤ 1000 ∧ x.2.length ≤ 1000) fun x => .bool (sbM x.1 x.2)
def spPlan (K : PySem.W.Frag) : Sp := spF K (fun x : List (List Nat) × List Nat × Nat => [grpD x.1, tupN x.2.1, di x.2.2]) (fun x => x.1.length ≤ 61 ∧ x.2.1.length ≤ 1000 ∧ x.2.2 < x.1.length) fun x => planD (planM x.1 x.2.1 x.2.2)
theorem ed_grp {c : Md} {δ : List Sl} {G : List (List Nat)} {tg ti : TE} {i : Nat} (hg : ED K c tg δ (grpD G)) (hi : ED K c ti δ (di i)) (lt : i < G.length) : ED K c (tOp (rIxL K) tg ti) δ (tupN (G.getD i [])) :=
  ed_op hg hi (r_ixL (i := i) (by rw [List.getElem?_map, List.getD_eq_getElem?_getD, List.getElem?_eq_getElem lt]; rfl))
theorem ed_modn {c : Md} {δ : List Sl} {ta tb : TE} {a b : Nat} (ha : ED K c ta δ (di a)) (hb : ED K c tb δ (di b)) (h0 : 0 < b) : ED K c (tOp (rI (fun _ j => 0 < j) fun i j => .int (i % j)) ta tb) δ (di (a % b)) :=
  (ed_op ha hb (r_Ii (by show (0 : Int) < (b : Int); omega))).is rfl
theorem ed_addn {c : Md} {δ : List Sl} {ta tb : TE} {a b : Nat} (ha : ED K c ta δ (di a)) (hb : ED K c tb δ (di b)) : ED K c (tOp (rI0 fun i j => .int (i + j)) ta tb) δ (di (a + b)) := (ed_op ha hb r_I0i).is rfl
def spPlans (K : PySem.W.Frag) : Sp := spF K (fun x : List (List Nat) × List Nat => [grpD x.1, tupN x.2]) (fun x => x.1.length ≤ 61 ∧ x.2.length ≤ 1000 ∧ x.2 ≠ []) fun x => .list ((plansM x.1 x.2).map planD)
end
end Nr

namespace Nr
open PySem PySem.Spec PyProof.Rows L2 Evl
abbrev Wz.G (x : Wz) : List (List Nat) := x.harm.map (·.2.2)
def bestM (G : List (List Nat)) (ws : List Nat) : List Nat := ((minBy (fun p => p.1.length) (plansM G ws)).getD ([], [])).1
def rowAt (L : List Row) (i : Nat) : Row := L.getD i ((0, 1), (0, 1), [])
def fewM (x : Wz) : Option (List (Nat × Nat)) := if sbM x.G x.ws then none else if x.ws = [] then some [] else some ((bestM x.G x.ws).map fun i => (rowAt x.harm i).1)
def optD (o : Option (List (Nat × Nat))) : PyData := match o with | none => .none | some l => .tuple (l.map td)
def paperM (x : Wz) : PyData := if sbM x.G x.ws then .none else if x.ws = [] then .tuple [] else .tuple [di (x.ws.headD 0), .tuple ((plansM x.G x.ws).map fun p => tupN p.2)]
/-! places -/
theorem plStep_in {G : List (List Nat)} {first : Nat} {p : Pl} {s : Nat} (h0 : 0 < G.length) (h : ∀ i ∈ p.pl, i < G.length) : ∀ i ∈ (plStep G first p s).pl, i < G.length := by
  unfold plStep
  split
  · exact h
  · intro i hi
    rcases List.mem_append.mp hi with k | k
    · exact h i k
    · rw [List.mem_singleton.mp k]
      exact Nat.mod_lt _ h0
theorem plFold_in {G : List (List Nat)} {ws : List Nat} {first : Nat} (hf : first < G.length) : ∀ k, ∀ i ∈ (plFold G ws first k).pl, i < G.length
  | 0 => fun i hi => by
    rw [List.mem_singleton.mp hi]
    exact hf
  | k + 1 => by
    rw [plFold_succ]
    exact plStep_in (by omega) (plFold_in hf k)
theorem plM_lt {G : List (List Nat)} {x i : Nat} (h : i ∈ plM G x) : i < G.length := List.mem_range.mp (List.mem_filter.mp h).1
theorem best_some {G : List (List Nat)} {ws : List Nat} (hb : sbM G ws = false) (hw : ws ≠ []) : ∃ m, minBy (fun p : List Nat × List Nat => p.1.length) (plansM G ws) = some m ∧ m ∈ plansM G ws := by
  cases ws with
  | nil => exact absurd rfl hw
  | cons y ys =>
    unfold sbM at hb
    rw [List.any_cons, Bool.or_eq_false_iff] at hb
    have hp : plansM G (y :: ys) ≠ [] := by
      unfold plansM
      intro z
      rw [List.map_eq_nil_iff] at z
      have := hb.1
      rw [show plM G y = [] from z] at this
      cases this
    cases hq : plansM G (y :: ys) with
    | nil => exact absurd hq hp
    | cons a l => exact ⟨_, rfl, (minBy_is _ _ _ (show minBy (fun p : List Nat × List Nat => p.1.length) (a :: l) = some _ from rfl)).1⟩
theorem best_in {G : List (List Nat)} {ws : List Nat} (hb : sbM G ws = false) (hw : ws ≠ []) : ∀ i ∈ bestM G ws, i < G.length := by
  obtain ⟨m, h1, h2⟩ := best_some hb hw
  unfold bestM
  rw [h1]
  obtain ⟨f, hf, rfl⟩ := List.mem_map.mp h2
  intro i hi
  exact plFold_in (plM_lt hf) _ i ((srt_perm _).mem_iff.mp hi)
theorem best_len {G : List (List Nat)} {ws : List Nat} (hb : sbM G ws = false) (hw : ws ≠ []) : (bestM G ws).length ≤ G.length := by
  obtain ⟨m, h1, h2⟩ := best_some hb hw
  unfold bestM
  rw [h1]
  obtain ⟨f, hf, rfl⟩ := List.mem_map.mp h2
  have := plFold_len G ws f (G.length - 1)
  have lt := plM_lt hf
  show (srt (plFold G ws f (G.length - 1)).pl).length ≤ _
  rw [srt_len]
  omega
theorem plans_len (G : List (List Nat)) (ws : List Nat) : (plansM G ws).length ≤ G.length := by
  unfold plansM
  rw [List.length_map]
  have := List.length_filter_le (fun i => (G.getD i []).contains (ws.headD 0)) (List.range G.length)
  rw [List.length_range] at this
  exact this
section
variable {P : Program} {w : World} {K : PySem.W.Frag} {mg : Str → Option Value} {base : Heap}
theorem G_len {x : Wz} (ok : x.ok) : x.G.length ≤ 61 := by
  show (x.harm.map (·.2.2)).length ≤ 61
  rw [List.length_map]
  exact harm_len ok.n ok.g ok.g2 ok.h
def spFewest (K : PySem.W.Frag) : Sp := spF K Wz.args Wz.ok fun x => optD (fewM x)
end
end Nr
namespace Nr
open PySem PySem.Spec PyProof.Rows L2 Evl
/-! zip of two, each a list or a tuple (k: a tuple) -/
def SqX (K : PySem.W.Frag) (k : Bool) (H : Hp) (a : Addr) (xs : List V) : Prop := if k = true then SqT K H a xs else SqL K H a xs
def ItS (k : Bool) (h : Heap) (it a : Addr) (i : Nat) : Prop := if k = true then h.IsTupleIter it a i else h.IsListIter it a i
def IsX (k : Bool) (h : Heap) (a : Addr) (its : Array Value) : Prop := if k = true then h.IsTuple a its else h.IsList a its
theorem ItS.obj {k : Bool} {h : Heap} {it a : Addr} {i : Nat} (s : ItS k h it a i) : ∃ o, h.get? it = some o ∧ ∀ v, o.data ≠ .cell v := by
  cases k with
  | true => obtain ⟨o, e, _, d⟩ := (show h.IsTupleIter it a i from s); exact ⟨o, e, fun v q => by rw [d] at q; cases q⟩
  | false => obtain ⟨o, e, _, d⟩ := (show h.IsListIter it a i from s); exact ⟨o, e, fun v q => by rw [d] at q; cases q⟩
theorem ItS.at {k : Bool} {h h' : Heap} {it a : Addr} {i : Nat} (s : ItS k h it a i) (hk : ∀ o, h.get? it = some o → h'.get? it = some o) : ItS k h' it a i := by
  cases k with
  | true => exact Heap.IsTupleIter.at (show h.IsTupleIter it a i from s) hk
  | false => exact Heap.IsListIter.at (show h.IsListIter it a i from s) hk
theorem drawsX {prog : Program} {w : World} {A : Around} (k : Bool) (hh : A.handled = none) (it a : Addr) (hne : a ≠ it) (items : Array Value) : Draws prog w A it [it, a] items.size (fun i v => items[i]? = some v) (fun i h => ItS k h it a i ∧ IsX k h a items) := by
  cases k with
  | true => exact Draws.tuple hh it a hne items
  | false => exact Draws.list hh it a hne items
theorem inv_seqX {X : Cx} {pins : List (Addr × Obj)} {σ : L2.St} {H : Hp} {s : Shared} {k : Bool} {a : Addr} {xs : List V} (I : Inv X pins σ H s) (h : SqX X.K k H a xs) : ∃ its : List Value, Vals xs its ∧ IsX k s.heap a its.toArray := by
  cases k with
  | true => obtain ⟨its, rv, p, _⟩ := I.tuple h; exact ⟨its, rv, p⟩
  | false => obtain ⟨its, rv, p, _⟩ := I.list h; exact ⟨its, rv, p.isList⟩
theorem inv_injX {X : Cx} {pins : List (Addr × Obj)} {σ : L2.St} {H : Hp} {s : Shared} {k : Bool} {a : Addr} {xs ys : List V} (I : Inv X pins σ H s) (h : SqX X.K k H a xs) (h' : SqX X.K k H a ys) : xs = ys := by
  cases k with
  | true => exact I.tuple_inj h h'
  | false => exact I.list_inj h h'
def ItzX (K : PySem.W.Frag) (k l : Bool) (a b : Addr) : It :=
  ⟨fun i H => ∃ (xs ys : List V) (x y : V), SqX K k H a xs ∧ SqX K l H b ys ∧ xs[i]? = some x ∧ ys[i]? = some y,
    fun i H v H' => ∃ T x y, v = .ref T ∧ H T = none ∧ H' = upd H T (.tup [x, y]) ∧ (∀ xs, SqX K k H a xs → xs[i]? = some x) ∧ ∀ ys, SqX K l H b ys → ys[i]? = some y,
    fun i H => ∃ xs ys : List V, SqX K k H a xs ∧ SqX K l H b ys ∧ i = min xs.length ys.length⟩
theorem turn_zipX {P : Program} {w : World} {K : PySem.W.Frag} {elts : List Expr} {kk : Nat} {tpos : Pos} {k l : Bool} {a b z TI TO i1 i2 : Addr} (D : ZipSep2 z TI TO i1 i2 [i1, a] [i2, b]) (n1 : a ≠ i1) (n2 : b ≠ i2) :
    Turn P w K (.Tuple elts kk tpos) (ItzX K k l a b) [z, TI, TO, i1, i2] z (fun i h => IsZip h z TI TO .none ∧ IsTupOf2 h TI (.ref i1) (.ref i2) ∧ (∃ x y, IsTupOf2 h TO x y) ∧ ItS k h i1 a i ∧ ItS l h i2 b i) where
  mem := by simp
  obj := fun i h st c hc => by
    obtain ⟨hz, hTI, ⟨x, y, hTO⟩, h1, h2⟩ := st
    have e' : c = z ∨ c = TI ∨ c = TO ∨ c = i1 ∨ c = i2 := by simpa using hc
    rcases e' with q | q | q | q | q
    · rw [q]; exact ⟨_, hz, fun v q => nomatch q⟩
    · rw [q]; exact ⟨_, hTI, fun v q => nomatch q⟩
    · rw [q]; exact ⟨_, hTO, fun v q => nomatch q⟩
    · rw [q]; exact h1.obj
    · rw [q]; exact h2.obj
  keep := fun i h h' st k => by
    obtain ⟨hz, hTI, ⟨x, y, hTO⟩, h1, h2⟩ := st
    exact ⟨k z (by simp) _ hz, k TI (by simp) _ hTI, ⟨x, y, k TO (by simp) _ hTO⟩, h1.at fun o q => k i1 (by simp) o q, h2.at fun o q => k i2 (by simp) o q⟩
  item := by
    intro X hP hw hK hc i pins s σ H E I hf st hg
    subst hP hw hK
    obtain ⟨hz, hTI, hTO, h1, h2⟩ := st
    obtain ⟨xs, ys, x, y, hqx, hqy, hx, hy⟩ := hg
    obtain ⟨its, rv, p⟩ := inv_seqX I hqx
    obtain ⟨its2, rv2, p2⟩ := inv_seqX I hqy
    obtain ⟨ux, hux, rux⟩ := rv.get hx
    obtain ⟨uy, huy, ruy⟩ := rv2.get hy
    have hh : X.A.in1.handled = none := I.ok.hd hc
    have W := GoesN.zip2 (prog := X.prog) (w := X.w) (A := X.A) (elts := elts) (x1 := kk) (pos := tpos) D (drawsX k hh i1 a n1 its.toArray) (drawsX l hh i2 b n2 its2.toArray)
    have l1 := (List.getElem?_eq_some_iff.mp hux).1
    have l2 := (List.getElem?_eq_some_iff.mp huy).1
    refine W.goes i s _ E (by simp only [List.size_toArray]; omega) ⟨hz, hTI, hTO, ⟨h1, p⟩, ⟨h2, p2⟩⟩ fun v h' tk hY st' hk _ => ?_
    obtain ⟨T, x', y', rfl, hT, px, py, hTup⟩ := hY
    obtain ⟨z', TI', TO', ⟨h1', _⟩, ⟨h2', _⟩⟩ := st'
    have ex : x' = ux := by
      have : its.toArray[i]? = some ux := by simpa using hux
      rw [this] at px
      exact (Option.some.inj px).symm
    have ey : y' = uy := by
      have : its2.toArray[i]? = some uy := by simpa using huy
      rw [this] at py
      exact (Option.some.inj py).symm
    subst ex ey
    have new : ObjOk X.prog X.w (upd H T (.tup [x, y])) h' T (.tup [x, y]) := ⟨by show 2 ≤ sizeLine; decide, [x', y'], .cons rux (.cons ruy .nil), hTup⟩
    have I1 : Inv X pins σ (upd H T (.tup [x, y])) { s with heap := h', toks := tk } := I.turnedNew (ch := [z, TI, TO, i1, i2]) (fun d o hb q => hk d o (fun hm => hb (by
      have : d = z ∨ d = TO ∨ d = i1 ∨ d = i2 := by simpa using hm
      rcases this with e | e | e | e <;> simp [e])) q) hf hT new
    refine ⟨.ref T, _, I1, rfl, ⟨T, x, y, rfl, I.hok.fresh hT, rfl, fun l hl => by rw [inv_injX I hl hqx]; exact hx, fun l hl => by rw [inv_injX I hl hqy]; exact hy⟩, ⟨z', TI', TO', h1', h2'⟩, fun d hd => ?_⟩
    have hlt : d < s.heap.objs.size := by
      have e' : d = z ∨ d = TI ∨ d = TO ∨ d = i1 ∨ d = i2 := by simpa using hd
      rcases e' with q | q | q | q | q
      · rw [q]; exact Heap.lt_size hz
      · rw [q]; exact Heap.lt_size hTI
      · obtain ⟨_, _, e⟩ := hTO
        rw [q]; exact Heap.lt_size e
      · obtain ⟨_, e, _⟩ := h1.obj
        rw [q]; exact Heap.lt_size e
      · obtain ⟨_, e, _⟩ := h2.obj
        rw [q]; exact Heap.lt_size e
    rw [upd_ne (Nat.ne_of_lt (Nat.lt_of_lt_of_le hlt hT))]
    exact (hf d hd).1
  done := by
    intro X hP hw hK hc i pins s σ H E I hf st hg
    subst hP hw hK
    obtain ⟨hz, hTI, hTO, h1, h2⟩ := st
    obtain ⟨xs, ys, hqx, hqy, rfl⟩ := hg
    obtain ⟨its, rv, p⟩ := inv_seqX I hqx
    obtain ⟨its2, rv2, p2⟩ := inv_seqX I hqy
    have hh : X.A.in1.handled = none := I.ok.hd hc
    have W := GoesN.zip2 (prog := X.prog) (w := X.w) (A := X.A) (elts := elts) (x1 := kk) (pos := tpos) D (drawsX k hh i1 a n1 its.toArray) (drawsX l hh i2 b n2 its2.toArray)
    have el : min xs.length ys.length = min its.toArray.size its2.toArray.size := by
      rw [rv.length, rv2.length]
      simp only [List.size_toArray]
    rw [el] at h1 h2
    refine W.stops s _ E ⟨hz, hTI, hTO, ⟨h1, p⟩, ⟨h2, p2⟩⟩ fun h' tk hk _ => I.turnedL (t' := tk) (ch := [z, TI, TO, i1, i2]) (fun d o hb q => hk d o (fun hm => hb (by
      have : d = z ∨ d = TO ∨ d = i1 ∨ d = i2 := by simpa using hm
      rcases this with e | e | e | e <;> simp [e])) q) hf
  self := fun A i s Q E st h => wpAny_pyIter_zip st.1 h
def iZipX (K : PySem.W.Frag) (k l : Bool) (ta : TA) : TI := fun σ H R => ta σ H fun vs H1 => ∃ a b xs ys, vs = [.ref a, .ref b] ∧ SqX K k H1 a xs ∧ SqX K l H1 b ys ∧ R (ItzX K k l a b) H1
def itO (k : Bool) (a : Addr) : Obj := if k = true then { cls := .type "tuple_iterator", data := .fields #[.ref a, .int 0 0] } else { cls := .type "list_iterator", data := .fields #[.ref a, .int 0 0] }
theorem beginsX (k : Bool) (a : Addr) (items : Array Value) : Begins (.ref a) (itO k a) fun h => IsX k h a items := by
  cases k with
  | true => exact begins_tuple a items
  | false => exact begins_list a items
theorem itS_0 {k : Bool} {h : Heap} {it a : Addr} (e : h.get? it = some (itO k a)) : ItS k h it a 0 := by
  cases k with
  | true => exact ⟨_, e, rfl, rfl⟩
  | false => exact ⟨_, e, rfl, rfl⟩
theorem isX_lt {k : Bool} {h : Heap} {a : Addr} {its : Array Value} (p : IsX k h a its) : a < h.objs.size := by
  cases k with
  | true => obtain ⟨o, ho, _⟩ := (show h.IsTuple a its from p); exact Heap.lt_size ho
  | false => obtain ⟨o, ho, _⟩ := (show h.IsList a its from p); exact Heap.lt_size ho
theorem pi_zipX (k l : Bool) {X : Cx} {e e2 : Expr} {ta : TA} {p pos tpos : Pos} {elts : List Expr} {kk : Nat} (hg : Gl X "zip") (hm : X.mg "zip" = none) (ha : PA X [e, e2] ta)
    (hs : starEach [e, e2] X.env = (false, eval e X.env) :: starEach [e2] X.env := by rfl) (hpl : (backTo pos (starEach [e2] X.env)).any (·.1) = false := by rfl) :
    PI X (.Tuple elts kk tpos) (.Call (.Name "zip" p) [e, e2] [] pos) (iZipX X.K k l ta) := by
  refine ⟨fun pins s σ H R I h => ?_⟩
  refine Call_ (ld_blt I hg hm PyProof.Rows.boot_zip (PyProof.Rows.callWith_type1 (thn (ha.run pos pins s σ H _ I h) fun us s1 ⟨vs, H1, I1, r1, q1⟩ => ?_) hs hpl))
  obtain ⟨a, b, xs, ys, ex, hqx, hqy, q⟩ := q1
  subst ex
  cases r1 with
  | cons r rr =>
  cases rr with
  | cons r' rr =>
  cases rr
  cases r
  cases r'
  obtain ⟨its, rv, p1⟩ := inv_seqX I1 hqx
  obtain ⟨its2, rv2, p2⟩ := inv_seqX I1 hqy
  have la := isX_lt p1
  have lb := isX_lt p2
  have fresh5 : ∀ d, d ∈ [s1.heap.objs.size + 4, s1.heap.objs.size + 2, s1.heap.objs.size + 3, s1.heap.objs.size, s1.heap.objs.size + 1] → FpOk X pins H1 d := fun d hdm => by
    have hle : s1.heap.objs.size ≤ d := by
      simp only [List.mem_cons, List.not_mem_nil, or_false] at hdm
      rcases hdm with z | z | z | z | z
      · rw [z]; exact Nat.le_add_right _ _
      · rw [z]; exact Nat.le_add_right _ _
      · rw [z]; exact Nat.le_add_right _ _
      · rw [z]; exact Nat.le_refl _
      · rw [z]; exact Nat.le_add_right _ _
    exact I1.fpOk hle (I1.hok.fresh hle)
  refine zip_begins2 (beginsX k a its.toArray) (beginsX l b its2.toArray) p1 p2 fun h' hz hTI hTO h1 h2 hsz hk => wpAny_pyIter_zip hz ?_
  have I2 : Inv X pins σ H1 { s1 with heap := h' } := I1.kept (t' := s1.toks) hk
  refine ⟨s1.heap.objs.size + 4, [s1.heap.objs.size + 4, s1.heap.objs.size + 2, s1.heap.objs.size + 3, s1.heap.objs.size, s1.heap.objs.size + 1], _, _, H1, rfl, I2,
    turn_zipX (zip_sep2 (N := s1.heap.objs.size) (fp1 := [a]) (fp2 := [b]) ?_ ?_) (Nat.ne_of_lt la) (Nat.ne_of_lt (Nat.lt_succ_of_lt lb)), ⟨hz, hTI, ⟨_, _, hTO⟩, itS_0 h1, itS_0 h2⟩, fresh5, q⟩
  · intro d hd; rw [List.mem_singleton.mp hd]; exact la
  · intro d hd; rw [List.mem_singleton.mp hd]; exact lb
section
variable {K : PySem.W.Frag} {c : Md} {δ : List Sl} {tr : TA} {ds es : List PyData}
def seqD (k : Bool) (ds : List PyData) : PyData := if k = true then .tuple ds else .list ds
theorem dq_seq {k : Bool} {D : Hp} {v : V} (h : Dq K D v (seqD k ds)) : ∃ a xs, v = .ref a ∧ SqX K k D a xs ∧ DqAll K D xs ds := by
  cases k with
  | true => exact dq_tup h
  | false => obtain ⟨a, xs, e, h1, h2⟩ := dq_lst h; exact ⟨a, xs, e, sq_of h1, h2⟩
theorem ex_x {k : Bool} {D H : Hp} {a : Addr} {xs : List V} (e : Ex D H) (h : SqX K k D a xs) : SqX K k H a xs := by
  cases k with
  | true => exact ex_t e h
  | false => exact ex_l e h
theorem ei_zipX {k l : Bool} (h : EA K c tr δ [seqD k ds, seqD l es]) : EI K c (iZipX K k l tr) δ ((ds.zip es).map fun p => .tuple [p.1, p.2]) := fun σ D H s e R kk =>
  h σ D H s e _ fun vs D1 H1 f1 d1 => by
    cases d1 with
    | cons h1 h2 =>
    cases h2 with
    | cons h2 h3 =>
    cases h3
    obtain ⟨p, xs, rfl, hp, ha⟩ := dq_seq h1
    obtain ⟨p2, ys, rfl, hp2, hb⟩ := dq_seq h2
    refine ⟨p, p2, xs, ys, rfl, ex_x f1.sb.ex hp, ex_x f1.sb.ex hp2, kk _ D1 H1 f1 ⟨fun H' e' => ⟨xs, ys, ex_x e' hp, ex_x e' hp2, ?_⟩, fun i H' lt e' => ?_, fun i d D' H' x H2 hi e' s' y => ?_⟩⟩
    · rw [dqa_len ha, dqa_len hb, List.length_map, List.length_zip]
    · rw [List.length_map, List.length_zip] at lt
      have l1 : i < xs.length := by rw [dqa_len ha]; omega
      have l2 : i < ys.length := by rw [dqa_len hb]; omega
      exact ⟨xs, ys, xs[i], ys[i], ex_x e' hp, ex_x e' hp2, List.getElem?_eq_getElem l1, List.getElem?_eq_getElem l2⟩
    · obtain ⟨t, u, u2, rfl, ht, rfl, y, y2⟩ := y
      rw [List.getElem?_map] at hi
      obtain ⟨j, hj, rfl⟩ := Option.map_eq_some_iff.mp hi
      obtain ⟨j1, j2⟩ := List.getElem?_zip_eq_some.mp hj
      obtain ⟨v, h1, h2⟩ := dqa_get ha j1
      obtain ⟨v2, h1', h2'⟩ := dqa_get hb j2
      have e1 := y xs (ex_x s'.ex (ex_x e' hp))
      rw [h1] at e1
      have e1 := Option.some.inj e1
      subst e1
      have e2 := y2 ys (ex_x s'.ex (ex_x e' hp2))
      rw [h1'] at e2
      have e2 := Option.some.inj e2
      subst e2
      have f := Fw.alloc (o := .tup [v, v2]) s' ht trivial
      exact ⟨_, f, .tup (st_of upd_same) (.cons (dq_ex (e'.trans f.dx) _ _ h2) (.cons (dq_ex (e'.trans f.dx) _ _ h2') .nil))⟩
end
end Nr
namespace Nr
open PySem PySem.Spec PyProof.Rows L2 Evl

/-! zip of three tuples -/
def ItzT3 (K : PySem.W.Frag) (a b c : Addr) : It :=
  ⟨fun i H => ∃ (xs ys zs : List V) (x y z : V), SqT K H a xs ∧ SqT K H b ys ∧ SqT K H c zs ∧ xs[i]? = some x ∧ ys[i]? = some y ∧ zs[i]? = some z,
    fun i H v H' => ∃ T x y z, v = .ref T ∧ H T = none ∧ H' = upd H T (.tup [x, y, z]) ∧ (∀ xs, SqT K H a xs → xs[i]? = some x) ∧ (∀ ys, SqT K H b ys → ys[i]? = some y) ∧ ∀ zs, SqT K H c zs → zs[i]? = some z,
    fun i H => ∃ xs ys zs : List V, SqT K H a xs ∧ SqT K H b ys ∧ SqT K H c zs ∧ i = min (min xs.length ys.length) zs.length⟩
theorem turn_zipT3 {P : Program} {w : World} {K : PySem.W.Frag} {elts : List Expr} {kk : Nat} {tpos : Pos} {a b c z TI TO i1 i2 i3 : Addr} (D : ZipSep3 z TI TO i1 i2 i3 [i1, a] [i2, b] [i3, c]) (n1 : a ≠ i1) (n2 : b ≠ i2) (n3 : c ≠ i3) :
    Turn P w K (.Tuple elts kk tpos) (ItzT3 K a b c) [z, TI, TO, i1, i2, i3] z (fun i h => IsZip h z TI TO .none ∧ IsTupOf3 h TI (.ref i1) (.ref i2) (.ref i3) ∧ (∃ x y u, IsTupOf3 h TO x y u) ∧ h.IsTupleIter i1 a i ∧ h.IsTupleIter i2 b i ∧ h.IsTupleIter i3 c i) where
  mem := by simp
  obj := fun i h st c hc => by
    obtain ⟨hz, hTI, ⟨x, y, u, hTO⟩, ⟨o1, e1, _, d1⟩, ⟨o2, e2, _, d2⟩, ⟨o3, e3, _, d3⟩⟩ := st
    have e' : c = z ∨ c = TI ∨ c = TO ∨ c = i1 ∨ c = i2 ∨ c = i3 := by simpa using hc
    rcases e' with q | q | q | q | q | q
    · rw [q]; exact ⟨_, hz, fun v q => nomatch q⟩
    · rw [q]; exact ⟨_, hTI, fun v q => nomatch q⟩
    · rw [q]; exact ⟨_, hTO, fun v q => nomatch q⟩
    · rw [q]; exact ⟨o1, e1, fun v q => by rw [d1] at q; cases q⟩
    · rw [q]; exact ⟨o2, e2, fun v q => by rw [d2] at q; cases q⟩
    · rw [q]; exact ⟨o3, e3, fun v q => by rw [d3] at q; cases q⟩
  keep := fun i h h' st k => by
    obtain ⟨hz, hTI, ⟨x, y, u, hTO⟩, h1, h2, h3⟩ := st
    exact ⟨k z (by simp) _ hz, k TI (by simp) _ hTI, ⟨x, y, u, k TO (by simp) _ hTO⟩, h1.at fun o q => k i1 (by simp) o q, h2.at fun o q => k i2 (by simp) o q, h3.at fun o q => k i3 (by simp) o q⟩
  item := by
    intro X hP hw hK hc i pins s σ H E I hf st hg
    subst hP hw hK
    obtain ⟨hz, hTI, hTO, h1, h2, h3⟩ := st
    obtain ⟨xs, ys, zs, x, y, u, hqx, hqy, hqz, hx, hy, hu⟩ := hg
    obtain ⟨its, rv, p, _⟩ := I.tuple hqx
    obtain ⟨its2, rv2, p2, _⟩ := I.tuple hqy
    obtain ⟨its3, rv3, p3, _⟩ := I.tuple hqz
    obtain ⟨ux, hux, rux⟩ := rv.get hx
    obtain ⟨uy, huy, ruy⟩ := rv2.get hy
    obtain ⟨uu, huu, ruu⟩ := rv3.get hu
    have hh : X.A.in1.handled = none := I.ok.hd hc
    have W := GoesN.zip3 (prog := X.prog) (w := X.w) (A := X.A) (elts := elts) (x1 := kk) (pos := tpos) D (Draws.tuple hh i1 a n1 its.toArray) (Draws.tuple hh i2 b n2 its2.toArray) (Draws.tuple hh i3 c n3 its3.toArray)
    have l1 := (List.getElem?_eq_some_iff.mp hux).1
    have l2 := (List.getElem?_eq_some_iff.mp huy).1
    have l3 := (List.getElem?_eq_some_iff.mp huu).1
    refine W.goes i s _ E (by simp only [List.size_toArray]; omega) ⟨hz, hTI, hTO, ⟨h1, p⟩, ⟨h2, p2⟩, ⟨h3, p3⟩⟩ fun v h' tk hY st' hk _ => ?_
    obtain ⟨T, x', y', u', rfl, hT, px, py, pu, hTup⟩ := hY
    obtain ⟨z', TI', TO', ⟨h1', _⟩, ⟨h2', _⟩, ⟨h3', _⟩⟩ := st'
    have ex : x' = ux := by
      have : its.toArray[i]? = some ux := by simpa using hux
      rw [this] at px
      exact (Option.some.inj px).symm
    have ey : y' = uy := by
      have : its2.toArray[i]? = some uy := by simpa using huy
      rw [this] at py
      exact (Option.some.inj py).symm
    have eu : u' = uu := by
      have : its3.toArray[i]? = some uu := by simpa using huu
      rw [this] at pu
      exact (Option.some.inj pu).symm
    subst ex ey eu
    have new : ObjOk X.prog X.w (upd H T (.tup [x, y, u])) h' T (.tup [x, y, u]) := ⟨by show 3 ≤ sizeLine; decide, [x', y', u'], .cons rux (.cons ruy (.cons ruu .nil)), hTup⟩
    have I1 : Inv X pins σ (upd H T (.tup [x, y, u])) { s with heap := h', toks := tk } := I.turnedNew (ch := [z, TI, TO, i1, i2, i3]) (fun d o hb q => hk d o (fun hm => hb (by
      have : d = z ∨ d = TO ∨ d = i1 ∨ d = i2 ∨ d = i3 := by simpa using hm
      rcases this with e | e | e | e | e <;> simp [e])) q) hf hT new
    refine ⟨.ref T, _, I1, rfl, ⟨T, x, y, u, rfl, I.hok.fresh hT, rfl, fun l hl => by rw [I.tuple_inj hl hqx]; exact hx, fun l hl => by rw [I.tuple_inj hl hqy]; exact hy, fun l hl => by rw [I.tuple_inj hl hqz]; exact hu⟩, ⟨z', TI', TO', h1', h2', h3'⟩, fun d hd => ?_⟩
    have hlt : d < s.heap.objs.size := by
      have e' : d = z ∨ d = TI ∨ d = TO ∨ d = i1 ∨ d = i2 ∨ d = i3 := by simpa using hd
      rcases e' with q | q | q | q | q | q
      · rw [q]; exact Heap.lt_size hz
      · rw [q]; exact Heap.lt_size hTI
      · obtain ⟨_, _, _, e⟩ := hTO
        rw [q]; exact Heap.lt_size e
      · obtain ⟨_, e, _⟩ := h1
        rw [q]; exact Heap.lt_size e
      · obtain ⟨_, e, _⟩ := h2
        rw [q]; exact Heap.lt_size e
      · obtain ⟨_, e, _⟩ := h3
        rw [q]; exact Heap.lt_size e
    rw [upd_ne (Nat.ne_of_lt (Nat.lt_of_lt_of_le hlt hT))]
    exact (hf d hd).1
  done := by
    intro X hP hw hK hc i pins s σ H E I hf st hg
    subst hP hw hK
    obtain ⟨hz, hTI, hTO, h1, h2, h3⟩ := st
    obtain ⟨xs, ys, zs, hqx, hqy, hqz, rfl⟩ := hg
    obtain ⟨its, rv, p, _⟩ := I.tuple hqx
    obtain ⟨its2, rv2, p2, _⟩ := I.tuple hqy
    obtain ⟨its3, rv3, p3, _⟩ := I.tuple hqz
    have hh : X.A.in1.handled = none := I.ok.hd hc
    have W := GoesN.zip3 (prog := X.prog) (w := X.w) (A := X.A) (elts := elts) (x1 := kk) (pos := tpos) D (Draws.tuple hh i1 a n1 its.toArray) (Draws.tuple hh i2 b n2 its2.toArray) (Draws.tuple hh i3 c n3 its3.toArray)
    have el : min (min xs.length ys.length) zs.length = min (min its.toArray.size its2.toArray.size) its3.toArray.size := by
      rw [rv.length, rv2.length, rv3.length]
      simp only [List.size_toArray]
    rw [el] at h1 h2 h3
    refine W.stops s _ E ⟨hz, hTI, hTO, ⟨h1, p⟩, ⟨h2, p2⟩, ⟨h3, p3⟩⟩ fun h' tk hk _ => I.turnedL (t' := tk) (ch := [z, TI, TO, i1, i2, i3]) (fun d o hb q => hk d o (fun hm => hb (by
      have : d = z ∨ d = TO ∨ d = i1 ∨ d = i2 ∨ d = i3 := by simpa using hm
      rcases this with e | e | e | e | e <;> simp [e])) q) hf
  self := fun A i s Q E st h => wpAny_pyIter_zip st.1 h

def iZip3 (K : PySem.W.Frag) (ta : TA) : TI := fun σ H R => ta σ H fun vs H1 => ∃ a b c xs ys zs, vs = [.ref a, .ref b, .ref c] ∧ SqT K H1 a xs ∧ SqT K H1 b ys ∧ SqT K H1 c zs ∧ R (ItzT3 K a b c) H1
theorem pi_zip3 {X : Cx} {e e2 e3 : Expr} {ta : TA} {p pos tpos : Pos} {elts : List Expr} {kk : Nat} (hg : Gl X "zip") (hm : X.mg "zip" = none) (ha : PA X [e, e2, e3] ta)
    (hs : starEach [e, e2, e3] X.env = (false, eval e X.env) :: starEach [e2, e3] X.env := by rfl) (hpl : (backTo pos (starEach [e2, e3] X.env)).any (·.1) = false := by rfl) :
    PI X (.Tuple elts kk tpos) (.Call (.Name "zip" p) [e, e2, e3] [] pos) (iZip3 X.K ta) := by
  refine ⟨fun pins s σ H R I h => ?_⟩
  refine Call_ (ld_blt I hg hm PyProof.Rows.boot_zip (PyProof.Rows.callWith_type1 (thn (ha.run pos pins s σ H _ I h) fun us s1 ⟨vs, H1, I1, r1, q1⟩ => ?_) hs hpl))
  obtain ⟨a, b, c, xs, ys, zs, ex, hqx, hqy, hqz, q⟩ := q1
  subst ex
  cases r1 with
  | cons r rr =>
  cases rr with
  | cons r' rr =>
  cases rr with
  | cons r'' rr =>
  cases rr
  cases r
  cases r'
  cases r''
  obtain ⟨its, rv, p1, _⟩ := I1.tuple hqx
  obtain ⟨its2, rv2, p2, _⟩ := I1.tuple hqy
  obtain ⟨its3, rv3, p3, _⟩ := I1.tuple hqz
  obtain ⟨o1, ho1, _⟩ := id p1
  obtain ⟨o2, ho2, _⟩ := id p2
  obtain ⟨o3, ho3, _⟩ := id p3
  have la := Heap.lt_size ho1
  have lb := Heap.lt_size ho2
  have lc := Heap.lt_size ho3
  have fresh6 : ∀ d, d ∈ [s1.heap.objs.size + 5, s1.heap.objs.size + 3, s1.heap.objs.size + 4, s1.heap.objs.size, s1.heap.objs.size + 1, s1.heap.objs.size + 2] → FpOk X pins H1 d := fun d hdm => by
    have hle : s1.heap.objs.size ≤ d := by
      simp only [List.mem_cons, List.not_mem_nil, or_false] at hdm
      rcases hdm with z | z | z | z | z | z
      · rw [z]; exact Nat.le_add_right _ _
      · rw [z]; exact Nat.le_add_right _ _
      · rw [z]; exact Nat.le_add_right _ _
      · rw [z]; exact Nat.le_refl _
      · rw [z]; exact Nat.le_add_right _ _
      · rw [z]; exact Nat.le_add_right _ _
    exact I1.fpOk hle (I1.hok.fresh hle)
  refine zip_begins3 (begins_tuple a its.toArray) (begins_tuple b its2.toArray) (begins_tuple c its3.toArray) p1 p2 p3 fun h' hz hTI hTO h1 h2 h3 hsz hk => wpAny_pyIter_zip hz ?_
  have I2 : Inv X pins σ H1 { s1 with heap := h' } := I1.kept (t' := s1.toks) hk
  refine ⟨s1.heap.objs.size + 5, [s1.heap.objs.size + 5, s1.heap.objs.size + 3, s1.heap.objs.size + 4, s1.heap.objs.size, s1.heap.objs.size + 1, s1.heap.objs.size + 2], _, _, H1, rfl, I2,
    turn_zipT3 (zip_sep3 (N := s1.heap.objs.size) (fp1 := [a]) (fp2 := [b]) (fp3 := [c]) ?_ ?_ ?_) (Nat.ne_of_lt la) (Nat.ne_of_lt (Nat.lt_succ_of_lt lb)) (Nat.ne_of_lt (Nat.lt_succ_of_lt (Nat.lt_succ_of_lt lc))), ⟨hz, hTI, ⟨_, _, _, hTO⟩, ⟨_, h1, rfl, rfl⟩, ⟨_, h2, rfl, rfl⟩, ⟨_, h3, rfl, rfl⟩⟩, fresh6, q⟩
  · intro d hd; rw [List.mem_singleton.mp hd]; exact la
  · intro d hd; rw [List.mem_singleton.mp hd]; exact lb
  · intro d hd; rw [List.mem_singleton.mp hd]; exact lc
/-- a loop over zip of three tuples of one length -/
theorem for_zipT3 {K : PySem.W.Frag} {a b c : Addr} {xs ys zs : List V} {g : TG} {tb : TS} {D : Ends} {σ : L2.St} {H : Hp} (hl : xs.length = ys.length) (hl2 : xs.length = zs.length) (Pv : Nat → L2.St → Hp → Prop) (h0 : Pv 0 σ H)
    (hq : ∀ i σ H, Pv i σ H → SqT K H a xs ∧ SqT K H b ys ∧ SqT K H c zs)
    (hs : ∀ (i : Nat) (x y z : V) (T : Addr) (σ : L2.St) (H : Hp), xs[i]? = some x → ys[i]? = some y → zs[i]? = some z → Pv i σ H → H T = none → g (.ref T) σ (upd H T (.tup [x, y, z])) fun σ2 H2 => tb { D with nx := Pv (i + 1), ct := Pv (i + 1), bk := D.nx } σ2 H2) (hd : ∀ σ H, Pv xs.length σ H → D.nx σ H) :
    ∃ W : Nat → Nat → L2.St → Hp → Prop, (∃ m, W 0 m σ H) ∧ ∀ i m σ H, W i m σ H →
      ((ItzT3 K a b c).stop i H ∧ D.nx σ H) ∨ ((ItzT3 K a b c).go i H ∧ ∃ N : L2.St → Hp → Prop, (∀ σ' H', N σ' H' → ∃ m', m' < m ∧ W (i + 1) m' σ' H') ∧ ∀ v H', (ItzT3 K a b c).yld i H v H' → g v σ H' fun σ2 H2 => tb { D with nx := N, ct := N, bk := D.nx } σ2 H2) := by
  refine ⟨fun i m σ H => m = xs.length - i ∧ i ≤ xs.length ∧ Pv i σ H, ⟨xs.length, rfl, Nat.zero_le _, h0⟩, ?_⟩
  rintro i m σ H ⟨rfl, hi, p⟩
  obtain ⟨qx, qy, qz⟩ := hq i σ H p
  by_cases hlt : i < xs.length
  · have hx : xs[i]? = some xs[i] := List.getElem?_eq_getElem hlt
    have hy : ys[i]? = some (ys[i]'(by omega)) := List.getElem?_eq_getElem (by omega)
    have hz : zs[i]? = some (zs[i]'(by omega)) := List.getElem?_eq_getElem (by omega)
    refine .inr ⟨⟨xs, ys, zs, _, _, _, qx, qy, qz, hx, hy, hz⟩, Pv (i + 1), fun σ' H' p' => ⟨xs.length - (i + 1), by omega, rfl, hlt, p'⟩, fun v H' y => ?_⟩
    obtain ⟨T, x', y', z', rfl, hT, rfl, f1, f2, f3⟩ := y
    exact hs i x' y' z' T σ H (f1 xs qx) (f2 ys qy) (f3 zs qz) p hT
  · have e : i = xs.length := by omega
    subst e
    exact .inl ⟨⟨xs, ys, zs, qx, qy, qz, by omega⟩, hd σ H p⟩
end Nr
namespace Nr
open PySem PySem.Spec PyProof.Rows L2 Evl

/-! things of any kind -/
def tyD : PyData → String
  | .none => "NoneType"
  | .bool _ => "bool"
  | .int _ => "int"
  | .str _ => "str"
  | .list _ => "list"
  | .tuple _ => "tuple"
  | .dict _ => "dict"
theorem ty_of {K : PySem.W.Frag} {H : Hp} {v : V} {d : PyData} (h : Dp K H v d) : TyX K H v (.type (tyD d)) := by
  cases h with
  | non => exact .base .non
  | bl b => exact .base (.bl b)
  | int i => exact .base (.int i)
  | str x => exact .base (.str x)
  | lst hs _ =>
    rcases hs with (h | ⟨o, h⟩) | ⟨o, its, n, h, c, _⟩
    · exact .base (.lst h)
    · exact .base (.frz h)
    · exact .kList h c
  | tup hs _ =>
    rcases hs with (h | ⟨o, h⟩) | ⟨o, its, n, h, c, _⟩
    · exact .base (.tup h)
    · exact .fTuple h
    · exact .kTuple h c
def isTupD : PyData → Bool
  | .tuple _ => true
  | _ => false
def isBoolD : PyData → Bool
  | .bool _ => true
  | _ => false
def wholeD : PyData → Bool
  | .int _ => true
  | _ => false
theorem kit_tup (d : PyData) : kitB (tyD d) "tuple" = some (isTupD d) := by cases d <;> simp only [tyD, isTupD] <;> decide +kernel
theorem kit_int (d : PyData) : kitB (tyD d) "int" = some (wholeD d || isBoolD d) := by cases d <;> simp only [tyD, wholeD, isBoolD] <;> decide +kernel
theorem kit_bool (d : PyData) : kitB (tyD d) "bool" = some (isBoolD d) := by cases d <;> simp only [tyD, isBoolD] <;> decide +kernel
def inB (lo hi : Int) : PyData → Bool
  | .int i => decide (lo ≤ i) && decide (i ≤ hi)
  | _ => false
def isWinD : PyData → Bool
  | .tuple [a, b, c] => inB 4 16 a && (inB 0 8 b && inB 0 1 c)
  | _ => false
section
variable {K : PySem.W.Frag} {H : Hp} {σ : L2.St} {ta : TE} {v : V} {d : PyData}
theorem rc_isi {T : String} {b : Bool} (hd : Dp K H v d) (hk : kitB (tyD d) T = some b) : RC (rIsi K) [v, .ty T] H (.bl b) := fun H1 e Q q =>
  ⟨v, .ty T, _, _, b, rfl, .ty T, ty_of (dp_ex e _ _ hd), kit_ty hk, q H1 (Ex.refl H1)⟩
theorem ev_isi {T : String} {b : Bool} (hv : Ev ta σ H v) (hd : Dp K H v d) (hk : kitB (tyD d) T = some b) : Ev (tCB (rIsi K) (tCons ta (tCons (tC (.ty T)) tNil))) σ H (.bl b) := ev_cb (ea_cons hv (ea_cons ev_c ea_nil)) (rc_isi hd hk)
theorem ev_lenT {p : Addr} {xs : List V} (ha : Ev ta σ H (.ref p)) (h : SqT K H p xs) : Ev (tCB (rLenS K) (tCons ta tNil)) σ H (.int (xs.length : Int)) := fun H1 e Q q =>
  ha H1 e _ fun H2 e2 => ⟨p, xs, rfl, .inr (ex_t (e.trans e2) h), q H2 e2⟩
end
/-- a comprehension over zip of two tuples of one length -/
theorem lc_zipT {K : PySem.W.Frag} {a b : Addr} {xs ys : List V} {g : TG} {tt : TT} {te : TE} {vs : List Nat} {σ : L2.St} {H1 : Hp} {D : Addr} {Qd : Hp → Prop} (hl : xs.length = ys.length) (Pv : Nat → Hp → Prop) (h0 : Pv 0 (upd H1 D (.lst []))) (hq : ∀ i H, Pv i H → SqT K H a xs ∧ SqT K H b ys)
    (hs : ∀ i x y T H, xs[i]? = some x → ys[i]? = some y → Pv i H → H T = none → g (.ref T) (wipe σ vs) (upd H T (.tup [x, y])) fun σ2 H2 => wipe σ2 vs = wipe σ vs ∧ tt σ2 H2 fun b H3 =>
      if b = true then te σ2 H3 fun y H4 => ∃ acc, H4 D = some (.lst acc) ∧ acc.length < sizeLine ∧ Pv (i + 1) (upd H4 D (.lst (acc ++ [y]))) else Pv (i + 1) H3) (hd : ∀ H, Pv xs.length H → Qd H) :
    ∃ W : Nat → Nat → Hp → Prop, (∃ m, W 0 m (upd H1 D (.lst []))) ∧ ∀ i m H, W i m H →
      ((RZ.ItzT K a b).stop i H ∧ Qd H) ∨ ((RZ.ItzT K a b).go i H ∧ ∃ Nx : Hp → Prop, (∀ H', Nx H' → ∃ m', m' < m ∧ W (i + 1) m' H') ∧ ∀ x H', (RZ.ItzT K a b).yld i H x H' → g x (wipe σ vs) H' fun σ2 H2 => wipe σ2 vs = wipe σ vs ∧ tt σ2 H2 fun b H3 =>
        if b = true then te σ2 H3 fun y H4 => ∃ acc, H4 D = some (.lst acc) ∧ acc.length < sizeLine ∧ Nx (upd H4 D (.lst (acc ++ [y]))) else Nx H3) := by
  refine ⟨fun i m H => m = xs.length - i ∧ i ≤ xs.length ∧ Pv i H, ⟨xs.length, by simp, Nat.zero_le _, h0⟩, ?_⟩
  rintro i m H ⟨rfl, hi, p⟩
  obtain ⟨qx, qy⟩ := hq i H p
  by_cases hlt : i < xs.length
  · have hx : xs[i]? = some xs[i] := List.getElem?_eq_getElem hlt
    have hy : ys[i]? = some (ys[i]'(by omega)) := List.getElem?_eq_getElem (by omega)
    refine .inr ⟨⟨xs, ys, _, _, qx, qy, hx, hy⟩, Pv (i + 1), fun H' p' => ⟨xs.length - (i + 1), by omega, rfl, hlt, p'⟩, fun x H' y => ?_⟩
    obtain ⟨T, x', y', rfl, hT, rfl, f1, f2⟩ := y
    exact hs i x' y' T _ (f1 xs qx) (f2 ys qy) p hT
  · have e : i = xs.length := by omega
    subst e
    exact .inl ⟨⟨xs, ys, qx, qy, Or.inl (Nat.le_refl _)⟩, hd H p⟩

/-- a tuple of the written part -/
def KT' (K : PySem.W.Frag) (a : Addr) (xs : List V) : Prop := ∃ (o : Obj) (its : Array Value) (n : Nat), K.lookup a = some o ∧ o.cls = .type "tuple" ∧ o.data = .seq its n ∧ its.size ≤ sizeLine ∧ Vals xs its.toList
theorem KT'.sq {K : PySem.W.Frag} {a : Addr} {xs : List V} {H : Hp} (h : KT' K a xs) : SqT K H a xs := .inr h
/-- BOUNDS as it stands -/
structure Bnds (K : PySem.W.Frag) (bb b1 b2 b3 : Addr) : Prop where
  all : KT' K bb [.ref b1, .ref b2, .ref b3]
  one : KT' K b1 [.int 4, .int 16]
  two : KT' K b2 [.int 0, .int 8]
  three : KT' K b3 [.int 0, .int 1]
section
variable {P : Program} {w : World} {K : PySem.W.Frag} {mg : Str → Option Value} {base : Heap}
/-! is_whole -/
abbrev sIsWhole : Stmt := topS 8 /- is_whole -/
theorem scIsWhole : FnScope ["thing"] ["thing"] (defScope sIsWhole) := ⟨rfl, rfl, rfl, by decide +kernel, rfl, by decide +kernel, by decide +kernel⟩
def spIsWhole (K : PySem.W.Frag) : Sp := fun vs H Q _ => ∃ (v : V) (d : PyData), vs = [v] ∧ Dp K H v d ∧ RetV (.bl (wholeD d)) H Q
theorem ok_isWhole {f : Addr} {fd : FuncData} {k : Nat} (F : Fun K "is_whole" "is_whole" sIsWhole f fd) (mi : mg "isinstance" = none) (mint : mg "int" = none) (mb : mg "bool" = none) : FnOk P w K mg base CX0 (k + 1) f fd ["thing"] (spIsWhole K) := by
  refine F.ok scIsWhole (fun vs H Q E h => ?_) (fun cdv A outer s H vs Q E hr h => ?_)
  · obtain ⟨v, d, rfl, _⟩ := h
    rfl
  obtain ⟨v, d, rfl, hd, q⟩ := h
  refine ⟨_, pss_one (ps_ret (pe_and (pe_callB call_isi (by rfl) mi boot_isinstance (pa_cons (pv 0) (pa_cons (pe_bltn (v := .ty "int") (by rfl) mint boot_int rfl) pa_nil)))
    (pe_one (pe_not (pe_callB call_isi (by rfl) mi boot_isinstance (pa_cons (pv 0) (pa_cons (pe_bltn (v := .ty "bool") (by rfl) mb boot_bool rfl) pa_nil))))))), ?_⟩
  refine s_ret (v := .bl (wholeD d)) (ev_is (ev_andV (ev_isi (ev_var rfl) hd (kit_int d)) fun _ => ev_notV (ev_isi (ev_var rfl) hd (kit_bool d))) ?_) (fun H1 e1 => q H1 e1)
  cases d <;> rfl
end
end Nr
namespace Nr
open PySem PySem.Spec PyProof.Rows L2 Evl
/-! papers as data -/
def wishD (ws : List Nat) : PyData → Bool
  | .int i => ws.any fun x => decide ((x : Int) = i)
  | _ => false
def natD : PyData → Nat
  | .int i => i.toNat
  | _ => 0
theorem wish_nat {ws : List Nat} {d : PyData} (h : wishD ws d = true) : d = di (natD d) ∧ natD d ∈ ws := by
  cases d with
  | int i =>
    obtain ⟨x, hx, e⟩ := List.any_eq_true.mp h
    have e := of_decide_eq_true e
    subst e
    exact ⟨rfl, hx⟩
  | _ => cases h
theorem wish_all {ws : List Nat} {ds : List PyData} (h : ds.all (wishD ws) = true) : ds = (ds.map natD).map di ∧ ∀ x ∈ ds.map natD, x ∈ ws := by
  rw [List.all_eq_true] at h
  refine ⟨?_, fun x hx => ?_⟩
  · rw [List.map_map]
    have : ds.map id = ds.map (di ∘ natD) := List.map_congr_left fun d hd => (wish_nat (h d hd)).1
    rw [List.map_id] at this
    exact this
  · obtain ⟨d, hd, rfl⟩ := List.mem_map.mp hx
    exact (wish_nat (h d hd)).2
def famM (G : List (List Nat)) (place : Nat) (l : List Nat) : Bool := decide (l = sortU l) && (!(l.any fun x => (G.getD place []).contains x) && G.all fun g => decide ((l.filter fun x => g.contains x).length ≤ 1))
def famD (G : List (List Nat)) (ws : List Nat) (place : Nat) : PyData → Bool
  | .tuple ds => ds.all (wishD ws) && famM G place (ds.map natD)
  | _ => false
def famsD (G : List (List Nat)) (ws pls : List Nat) : PyData → Bool
  | .tuple ds => decide (ds.length = pls.length) && (ds.zip pls).all fun x => famD G ws x.2 x.1
  | _ => false
def shownP (G : List (List Nat)) (ws : List Nat) : PyData → Option Nat
  | .tuple [cl, .tuple fs] => if (wishD ws cl && famsD G ws (plM G (natD cl)) (.tuple fs)) = true then some (1 + minN (fs.map lenD)) else none
  | _ => none
def shownM (G : List (List Nat)) (ws : List Nat) (d : PyData) : Option Nat :=
  if sbM G ws = true then none else if ws = [] then (match d with | .tuple [] => some 0 | _ => none) else shownP G ws d
def onD : Option Nat → PyData
  | none => .none
  | some k => di k
def smFam (d : PyData) : Prop := ∀ ds, d = .tuple ds → ds.length < 60
def smFams (d : PyData) : Prop := ∀ ds, d = .tuple ds → ds.length ≤ 1000 ∧ ∀ f ∈ ds, smFam f
def smPap (d : PyData) : Prop := ∀ ds, d = .tuple ds → ds.length ≤ 1000 ∧ ∀ f ∈ ds, smFams f
section
variable {K : PySem.W.Frag} {c : Md} {δ : List Sl} {te : TE} {d : PyData}
theorem ed_isi {T : String} {b : Bool} (h : ED K c te δ d) (hk : kitB (tyD d) T = some b) : ED K c (tCB (rIsi K) (tCons te (tCons (tC (.ty T)) tNil))) δ (.bool b) := fun σ D H s e Q q =>
  h σ D H s e _ fun v D1 H1 f1 d1 => ⟨v, .ty T, _, _, b, rfl, .ty T, ty_of (dp_ex f1.sb.ex _ _ (dq_dp _ _ d1)), kit_ty hk, q _ _ _ f1 (.bl b)⟩
theorem sd_whole (d : PyData) : SpD K c (spIsWhole K) [d] (.bool (wholeD d)) := fun vs D H s hv Q q E => by
  cases hv with
  | cons h1 hv =>
  cases hv
  exact ⟨_, d, rfl, dp_ex s.ex _ _ (dq_dp _ _ h1), fun H2 ex => q _ _ _ (Fw.ofEx s ex) (.bl _)⟩
theorem inV_int (i : Int) : ∀ l : List Nat, inV (.int i) (l.map vi) = l.any fun x => decide ((x : Int) = i)
  | [] => rfl
  | x :: l => by
    have ih := inV_int i l
    unfold inV at ih ⊢
    rw [List.map_cons, List.any_cons, ih, List.any_cons]
    rfl
theorem r_inTi {i : Int} {l : List Nat} : R2D K c (rIn K false) (.int i) (tupN l) (.bool (l.any fun x => decide ((x : Int) = i))) := fun x y D H s hx hy Q q => by
  obtain ⟨p, rfl, hp⟩ := dq_ints hy
  rw [dq_int hx]
  refine ⟨p, _, rfl, .inr (ex_t s.ex hp), rfl, flat_vis l, ?_⟩
  have := inV_int i l
  rw [if_neg (by decide), this]
  exact q _ D H (Fw.refl s) (.bl _)
theorem b_min {l : List Nat} (h : l ≠ []) : RCD K c (rMin K) [.list (l.map di)] (di (minN l)) := fun vs D H s hv Q q => by
  cases hv with
  | cons h1 h2 =>
  cases h2
  obtain ⟨p, rfl, hp⟩ := dq_intl h1
  have e0 : (l.map fun k : Nat => (k : Int)).map V.int = l.map vi := by rw [List.map_map]; rfl
  refine ⟨p, l.map fun k : Nat => (k : Int), rfl, by rw [e0]; exact sq_of (s.ex _ _ hp), by rw [List.length_map]; exact List.length_pos_iff.mpr h, fun m hm hle => ?_⟩
  obtain ⟨k, hk, rfl⟩ := List.mem_map.mp hm
  obtain ⟨h1, h2⟩ := minN_is h
  have a := hle _ (List.mem_map.mpr ⟨minN l, h1, rfl⟩)
  have b := h2 k hk
  have e : k = minN l := by omega
  rw [e]
  exact q _ D H (Fw.refl s) (.int _)
end
section
variable {P : Program} {w : World} {K : PySem.W.Frag} {mg : Str → Option Value} {base : Heap}
end
end Nr
namespace Nr
open PySem PySem.Spec PyProof.Rows L2 Evl
theorem sb_pl {G : List (List Nat)} {ws : List Nat} (hb : sbM G ws = false) {x : Nat} (hx : x ∈ ws) : plM G x ≠ [] := by
  unfold sbM at hb
  rw [List.any_eq_false] at hb
  have := hb x hx
  intro z
  rw [z] at this
  exact this rfl
theorem fams_ne {G : List (List Nat)} {ws pls : List Nat} {fs : List PyData} (h : famsD G ws pls (.tuple fs) = true) (hp : pls ≠ []) : fs ≠ [] ∧ ∀ f ∈ fs, ∃ ds, f = .tuple ds := by
  have h : (decide (fs.length = pls.length) && (fs.zip pls).all fun x => famD G ws x.2 x.1) = true := h
  rw [Bool.and_eq_true, decide_eq_true_eq] at h
  refine ⟨fun z => ?_, fun f hf => ?_⟩
  · subst z
    have := h.1
    exact hp (List.length_eq_zero_iff.mp this.symm)
  · obtain ⟨i, hi⟩ := List.getElem?_of_mem hf
    have lt := (List.getElem?_eq_some_iff.mp hi).1
    have hz : (fs.zip pls)[i]? = some (f, pls[i]'(by omega)) := by
      rw [List.getElem?_zip_eq_some]
      exact ⟨hi, List.getElem?_eq_getElem (by omega)⟩
    have := List.all_eq_true.mp h.2 _ (List.mem_of_getElem? hz)
    cases f <;> first | exact ⟨_, rfl⟩ | cases this
section
variable {P : Program} {w : World} {K : PySem.W.Frag} {mg : Str → Option Value} {base : Heap}
end
end Nr
namespace Nr
/-! turns lie one behind the other -/
theorem turnsF_pw (M h : Nat) : ∀ (f b l : Nat), (turnsF f M b l h).Pairwise (fun x y => x.1 + x.2 ≤ y.1) ∧ ∀ q ∈ turnsF f M b l h, b ≤ q.1
  | 0, b, l => by rw [turnsF]; exact ⟨.nil, fun q hq => by cases hq⟩
  | f + 1, b, l => by
    rw [turnsF]
    split
    · obtain ⟨h1, h2⟩ := turnsF_pw M h f (b + l) (l + h)
      refine ⟨List.pairwise_cons.mpr ⟨fun q hq => h2 q hq, h1⟩, fun q hq => ?_⟩
      rcases List.mem_cons.mp hq with rfl | hq
      · exact Nat.le_refl _
      · have := h2 q hq
        omega
    · exact ⟨.nil, fun q hq => by cases hq⟩
theorem turnsF_cov (M h x : Nat) (hx : x < M) : ∀ (f b l : Nat), 0 < l → M - b ≤ f → b ≤ x → ∃ q ∈ turnsF f M b l h, q.1 ≤ x ∧ x < q.1 + q.2
  | 0, b, l, hl, hf, hb => by omega
  | f + 1, b, l, hl, hf, hb => by
    rw [turnsF, if_pos (by omega)]
    by_cases c : x < b + l
    · exact ⟨(b, l), List.mem_cons_self, hb, c⟩
    · obtain ⟨q, hq, k⟩ := turnsF_cov M h x hx f (b + l) (l + h) (by omega) (by omega) (by omega)
      exact ⟨q, List.mem_cons_of_mem _ hq, k⟩
section
variable {n g h : Nat}
theorem turns_apart {q r : Nat × Nat} (hq : q ∈ turnsM n g h) (hr : r ∈ turnsM n g h) : q = r ∨ q.1 + q.2 ≤ r.1 ∨ r.1 + r.2 ≤ q.1 := by
  have pw := (turnsF_pw (2 * n) h (2 * n) 0 g).1
  obtain ⟨i, hi⟩ := List.getElem?_of_mem hq
  obtain ⟨j, hj⟩ := List.getElem?_of_mem hr
  obtain ⟨li, ei⟩ := List.getElem?_eq_some_iff.mp hi
  obtain ⟨lj, ej⟩ := List.getElem?_eq_some_iff.mp hj
  rw [List.pairwise_iff_getElem] at pw
  rcases Nat.lt_trichotomy i j with c | c | c
  · have := pw i j li lj c
    exact .inr (.inl (by rw [← ei, ← ej]; exact this))
  · subst c
    exact .inl (by rw [← ei, ← ej])
  · have := pw j i lj li c
    exact .inr (.inr (by rw [← ei, ← ej]; exact this))
theorem turns_cov (hg : 0 < g) {x : Nat} (hx : x < 2 * n) : ∃ q ∈ turnsM n g h, q.1 ≤ x ∧ x < q.1 + q.2 := turnsF_cov (2 * n) h x hx (2 * n) 0 g hg (by omega) (Nat.zero_le _)
theorem turns_len (q : Nat × Nat) (hq : q ∈ turnsM n g h) : g ≤ q.2 := (turnsF_mem _ _ _ _ _ q hq).2.2.1
/-- a cell's place, as it is wound -/
def woundP (n e x : Nat) : Nat := if e = 1 then n - 1 - x else x
theorem mem_wound {e t b x : Nat} (hx : x < n) : x ∈ pricksM n g h e t b ↔ woundP n e x ∈ placesM n g h t b := by
  rw [pricks_mem]
  unfold woundP
  constructor
  · rintro ⟨p, hp, lt, rfl⟩
    split
    · rw [show n - 1 - (n - 1 - p) = p by omega]
      exact hp
    · exact hp
  · intro hp
    refine ⟨_, hp, ?_, ?_⟩
    · split <;> omega
    · split
      · omega
      · rfl
theorem mem_place {w T p : Nat} (hw : 0 < w) : p ∈ placesM n g h T w ↔ ∃ q ∈ turnsM n g h, 2 * p * w ≤ q.1 * w + q.2 * T ∧ q.1 * w + q.2 * T < (2 * p + 2) * w := by
  unfold placesM
  rw [List.mem_map]
  have e : ∀ q : Nat × Nat, placeN T w q = p ↔ 2 * p * w ≤ q.1 * w + q.2 * T ∧ q.1 * w + q.2 * T < (2 * p + 2) * w := fun q => by
    unfold placeN
    rw [Nat.div_eq_iff (by omega)]
    have e1 : p * (2 * w) = 2 * p * w := by rw [← Nat.mul_assoc, Nat.mul_comm p 2]
    have e2 : (2 * p + 2) * w = 2 * p * w + 2 * w := by rw [Nat.add_mul]
    rw [e1, e2]
    omega
  constructor
  · rintro ⟨q, hq, z⟩
    exact ⟨q, hq, (e q).mp z⟩
  · rintro ⟨q, hq, z⟩
    exact ⟨q, hq, (e q).mpr z⟩
/-- a cell lies in one piece on the ring -/
theorem arc_cell {e w x : Nat} (hw : 0 < w) (hg : 4 ≤ g) (hx : x < n) :
    (∀ A B C, A ≤ B → B ≤ C → C < w → x ∈ pricksM n g h e A w → x ∈ pricksM n g h e C w → x ∈ pricksM n g h e B w) ∨ (∀ A B C, A ≤ B → B ≤ C → C < w → x ∉ pricksM n g h e A w → x ∉ pricksM n g h e C w → x ∉ pricksM n g h e B w) := by
  simp only [mem_wound hx, mem_place hw]
  have hp : woundP n e x < n := by unfold woundP; split <;> omega
  generalize woundP n e x = p at hp
  obtain ⟨q, hq, q1, q2⟩ := turns_cov (n := n) (g := g) (h := h) (x := 2 * p) (by omega) (by omega)
  have mono : ∀ (r : Nat × Nat) (A B : Nat), A ≤ B → r.1 * w + r.2 * A ≤ r.1 * w + r.2 * B := fun r A B ab => Nat.add_le_add_left (Nat.mul_le_mul_left _ ab) _
  have top : ∀ (r : Nat × Nat) (T : Nat), r ∈ turnsM n g h → T < w → r.1 * w + r.2 * T < (r.1 + r.2) * w := fun r T hr hT => by
    rw [Nat.add_mul]
    have := turns_len r hr
    exact Nat.add_lt_add_left (Nat.mul_lt_mul_of_pos_left hT (by omega)) _
  have bot : ∀ (r : Nat × Nat) (T : Nat), r.1 * w ≤ r.1 * w + r.2 * T := fun r T => Nat.le_add_right _ _
  have mw : ∀ {a b : Nat}, a ≤ b → a * w ≤ b * w := fun ab => Nat.mul_le_mul_right w ab
  by_cases c : 2 * p + 2 ≤ q.1 + q.2
  · -- whole on one turn
    left
    have key : ∀ T, T < w → ((∃ r ∈ turnsM n g h, 2 * p * w ≤ r.1 * w + r.2 * T ∧ r.1 * w + r.2 * T < (2 * p + 2) * w) ↔ (2 * p * w ≤ q.1 * w + q.2 * T ∧ q.1 * w + q.2 * T < (2 * p + 2) * w)) := fun T hT => by
      constructor
      · rintro ⟨r, hr, r1, r2⟩
        rcases turns_apart hq hr with rfl | z | z
        · exact ⟨r1, r2⟩
        · have a := bot r T
          have b := mw (show 2 * p + 2 ≤ r.1 by omega)
          omega
        · have a := top r T hr hT
          have b := mw (show r.1 + r.2 ≤ 2 * p by omega)
          omega
      · exact fun z => ⟨q, hq, z⟩
    intro A B C ab bc hC hA hC2
    rw [key A (by omega)] at hA
    rw [key C hC] at hC2
    rw [key B (by omega)]
    have m1 := mono q A B ab
    have m2 := mono q B C bc
    omega
  · -- over the end of a turn
    right
    obtain ⟨r, hr, r1, r2⟩ := turns_cov (n := n) (g := g) (h := h) (x := 2 * p + 1) (by omega) (by omega)
    have er : r.1 = 2 * p + 1 := by
      rcases turns_apart hq hr with z | z | z
      · subst z
        omega
      · omega
      · omega
    have lr := turns_len r hr
    have key : ∀ T, T < w → ((∃ r ∈ turnsM n g h, 2 * p * w ≤ r.1 * w + r.2 * T ∧ r.1 * w + r.2 * T < (2 * p + 2) * w) ↔ (2 * p * w ≤ q.1 * w + q.2 * T ∨ r.1 * w + r.2 * T < (2 * p + 2) * w)) := fun T hT => by
      constructor
      · rintro ⟨s, hs, s1, s2⟩
        rcases turns_apart hq hs with rfl | z | z
        · exact .inl s1
        · rcases turns_apart hr hs with rfl | y | y
          · exact .inr s2
          · have a := bot s T
            have b := mw (show 2 * p + 2 ≤ s.1 by omega)
            omega
          · have := turns_len s hs
            omega
        · have a := top s T hs hT
          have b := mw (show s.1 + s.2 ≤ 2 * p by omega)
          omega
      · rintro (z | z)
        · refine ⟨q, hq, z, ?_⟩
          have a := top q T hq hT
          have b := mw (show q.1 + q.2 ≤ 2 * p + 2 by omega)
          omega
        · refine ⟨r, hr, ?_, z⟩
          have a := bot r T
          have b := mw (show 2 * p ≤ r.1 by omega)
          omega
    intro A B C ab bc hC hA hC2
    rw [key A (by omega)] at hA
    rw [key C hC] at hC2
    rw [key B (by omega)]
    have m1 := mono q B C bc
    have m2 := mono r A B ab
    omega
end
/-! groups on a ring -/
def Arc (G : List (List Nat)) (x : Nat) : Prop :=
  (∀ i j k, i ≤ j → j ≤ k → k < G.length → x ∈ G.getD i [] → x ∈ G.getD k [] → x ∈ G.getD j []) ∨ (∀ i j k, i ≤ j → j ≤ k → k < G.length → x ∉ G.getD i [] → x ∉ G.getD k [] → x ∉ G.getD j [])
theorem wrap {n f s : Nat} (hf : f < n) (hs : s < n) : (f + s) % n = if f + s < n then f + s else f + s - n := by
  split
  · exact Nat.mod_eq_of_lt (by assumption)
  · rw [Nat.mod_eq_sub_mod (by omega), Nat.mod_eq_of_lt (by omega)]
/-- behind a group without the cell its groups are one behind the other -/
theorem Arc.line {G : List (List Nat)} {x f a b c : Nat} (h : Arc G x) (hf : f < G.length) (nf : x ∉ G.getD f []) (h1 : 1 ≤ a) (ab : a ≤ b) (bc : b ≤ c) (hc : c < G.length)
    (ha : x ∈ G.getD ((f + a) % G.length) []) (hcm : x ∈ G.getD ((f + c) % G.length) []) : x ∈ G.getD ((f + b) % G.length) [] := by
  rw [wrap hf (by omega)] at ha hcm ⊢
  rcases h with h | h
  · by_cases z1 : f + a < G.length
    · rw [if_pos z1] at ha
      by_cases z3 : f + c < G.length
      · rw [if_pos z3] at hcm
        rw [if_pos (by omega)]
        exact h _ _ _ (by omega) (by omega) z3 ha hcm
      · rw [if_neg z3] at hcm
        exact absurd (h (f + c - G.length) f (f + a) (by omega) (by omega) z1 hcm ha) nf
    · rw [if_neg z1] at ha
      rw [if_neg (by omega)] at hcm ⊢
      exact h _ _ _ (by omega) (by omega) (by omega) ha hcm
  · refine Classical.byContradiction fun nb => ?_
    by_cases z2 : f + b < G.length
    · rw [if_pos z2] at nb
      rw [if_pos (by omega)] at ha
      exact h f (f + a) (f + b) (by omega) (by omega) z2 nf nb ha
    · rw [if_neg z2] at nb
      rw [if_neg (by omega)] at hcm
      exact h (f + b - G.length) (f + c - G.length) f (by omega) (by omega) hf nb nf hcm
theorem harm_arc {n g h e : Nat} {ws : List Nat} (hg : 4 ≤ g) {x : Nat} (hx : x < n) : Arc ((harmM n g h e ws).map (·.2.2)) x := by
  have hw : 0 < wholeM n g h := wholeM_pos (by omega)
  obtain ⟨L, hL⟩ : ∃ L : List (Nat × Nat), L = (pairsM n g h).filter fun q => (unwM (pricksM n g h e q.1 (wholeM n g h)) ws).isEmpty := ⟨_, rfl⟩
  have e1 : (harmM n g h e ws).map (·.2.2) = L.map fun q => pricksM n g h e q.1 (wholeM n g h) := by
    unfold harmM rowsM
    rw [List.filter_map, List.map_map, hL]
    rfl
  rw [e1]
  obtain ⟨pw, lt⟩ := pairs_up (n := n) (g := g) (h := h) (by omega)
  have pw : L.Pairwise (fun a b => a.2 ≤ b.1) := by rw [hL]; exact pw.filter _
  have lt : ∀ q ∈ L, q.1 < q.2 ∧ q.2 ≤ wholeM n g h := fun q hq => lt q (by rw [hL] at hq; exact (List.mem_filter.mp hq).1)
  have at_ : ∀ i (hi : i < L.length), (L.map fun q => pricksM n g h e q.1 (wholeM n g h)).getD i [] = pricksM n g h e (L[i]).1 (wholeM n g h) := fun i hi => by
    rw [List.getD_eq_getElem?_getD, List.getElem?_map, List.getElem?_eq_getElem hi]
    rfl
  have up : ∀ i j (hi : i < L.length) (hj : j < L.length), i ≤ j → (L[i]).1 ≤ (L[j]).1 := fun i j hi hj ij => by
    rcases Nat.lt_or_ge i j with c | c
    · have a := List.pairwise_iff_getElem.mp pw i j hi hj c
      have b := lt _ (List.getElem_mem hi)
      omega
    · have : i = j := by omega
      subst this
      exact Nat.le_refl _
  unfold Arc
  rw [List.length_map]
  rcases arc_cell (n := n) (h := h) (e := e) hw hg hx with k | k
  · left
    intro i j l ij jl hl a b
    rw [at_ i (by omega)] at a
    rw [at_ l hl] at b
    rw [at_ j (by omega)]
    have := lt _ (List.getElem_mem hl)
    exact k _ _ _ (up i j (by omega) (by omega) ij) (up j l (by omega) hl jl) (by omega) a b
  · right
    intro i j l ij jl hl a b
    rw [at_ i (by omega)] at a
    rw [at_ l hl] at b
    rw [at_ j (by omega)]
    have := lt _ (List.getElem_mem hl)
    exact k _ _ _ (up i j (by omega) (by omega) ij) (up j l (by omega) hl jl) (by omega) a b
end Nr
namespace Nr
open PySem PySem.Spec PyProof.Rows L2 Evl
/-! the plan's cells and places -/
structure PlOk (G : List (List Nat)) (ws : List Nat) (f k : Nat) (p : Pl) : Prop where
  len : p.fa.length + 1 = p.pl.length
  nd : p.pl.Nodup
  pl : ∀ i ∈ p.pl, i = f ∨ ∃ s, 1 ≤ s ∧ s ≤ k ∧ i = (f + s) % G.length
  fst : f ∈ p.pl
  le : ∀ x, x ∈ p.le ↔ x ∈ ws ∧ ∀ i ∈ p.pl, x ∉ G.getD i []
  fa : ∀ y ∈ p.fa, y ∈ ws ∧ y ∉ G.getD f [] ∧ ∃ s, 1 ≤ s ∧ s ≤ k ∧ (f + s) % G.length ∈ p.pl ∧ y ∈ G.getD ((f + s) % G.length) [] ∧ y ∉ G.getD (((f + s) % G.length + 1) % G.length) []
  ap : p.fa.Pairwise fun a b => ∀ i, i < G.length → ¬ (a ∈ G.getD i [] ∧ b ∈ G.getD i [])
theorem has_iff {l : List Nat} {x : Nat} : l.contains x = true ↔ x ∈ l := by simp
theorem hasnt_iff {l : List Nat} {x : Nat} : (!l.contains x) = true ↔ x ∉ l := by simp
theorem mem_ends {G : List (List Nat)} {a b x : Nat} {le : List Nat} : x ∈ endsM G a b le ↔ x ∈ le ∧ x ∈ G.getD a [] ∧ x ∉ G.getD b [] := by
  unfold endsM
  rw [List.mem_filter, Bool.and_eq_true, has_iff, hasnt_iff]
theorem plOk_0 {G : List (List Nat)} {ws : List Nat} {f : Nat} : PlOk G ws f 0 ⟨[f], [], ws.filter fun x => !(G.getD f []).contains x⟩ := by
  refine ⟨rfl, List.nodup_cons.mpr ⟨(fun h => by cases h), .nil⟩, fun i hi => .inl (List.mem_singleton.mp hi), List.mem_singleton.mpr rfl, fun x => ?_, (fun y hy => by cases hy), List.Pairwise.nil⟩
  rw [List.mem_filter, hasnt_iff]
  constructor
  · rintro ⟨a, b⟩
    exact ⟨a, fun i hi => by rw [List.mem_singleton.mp hi]; exact b⟩
  · rintro ⟨a, b⟩
    exact ⟨a, b f (List.mem_singleton.mpr rfl)⟩
theorem mod_inj {n f s t : Nat} (hf : f < n) (hs : s < n) (ht : t < n) (e : (f + s) % n = (f + t) % n) : s = t := by
  rw [wrap hf hs, wrap hf ht] at e
  split at e <;> split at e <;> omega
theorem mod_f {n f s : Nat} (hf : f < n) (hs : s < n) (h1 : 1 ≤ s) : (f + s) % n ≠ f := by
  rw [wrap hf hs]
  split <;> omega
theorem mod_next {n a : Nat} (f s : Nat) : ((f + s) % n + 1) % n = (f + (s + 1)) % n := by
  rw [Nat.mod_add_mod, Nat.add_assoc]
theorem plOk_step {G : List (List Nat)} {ws : List Nat} {f k : Nat} {p : Pl} (hf : f < G.length) (hk : k + 1 < G.length) (arc : ∀ x ∈ ws, Arc G x) (h : PlOk G ws f k p) : PlOk G ws f (k + 1) (plStep G f p (1 + k)) := by
  rw [Nat.add_comm 1 k]
  unfold plStep
  split
  · exact ⟨h.len, h.nd, fun i hi => (h.pl i hi).imp id fun ⟨s, a, b, c⟩ => ⟨s, a, by omega, c⟩, h.fst, h.le, fun y hy => by
      obtain ⟨a, b, s, c, d, e⟩ := h.fa y hy
      exact ⟨a, b, s, c, by omega, e⟩, h.ap⟩
  · rename_i y ys he
    have hy : y ∈ endsM G ((f + (k + 1)) % G.length) (((f + (k + 1)) % G.length + 1) % G.length) p.le := by rw [he]; exact List.mem_cons_self
    obtain ⟨y1, y2, y3⟩ := mem_ends.mp hy
    obtain ⟨y4, y5⟩ := (h.le y).mp y1
    have hold : ∀ {i}, i ∈ p.pl → i ∈ p.pl ++ [(f + (k + 1)) % G.length] := fun hi => List.mem_append_left _ hi
    have hnew : (f + (k + 1)) % G.length ∈ p.pl ++ [(f + (k + 1)) % G.length] := List.mem_append_right _ (List.mem_singleton.mpr rfl)
    refine ⟨?_, ?_, fun i hi => ?_, hold h.fst, fun x => ?_, fun z hz => ?_, ?_⟩
    · have := h.len
      simp only [List.length_append, List.length_singleton]
      omega
    · refine List.nodup_append.mpr ⟨h.nd, List.nodup_cons.mpr ⟨(fun h => by cases h), .nil⟩, fun a ha b hb => ?_⟩
      rw [List.mem_singleton.mp hb]
      rcases h.pl a ha with rfl | ⟨s, s1, s2, rfl⟩
      · exact (mod_f hf hk (by omega)).symm
      · intro e
        have := mod_inj hf (by omega) hk e
        omega
    · rcases List.mem_append.mp hi with z | z
      · exact (h.pl i z).imp id fun ⟨s, a, b, c⟩ => ⟨s, a, by omega, c⟩
      · exact .inr ⟨k + 1, by omega, Nat.le_refl _, List.mem_singleton.mp z⟩
    · show x ∈ p.le.filter _ ↔ _
      rw [List.mem_filter, hasnt_iff, h.le x]
      constructor
      · rintro ⟨⟨a, b⟩, c⟩
        refine ⟨a, fun i hi => ?_⟩
        rcases List.mem_append.mp hi with z | z
        · exact b i z
        · rw [List.mem_singleton.mp z]; exact c
      · rintro ⟨a, b⟩
        exact ⟨⟨a, fun i hi => b i (hold hi)⟩, b _ hnew⟩
    · rcases List.mem_append.mp hz with z' | z'
      · obtain ⟨a, b, s, c, d, e, e2⟩ := h.fa z z'
        exact ⟨a, b, s, c, by omega, hold e, e2⟩
      · rw [List.mem_singleton.mp z']
        exact ⟨y4, y5 f h.fst, k + 1, by omega, Nat.le_refl _, hnew, y2, y3⟩
    · refine List.pairwise_append.mpr ⟨h.ap, List.pairwise_singleton _ _, fun a ha b hb i hi => ?_⟩
      rw [List.mem_singleton.mp hb]
      rintro ⟨ai, yi⟩
      obtain ⟨a1, a2, s, s1, s2, s3, s4, s5⟩ := h.fa a ha
      have hif : i ≠ f := fun z => a2 (z ▸ ai)
      obtain ⟨t, t1, t2, rfl⟩ : ∃ t, 1 ≤ t ∧ t < G.length ∧ i = (f + t) % G.length := by
        rcases Nat.lt_or_ge f i with c | c
        · exact ⟨i - f, by omega, by omega, by rw [wrap hf (by omega), if_pos (by omega)]; omega⟩
        · exact ⟨G.length - f + i, by omega, by omega, by rw [wrap hf (by omega), if_neg (by omega)]; omega⟩
      by_cases c : s < t
      · have := (arc a a1).line hf a2 s1 (show s ≤ s + 1 by omega) (show s + 1 ≤ t by omega) t2 s4 ai
        rw [← mod_next (a := 0)] at this
        exact s5 this
      · have := (arc y y4).line hf (y5 f h.fst) t1 (show t ≤ s by omega) (show s ≤ k + 1 by omega) hk yi y2
        exact y5 _ s3 this
theorem plOk {G : List (List Nat)} {ws : List Nat} {f : Nat} (hf : f < G.length) (arc : ∀ x ∈ ws, Arc G x) : ∀ k, k < G.length → PlOk G ws f k (plFold G ws f k)
  | 0, _ => plOk_0
  | k + 1, hk => by
    rw [plFold_succ]
    exact plOk_step hf hk arc (plOk hf arc k (by omega))
/-- what is left becomes less -/
theorem plStep_le {G : List (List Nat)} {f : Nat} {p : Pl} {s x : Nat} (h : x ∈ (plStep G f p s).le) : x ∈ p.le := by
  unfold plStep at h
  split at h
  · exact h
  · exact (List.mem_filter.mp h).1
theorem plFold_le {G : List (List Nat)} {ws : List Nat} {f x : Nat} : ∀ (m k : Nat), k ≤ m → x ∈ (plFold G ws f m).le → x ∈ (plFold G ws f k).le
  | 0, k, hk, h => by
    have : k = 0 := by omega
    subst this
    exact h
  | m + 1, k, hk, h => by
    rcases Nat.lt_or_ge k (m + 1) with c | c
    · rw [plFold_succ] at h
      exact plFold_le m k (by omega) (plStep_le h)
    · have : k = m + 1 := by omega
      subst this
      exact h
theorem last_in (P : Nat → Prop) [DecidablePred P] : ∀ (m : Nat), (∃ s, s ≤ m ∧ P s) → ∃ s, s ≤ m ∧ P s ∧ ∀ t, s < t → t ≤ m → ¬ P t
  | 0, ⟨s, hs, h⟩ => ⟨s, hs, h, fun t a b => by omega⟩
  | m + 1, ⟨s, hs, h⟩ => by
    by_cases c : P (m + 1)
    · exact ⟨m + 1, Nat.le_refl _, c, fun t a b => by omega⟩
    · have : s ≤ m := by
        rcases Nat.lt_or_ge s (m + 1) with z | z
        · omega
        · have : s = m + 1 := by omega
          subst this
          exact absurd h c
      obtain ⟨u, u1, u2, u3⟩ := last_in P m ⟨s, this, h⟩
      refine ⟨u, by omega, u2, fun t a b => ?_⟩
      rcases Nat.lt_or_ge t (m + 1) with z | z
      · exact u3 t a (by omega)
      · have : t = m + 1 := by omega
        subst this
        exact c
theorem pl_none {G : List (List Nat)} {ws : List Nat} {f : Nat} (hf : f < G.length) (arc : ∀ x ∈ ws, Arc G x) (hb : sbM G ws = false) : ∀ x, x ∉ (planP G ws f).le := by
  intro x hx
  have ok := plOk hf arc (G.length - 1) (by omega)
  obtain ⟨x1, x2⟩ := (ok.le x).mp hx
  have nf := x2 f ok.fst
  obtain ⟨j, hj⟩ := List.exists_mem_of_ne_nil _ (sb_pl hb x1)
  have hjl := plM_lt hj
  have hjm : x ∈ G.getD j [] := has_iff.mp (List.mem_filter.mp hj).2
  have hjf : j ≠ f := fun z => nf (z ▸ hjm)
  have ex : ∃ s, s ≤ G.length - 1 ∧ (1 ≤ s ∧ x ∈ G.getD ((f + s) % G.length) []) := by
    rcases Nat.lt_or_ge f j with c | c
    · refine ⟨j - f, by omega, by omega, ?_⟩
      rw [wrap hf (by omega), if_pos (by omega), show f + (j - f) = j by omega]
      exact hjm
    · refine ⟨G.length - f + j, by omega, by omega, ?_⟩
      rw [wrap hf (by omega), if_neg (by omega), show f + (G.length - f + j) - G.length = j by omega]
      exact hjm
  obtain ⟨s, s1, ⟨s2, s3⟩, s4⟩ := last_in (fun s => 1 ≤ s ∧ x ∈ G.getD ((f + s) % G.length) []) (G.length - 1) ex
  have hle : x ∈ (plFold G ws f (s - 1)).le := plFold_le _ _ (by omega) hx
  have nx : x ∉ G.getD (((f + s) % G.length + 1) % G.length) [] := by
    rw [mod_next (a := 0)]
    rcases Nat.lt_or_ge (s + 1) G.length with c | c
    · exact fun z => s4 (s + 1) (by omega) (by omega) ⟨by omega, z⟩
    · rw [show f + (s + 1) = f + G.length by omega, Nat.add_mod_right, Nat.mod_eq_of_lt hf]
      exact nf
  have he : x ∈ endsM G ((f + s) % G.length) (((f + s) % G.length + 1) % G.length) (plFold G ws f (s - 1)).le := mem_ends.mpr ⟨hle, s3, nx⟩
  have hs' : x ∈ (plFold G ws f s).le := plFold_le _ _ (by omega) hx
  obtain ⟨k, rfl⟩ : ∃ k, s = k + 1 := ⟨s - 1, by omega⟩
  rw [plFold_succ, Nat.add_comm 1 k] at hs'
  rw [Nat.add_sub_cancel] at he
  unfold plStep at hs'
  split at hs'
  · rename_i z
    rw [z] at he
    cases he
  · exact (hasnt_iff.mp (List.mem_filter.mp hs').2) s3
/-! covers -/
def Cov (G : List (List Nat)) (ws S : List Nat) : Prop := (∀ i ∈ S, i < G.length) ∧ ∀ x ∈ ws, ∃ i ∈ S, x ∈ G.getD i []
theorem plan_cov {G : List (List Nat)} {ws : List Nat} {f : Nat} (hf : f < G.length) (arc : ∀ x ∈ ws, Arc G x) (hb : sbM G ws = false) : Cov G ws (planM G ws f).1 := by
  have ok := plOk hf arc (G.length - 1) (by omega)
  have mem : ∀ i, i ∈ (planM G ws f).1 ↔ i ∈ (planP G ws f).pl := fun i => (srt_perm _).mem_iff
  refine ⟨fun i hi => plFold_in hf _ i ((mem i).mp hi), fun x hx => ?_⟩
  refine Classical.byContradiction fun no => ?_
  refine pl_none hf arc hb x ((ok.le x).mpr ⟨hx, fun i hi z => no ⟨i, (mem i).mpr hi, z⟩⟩)
theorem pig {α : Type} {R : α → Nat → Prop} : ∀ (l : List α) (S : List Nat), (∀ a ∈ l, ∃ s ∈ S, R a s) → l.Pairwise (fun a b => ∀ s, ¬ (R a s ∧ R b s)) → l.length ≤ S.length
  | [], S, _, _ => Nat.zero_le _
  | a :: l, S, h, pw => by
    obtain ⟨s, hs, r⟩ := h a List.mem_cons_self
    have p := List.pairwise_cons.mp pw
    have ih := pig (R := R) l (S.erase s) (fun b hb => by
      obtain ⟨t, ht, r2⟩ := h b (List.mem_cons_of_mem _ hb)
      refine ⟨t, ?_, r2⟩
      refine (List.mem_erase_of_ne ?_).mpr ht
      rintro rfl
      exact p.1 b hb t ⟨r, r2⟩) p.2
    rw [List.length_erase_of_mem hs] at ih
    have := List.length_pos_of_mem hs
    rw [List.length_cons]
    omega
/-- no fewer than a cell and its family -/
theorem fam_bound {G : List (List Nat)} {ws l S : List Nat} {p : Nat} (hS : Cov G ws S) (hp : p ∈ S) (hl : ∀ y ∈ l, y ∈ ws ∧ y ∉ G.getD p []) (ap : l.Pairwise fun a b => ∀ i, i < G.length → ¬ (a ∈ G.getD i [] ∧ b ∈ G.getD i [])) : l.length + 1 ≤ S.length := by
  have k := pig (R := fun y s => s < G.length ∧ y ∈ G.getD s []) l (S.erase p) (fun y hy => by
    obtain ⟨s, hs, m⟩ := hS.2 y (hl y hy).1
    refine ⟨s, (List.mem_erase_of_ne ?_).mpr hs, hS.1 s hs, m⟩
    rintro rfl
    exact (hl y hy).2 m) (ap.imp fun {a b} h s ⟨⟨l1, m1⟩, _, m2⟩ => h s l1 ⟨m1, m2⟩)
  rw [List.length_erase_of_mem hp] at k
  have := List.length_pos_of_mem hp
  omega
/-- all that is shown of the fewest -/
structure Few (G : List (List Nat)) (ws B : List Nat) : Prop where
  cov : Cov G ws B
  up : B.Pairwise (· < ·)
  low : ∀ S, Cov G ws S → B.length ≤ S.length
theorem srt_strict {l : List Nat} (h : l.Nodup) : (srt l).Pairwise (· < ·) := by
  have a := srt_up l
  have b : (srt l).Nodup := (srt_perm l).nodup_iff.mpr h
  exact (a.and b).imp fun {x y} ⟨h1, h2⟩ => Nat.lt_of_le_of_ne h1 h2
theorem few_best {G : List (List Nat)} {ws : List Nat} (arc : ∀ x ∈ ws, Arc G x) (hb : sbM G ws = false) (hw : ws ≠ []) : Few G ws (bestM G ws) := by
  obtain ⟨m, h1, h2⟩ := best_some hb hw
  have eb : bestM G ws = m.1 := by
    unfold bestM
    rw [h1]
    rfl
  have hmin := (minBy_is _ _ _ h1).2
  obtain ⟨f, hf, rfl⟩ := List.mem_map.mp h2
  have hfl := plM_lt hf
  have ok := plOk hfl arc (G.length - 1) (by omega)
  rw [eb]
  refine ⟨plan_cov hfl arc hb, srt_strict ok.nd, fun S hS => ?_⟩
  cases ws with
  | nil => exact absurd rfl hw
  | cons y ys =>
    obtain ⟨p, hp, my⟩ := hS.2 y List.mem_cons_self
    have hpl := hS.1 p hp
    have hpm : p ∈ plM G ((y :: ys).headD 0) := List.mem_filter.mpr ⟨List.mem_range.mpr hpl, has_iff.mpr my⟩
    have okp := plOk hpl arc (G.length - 1) (by omega)
    have le := hmin _ (List.mem_map.mpr ⟨p, hpm, rfl⟩)
    have bd := fam_bound hS hp (fun z hz => ⟨(okp.fa z hz).1, (okp.fa z hz).2.1⟩) okp.ap
    have e1 : (planM G (y :: ys) p).1.length = (plFold G (y :: ys) p (G.length - 1)).pl.length := srt_len _
    have := okp.len
    omega
/-! papers -/
theorem sortU_id {l : List Nat} (h : l.Pairwise (· < ·)) : sortU l = l := by
  have e := rising_eq (a := (sortU l).map fun k : Nat => (k : Int)) (b := l.map fun k : Nat => (k : Int)) (List.pairwise_map.mpr ((sortU_up l).imp fun {a b} lt => by omega)) (List.pairwise_map.mpr (h.imp fun {a b} lt => by omega)) fun k => by
    rw [List.mem_map, List.mem_map]
    constructor
    · rintro ⟨a, ha, rfl⟩
      exact ⟨a, (sortU_mem _ _).mp ha, rfl⟩
    · rintro ⟨a, ha, rfl⟩
      exact ⟨a, (sortU_mem _ _).mpr ha, rfl⟩
  have e1 : ∀ l : List Nat, (l.map fun k : Nat => (k : Int)).map Int.toNat = l := fun l => by
    rw [List.map_map]
    have : l.map (Int.toNat ∘ fun k : Nat => (k : Int)) = l.map id := List.map_congr_left fun x _ => rfl
    rw [this, List.map_id]
  rw [← e1 (sortU l), e, e1]
theorem filter_one {l : List Nat} {g : List Nat} (ap : l.Pairwise fun a b => ¬ (a ∈ g ∧ b ∈ g)) : (l.filter fun x => g.contains x).length ≤ 1 := by
  have h := (ap.filter fun x => g.contains x)
  cases hL : l.filter fun x => g.contains x with
  | nil => exact Nat.zero_le _
  | cons a t =>
    cases t with
    | nil => exact Nat.le_refl _
    | cons b t =>
      rw [hL] at h
      have := (List.pairwise_cons.mp h).1 b List.mem_cons_self
      have ha : a ∈ l.filter fun x => g.contains x := by rw [hL]; exact List.mem_cons_self
      have hb : b ∈ l.filter fun x => g.contains x := by rw [hL]; exact List.mem_cons_of_mem _ List.mem_cons_self
      exact absurd ⟨has_iff.mp (List.mem_filter.mp ha).2, has_iff.mp (List.mem_filter.mp hb).2⟩ this
theorem plan_fam {G : List (List Nat)} {ws : List Nat} {p : Nat} (hp : p < G.length) (arc : ∀ x ∈ ws, Arc G x) : famM G p (planM G ws p).2 = true ∧ (∀ x ∈ (planM G ws p).2, x ∈ ws) ∧ (planM G ws p).2.length + 1 = (planM G ws p).1.length := by
  have ok := plOk hp arc (G.length - 1) (by omega)
  have mem : ∀ i, i ∈ (planM G ws p).2 ↔ i ∈ (planP G ws p).fa := fun i => (srt_perm _).mem_iff
  have sym : ∀ {a b : Nat}, (∀ i, i < G.length → ¬ (a ∈ G.getD i [] ∧ b ∈ G.getD i [])) → ∀ i, i < G.length → ¬ (b ∈ G.getD i [] ∧ a ∈ G.getD i []) := fun h i hi ⟨x, y⟩ => h i hi ⟨y, x⟩
  have ap : (planM G ws p).2.Pairwise fun a b => ∀ i, i < G.length → ¬ (a ∈ G.getD i [] ∧ b ∈ G.getD i []) := (List.Perm.pairwise_iff sym (srt_perm _)).mpr ok.ap
  have nd : (planP G ws p).fa.Nodup := by
    refine ok.ap.imp_of_mem fun {a b} ha hb h => ?_
    rintro rfl
    obtain ⟨_, _, s, _, _, _, m, _⟩ := ok.fa a ha
    exact h _ (Nat.mod_lt _ (by omega)) ⟨m, m⟩
  refine ⟨?_, fun x hx => (ok.fa x ((mem x).mp hx)).1, ?_⟩
  · unfold famM
    rw [Bool.and_eq_true, Bool.and_eq_true]
    refine ⟨decide_eq_true (sortU_id (srt_strict nd)).symm, ?_, ?_⟩
    · rw [Bool.not_eq_true', List.any_eq_false]
      intro x hx z
      exact (ok.fa x ((mem x).mp hx)).2.1 (has_iff.mp z)
    · rw [List.all_eq_true]
      intro g hg
      obtain ⟨i, hi⟩ := List.getElem?_of_mem hg
      have lt := (List.getElem?_eq_some_iff.mp hi).1
      have e : G.getD i [] = g := by rw [List.getD_eq_getElem?_getD, hi]; rfl
      exact decide_eq_true (filter_one (ap.imp fun {a b} h => by rw [← e]; exact h i lt))
  · show (srt _).length + 1 = (srt _).length
    rw [srt_len, srt_len]
    exact ok.len
theorem wish_di {ws : List Nat} {x : Nat} (h : x ∈ ws) : wishD ws (di x) = true := List.any_eq_true.mpr ⟨x, h, decide_eq_true rfl⟩
theorem natD_di (l : List Nat) : (l.map di).map natD = l := by
  rw [List.map_map]
  have : l.map (natD ∘ di) = l.map id := List.map_congr_left fun x _ => rfl
  rw [this, List.map_id]
theorem famD_tup {G : List (List Nat)} {ws l : List Nat} {p : Nat} (h : famM G p l = true) (hl : ∀ x ∈ l, x ∈ ws) : famD G ws p (tupN l) = true := by
  show ((l.map di).all (wishD ws) && famM G p ((l.map di).map natD)) = true
  rw [natD_di, h, Bool.and_true, List.all_eq_true]
  intro d hd
  obtain ⟨x, hx, rfl⟩ := List.mem_map.mp hd
  exact wish_di (hl x hx)
theorem minN_map {l : List Nat} (h : l ≠ []) : minN (l.map (· + 1)) = minN l + 1 := by
  have h' : l.map (· + 1) ≠ [] := fun z => h (List.map_eq_nil_iff.mp z)
  obtain ⟨a1, a2⟩ := minN_is h
  obtain ⟨b1, b2⟩ := minN_is h'
  obtain ⟨x, hx, e⟩ := List.mem_map.mp b1
  have c1 := a2 x hx
  have c2 := b2 (minN l + 1) (List.mem_map.mpr ⟨_, a1, rfl⟩)
  omega
/-- the told paper shows how many the told pricks are -/
theorem paper_shows {x : Wz} (arc : ∀ y ∈ x.ws, Arc x.G y) (hb : sbM x.G x.ws = false) (hw : x.ws ≠ []) : shownM x.G x.ws (paperM x) = some (bestM x.G x.ws).length := by
  unfold paperM shownM
  rw [if_neg (by rw [hb]; decide), if_neg hw, if_neg (by rw [hb]; decide), if_neg hw]
  obtain ⟨y, ys, ey⟩ : ∃ y ys, x.ws = y :: ys := by
    cases h : x.ws with
    | nil => exact absurd h hw
    | cons y ys => exact ⟨y, ys, rfl⟩
  have hy : x.ws.headD 0 ∈ x.ws := by rw [ey]; exact List.mem_cons_self
  show (if (wishD x.ws (di (x.ws.headD 0)) && famsD x.G x.ws (plM x.G (x.ws.headD 0)) (.tuple ((plansM x.G x.ws).map fun p => tupN p.2))) = true then _ else none) = _
  rw [if_pos]
  · congr 1
    obtain ⟨m, h1, h2⟩ := best_some hb hw
    have eb : bestM x.G x.ws = m.1 := by
      unfold bestM
      rw [h1]
      rfl
    obtain ⟨_, hmin⟩ := minBy_is _ _ _ h1
    have pf : ∀ p ∈ plansM x.G x.ws, p.2.length + 1 = p.1.length := fun p hp => by
      obtain ⟨f, hf, rfl⟩ := List.mem_map.mp hp
      exact (plan_fam (plM_lt hf) arc).2.2
    have el : ((plansM x.G x.ws).map fun p => tupN p.2).map lenD = (plansM x.G x.ws).map fun p => p.2.length := by
      rw [List.map_map]
      refine List.map_congr_left fun p _ => ?_
      show (p.2.map di).length = _
      rw [List.length_map]
    rw [el, eb]
    have ne : ((plansM x.G x.ws).map fun p => p.2.length) ≠ [] := fun z => by
      rw [List.map_eq_nil_iff] at z
      rw [z] at h2
      cases h2
    obtain ⟨a1, a2⟩ := minN_is ne
    obtain ⟨p, hp, e⟩ := List.mem_map.mp a1
    have b1 := a2 _ (List.mem_map.mpr ⟨m, h2, rfl⟩)
    have b2 := hmin p hp
    have c1 := pf m h2
    have c2 := pf p hp
    omega
  · rw [Bool.and_eq_true]
    refine ⟨wish_di hy, ?_⟩
    show (decide _ && _) = true
    rw [Bool.and_eq_true]
    refine ⟨decide_eq_true (by rw [List.length_map]; unfold plansM; rw [List.length_map]), List.all_eq_true.mpr fun z hz => ?_⟩
    obtain ⟨i, hi⟩ := List.getElem?_of_mem hz
    rw [List.getElem?_zip_eq_some] at hi
    obtain ⟨z1, z2⟩ := hi
    rw [List.getElem?_map] at z1
    obtain ⟨p, hp, e⟩ := Option.map_eq_some_iff.mp z1
    unfold plansM at hp
    rw [List.getElem?_map] at hp
    obtain ⟨f, hf, rfl⟩ := Option.map_eq_some_iff.mp hp
    rw [z2] at hf
    cases hf
    have k := plan_fam (plM_lt (List.mem_of_getElem? z2)) arc
    rw [← e]
    exact famD_tup k.1 k.2.1
/-- no paper shows more than what covers -/
theorem shown_le {G : List (List Nat)} {ws S : List Nat} {d : PyData} {k : Nat} (h : shownM G ws d = some k) (hS : Cov G ws S) : k ≤ S.length := by
  unfold shownM at h
  split at h
  · cases h
  rename_i hb
  have hb : sbM G ws = false := by
    cases z : sbM G ws with
    | true => exact absurd z hb
    | false => rfl
  split at h
  · split at h
    · cases h
      exact Nat.zero_le _
    · cases h
  · unfold shownP at h
    split at h
    · rename_i cl fs
      split at h
      · rename_i hc
        rw [Bool.and_eq_true] at hc
        obtain ⟨w1, w2⟩ := hc
        obtain ⟨_, hcl⟩ := wish_nat w1
        obtain ⟨hn, hft⟩ := fams_ne w2 (sb_pl hb hcl)
        have w3 : (decide (fs.length = (plM G (natD cl)).length) && (fs.zip (plM G (natD cl))).all fun x => famD G ws x.2 x.1) = true := w2
        rw [Bool.and_eq_true, decide_eq_true_eq] at w3
        obtain ⟨p, hp, mp⟩ := hS.2 _ hcl
        have hpl := hS.1 p hp
        have hpm : p ∈ plM G (natD cl) := List.mem_filter.mpr ⟨List.mem_range.mpr hpl, has_iff.mpr mp⟩
        obtain ⟨i, hi⟩ := List.getElem?_of_mem hpm
        have li := (List.getElem?_eq_some_iff.mp hi).1
        have hfi : fs[i]? = some (fs[i]'(by omega)) := List.getElem?_eq_getElem (by omega)
        have hz : (fs.zip (plM G (natD cl)))[i]? = some (fs[i]'(by omega), p) := by
          rw [List.getElem?_zip_eq_some]
          exact ⟨hfi, hi⟩
        have hfam := List.all_eq_true.mp w3.2 _ (List.mem_of_getElem? hz)
        have hmem : (fs[i]'(by omega)) ∈ fs := List.getElem_mem _
        obtain ⟨ds, eds⟩ := hft _ hmem
        rw [eds] at hfam hmem
        have hfam : (ds.all (wishD ws) && famM G p (ds.map natD)) = true := hfam
        rw [Bool.and_eq_true] at hfam
        obtain ⟨e1, hin⟩ := wish_all hfam.1
        have hf2 := hfam.2
        unfold famM at hf2
        rw [Bool.and_eq_true, Bool.and_eq_true, decide_eq_true_eq, Bool.not_eq_true', List.any_eq_false, List.all_eq_true] at hf2
        obtain ⟨u1, u2, u3⟩ := hf2
        have up : (ds.map natD).Pairwise (· < ·) := by rw [u1]; exact sortU_up _
        have bd := fam_bound (l := ds.map natD) hS hp (fun y hy => ⟨hin y hy, fun z => u2 y hy (has_iff.mpr z)⟩) (by
          refine up.imp_of_mem fun {a b} ha hb lt j hj ⟨ma, mb⟩ => ?_
          have hgj : G.getD j [] ∈ G := by
            rw [List.getD_eq_getElem?_getD, List.getElem?_eq_getElem hj]
            exact List.getElem_mem hj
          have one := of_decide_eq_true (u3 _ hgj)
          have fa : a ∈ (ds.map natD).filter fun x => (G.getD j []).contains x := List.mem_filter.mpr ⟨ha, has_iff.mpr ma⟩
          have fb : b ∈ (ds.map natD).filter fun x => (G.getD j []).contains x := List.mem_filter.mpr ⟨hb, has_iff.mpr mb⟩
          cases hL : (ds.map natD).filter fun x => (G.getD j []).contains x with
          | nil => rw [hL] at fa; cases fa
          | cons x t =>
            rw [hL] at fa fb one
            have : t = [] := by
              cases t with
              | nil => rfl
              | cons _ _ => simp at one
            subst this
            have e1 := List.mem_singleton.mp fa
            have e2 := List.mem_singleton.mp fb
            omega)
        have hle : minN (fs.map lenD) ≤ ds.length := (minN_is (fun z => hn (List.map_eq_nil_iff.mp z))).2 _ (List.mem_map.mpr ⟨_, hmem, rfl⟩)
        cases h
        rw [List.length_map] at bd
        omega
      · cases h
    · cases h
end Nr
namespace Nr
open PySem PySem.Spec PyProof.Rows L2 Evl
theorem allSome_iff {L : List (List Nat)} : allSome L = true ↔ ∀ l ∈ L, l ≠ [] := by
  unfold allSome
  rw [List.all_eq_true]
  constructor
  · intro h l hl z
    have := h l hl
    rw [z] at this
    cases this
  · intro h l hl
    have := h l hl
    cases l with
    | nil => exact absurd rfl this
    | cons => rfl
theorem mem_harms {G : List (List Nat)} {ws l : List Nat} {c : Nat} : l ∈ harmsM G ws c ↔ ∃ lot ∈ G, c ∈ lot ∧ l = unwM lot ws := by
  unfold harmsM
  rw [List.mem_map]
  constructor
  · rintro ⟨lot, h1, rfl⟩
    obtain ⟨h2, h3⟩ := List.mem_filter.mp h1
    exact ⟨lot, h2, by simpa using h3, rfl⟩
  · rintro ⟨lot, h1, h2, rfl⟩
    exact ⟨lot, List.mem_filter.mpr ⟨h1, by simpa using h2⟩, rfl⟩
theorem mem_bar {G : List (List Nat)} {ws : List Nat} {c : Nat} : c ∈ (barM G ws).map (·.1) ↔ c ∈ ws ∧ allSome (harmsM G ws c) = true := by
  unfold barM barP
  rw [List.map_map, List.mem_map]
  constructor
  · rintro ⟨x, hx, rfl⟩
    exact List.mem_filter.mp hx
  · intro h
    exact ⟨c, List.mem_filter.mpr h, rfl⟩
theorem mem_good {G : List (List Nat)} {ws : List Nat} {c : Nat} : c ∈ goodM G ws ↔ ∃ lot ∈ G, c ∈ lot ∧ ∀ x ∈ lot, x ∈ ws := by
  unfold goodM
  rw [List.mem_filter]
  constructor
  · rintro ⟨h1, h2⟩
    have h3 : c ∉ (barM G ws).map (·.1) := by simpa using h2
    refine Classical.byContradiction fun z => h3 (mem_bar.mpr ⟨h1, allSome_iff.mpr fun l hl e => ?_⟩)
    obtain ⟨lot, a, b, rfl⟩ := mem_harms.mp hl
    exact z ⟨lot, a, b, unw_nil.mp e⟩
  · rintro ⟨lot, a, b, d⟩
    refine ⟨d c b, ?_⟩
    have h3 : c ∉ (barM G ws).map (·.1) := fun z => allSome_iff.mp (mem_bar.mp z).2 _ (mem_harms.mpr ⟨lot, a, b, rfl⟩) (unw_nil.mpr d)
    simpa using h3
theorem good_up {G : List (List Nat)} {ws : List Nat} (h : ws.Pairwise (· < ·)) : (goodM G ws).Pairwise (· < ·) := h.sublist List.filter_sublist
theorem good_len {G : List (List Nat)} {ws : List Nat} : (goodM G ws).length ≤ ws.length := List.length_filter_le _ _
theorem good_sub {G : List (List Nat)} {ws : List Nat} {c : Nat} (h : c ∈ goodM G ws) : c ∈ ws := (List.mem_filter.mp h).1
theorem good_mono {G : List (List Nat)} {ws ms : List Nat} (h : ∀ x ∈ ws, x ∈ ms) {c : Nat} (hc : c ∈ goodM G ws) : c ∈ goodM G ms := by
  obtain ⟨lot, a, b, d⟩ := mem_good.mp hc
  exact mem_good.mpr ⟨lot, a, b, fun x hx => h x (d x hx)⟩
theorem good_good {G : List (List Nat)} {ws : List Nat} : goodM G (goodM G ws) = goodM G ws := by
  have key : ∀ c ∈ goodM G ws, c ∈ goodM G (goodM G ws) := fun c hc => by
    obtain ⟨lot, a, b, d⟩ := mem_good.mp hc
    exact mem_good.mpr ⟨lot, a, b, fun x hx => mem_good.mpr ⟨lot, a, hx, d⟩⟩
  have e : ∀ g : List Nat, (∀ c ∈ g, c ∈ goodM G g) → goodM G g = g := fun g hg => by
    unfold goodM at hg ⊢
    exact List.filter_eq_self.mpr fun c hc => (List.mem_filter.mp (hg c hc)).2
  exact e _ key
/-- by a barred cell's spoilt ones each needle through it is seen to spoil -/
theorem bar_seen {G : List (List Nat)} {ws cells : List Nat} {p : Nat × List Nat} (hp : p ∈ barM G ws) (hc : cells ∈ G) (hm : p.1 ∈ cells) : unwM (p.2.filter fun x => cells.contains x) ws ≠ [] := by
  unfold barM barP at hp
  obtain ⟨c, h1, rfl⟩ := List.mem_map.mp hp
  obtain ⟨h2, h3⟩ := List.mem_filter.mp h1
  have hl : unwM cells ws ∈ harmsM G ws c := mem_harms.mpr ⟨cells, hc, hm, rfl⟩
  have hne := allSome_iff.mp h3 _ hl
  obtain ⟨m1, m2⟩ := minN_is hne
  obtain ⟨m3, m4⟩ := mem_unw.mp m1
  intro z
  have : minN (unwM cells ws) ∈ unwM (((harmsM G ws c).map minN).filter fun x => cells.contains x) ws := mem_unw.mpr ⟨List.mem_filter.mpr ⟨List.mem_map.mpr ⟨_, hl, rfl⟩, by simpa using m3⟩, m4⟩
  rw [z] at this
  cases this
theorem mem_G {x : Wz} {lot : List Nat} : lot ∈ x.G ↔ lot ∈ grpM x.n x.g x.h x.e ∧ ∀ y ∈ lot, y ∈ x.ws := by
  show lot ∈ (harmM x.n x.g x.h x.e x.ws).map _ ↔ _
  unfold harmM rowsM grpM
  constructor
  · intro h
    obtain ⟨r, hr, rfl⟩ := List.mem_map.mp h
    obtain ⟨h1, h2⟩ := List.mem_filter.mp hr
    obtain ⟨q, hq, rfl⟩ := List.mem_map.mp h1
    exact ⟨List.mem_map.mpr ⟨q, hq, rfl⟩, unw_nil.mp (List.isEmpty_iff.mp h2)⟩
  · rintro ⟨h1, h2⟩
    obtain ⟨q, hq, rfl⟩ := List.mem_map.mp h1
    exact List.mem_map.mpr ⟨rowOf x.n x.g x.h x.e _ q, List.mem_filter.mpr ⟨List.mem_map.mpr ⟨q, hq, rfl⟩, List.isEmpty_iff.mpr (unw_nil.mpr h2)⟩, rfl⟩
theorem pl_ne {G : List (List Nat)} {y : Nat} : plM G y ≠ [] ↔ ∃ lot ∈ G, y ∈ lot := by
  constructor
  · intro h
    obtain ⟨i, hi⟩ := List.exists_mem_of_ne_nil _ h
    have lt := plM_lt hi
    have m := has_iff.mp (List.mem_filter.mp hi).2
    rw [List.getD_eq_getElem?_getD, List.getElem?_eq_getElem lt] at m
    exact ⟨_, List.getElem_mem lt, m⟩
  · rintro ⟨lot, hl, hy⟩ z
    obtain ⟨i, hi⟩ := List.getElem?_of_mem hl
    have lt := (List.getElem?_eq_some_iff.mp hi).1
    have : i ∈ plM G y := List.mem_filter.mpr ⟨List.mem_range.mpr lt, by rw [List.getD_eq_getElem?_getD, hi]; exact has_iff.mpr hy⟩
    rw [z] at this
    cases this
theorem sb_iff {x : Wz} : sbM x.G x.ws = false ↔ ∀ y ∈ x.ws, y ∈ goodM (grpM x.n x.g x.h x.e) x.ws := by
  constructor
  · intro hb y hy
    obtain ⟨lot, hl, m⟩ := pl_ne.mp (sb_pl hb hy)
    obtain ⟨h1, h2⟩ := mem_G.mp hl
    exact mem_good.mpr ⟨lot, h1, m, h2⟩
  · intro h
    unfold sbM
    rw [List.any_eq_false]
    intro y hy z
    obtain ⟨lot, h1, m, h2⟩ := mem_good.mp (h y hy)
    exact pl_ne.mpr ⟨lot, mem_G.mpr ⟨h1, h2⟩, m⟩ (List.isEmpty_iff.mp z)
theorem bar_nil {x : Wz} : barM (grpM x.n x.g x.h x.e) x.ws = [] ↔ sbM x.G x.ws = false := by
  rw [sb_iff]
  constructor
  · intro h y hy
    unfold goodM
    rw [h]
    exact List.mem_filter.mpr ⟨hy, rfl⟩
  · intro h
    cases hb : barM (grpM x.n x.g x.h x.e) x.ws with
    | nil => rfl
    | cons p l =>
      have hm : p.1 ∈ (barM (grpM x.n x.g x.h x.e) x.ws).map (·.1) := by rw [hb]; exact List.mem_cons_self
      have hw := (mem_bar.mp hm).1
      have := (List.mem_filter.mp (h _ hw)).2
      rw [has_iff.mpr hm] at this
      cases this
theorem good_eq {x : Wz} : goodM (grpM x.n x.g x.h x.e) x.ws = x.ws ↔ sbM x.G x.ws = false := by
  rw [sb_iff]
  constructor
  · intro h y hy
    rw [h]
    exact hy
  · intro h
    unfold goodM at h ⊢
    exact List.filter_eq_self.mpr fun y hy => (List.mem_filter.mp (h y hy)).2
end Nr
namespace Nr
open PySem PySem.Spec PyProof.Rows L2 Evl
end Nr
namespace Nr
open PySem PySem.Spec PyProof.Rows L2 Evl
/-! a list or a tuple is walked -/
def iSeq (K : PySem.W.Frag) (tl : TE) : TI := fun σ H R => tl σ H fun x H1 => ∃ a, x = .ref a ∧ (((∃ xs, SqL K H1 a xs) ∧ R (Itl K a) H1) ∨ ((∃ xs, SqT K H1 a xs) ∧ R (Itt K a) H1))
theorem pi_seq {X : Cx} {tg l : Expr} {tl : TE} (hl : PE X l tl) : PI X tg l (iSeq X.K tl) := by
  refine ⟨fun pins s σ H R I h => ?_⟩
  refine thn (hl.run pins s σ H _ I h) fun v s1 ⟨x, H1, I1, r1, q1⟩ => ?_
  obtain ⟨a, e, q1⟩ := q1
  subst e
  cases r1
  rcases q1 with ⟨⟨xs, hq⟩, q⟩ | ⟨⟨xs, hq⟩, q⟩
  · obtain ⟨its, rv, p, hz⟩ := I1.list hq
    refine wpAny_pyIter_list p.isList ?_
    refine ⟨s1.heap.objs.size, [s1.heap.objs.size], _, _, H1, rfl, I1.kept (t' := s1.toks) fun b o e => Heap.get?_push_of_some _ e, turn_list a _, ⟨_, Heap.get?_push_size _ rfl, rfl, rfl⟩, fun b hb => ?_, q⟩
    have e : b = s1.heap.objs.size := by simpa using hb
    subst e
    exact I1.fpOk (Nat.le_refl _) (I1.hok.fresh (Nat.le_refl _))
  · obtain ⟨its, rv, p, hz⟩ := I1.tuple hq
    refine wpAny_pyIter_tuple p ?_
    refine ⟨s1.heap.objs.size, [s1.heap.objs.size], _, _, H1, rfl, I1.kept (t' := s1.toks) fun b o e => Heap.get?_push_of_some _ e, turn_tuple a _, ⟨_, Heap.get?_push_size _ rfl, rfl, rfl⟩, fun b hb => ?_, q⟩
    have e : b = s1.heap.objs.size := by simpa using hb
    subst e
    exact I1.fpOk (Nat.le_refl _) (I1.hok.fresh (Nat.le_refl _))
section
variable {K : PySem.W.Frag} {c : Md} {δ : List Sl} {te : TE} {tr : TA} {d : PyData} {ds : List PyData} {D H D2 H2 : Hp} {σ : L2.St} {En : Ends} {tz : TS} {i j : Nat} {p : Addr}
theorem wk_list {xs : List V} (hp : D p = some (.lst xs)) (ha : DqAll K D xs ds) : Wk K c (Itl K p) D ds := by
  refine ⟨fun H' e' => ⟨xs, sq_of (e' _ _ hp), by rw [dqa_len ha]; exact Nat.le_refl _⟩, fun i H' lt e' => ?_, fun i d D' H' x H2 hi e' s' y => ?_⟩
  · have : i < xs.length := by rw [dqa_len ha]; exact lt
    exact ⟨xs, xs[i], sq_of (e' _ _ hp), List.getElem?_eq_getElem this⟩
  · obtain ⟨rfl, y⟩ := y
    obtain ⟨v, h1, h2⟩ := dqa_get ha hi
    have := y xs (sq_of (s'.ex _ _ (e' _ _ hp)))
    rw [h1] at this
    cases this
    exact ⟨D', Fw.refl s', dq_ex e' _ _ h2⟩
theorem wk_tup {xs : List V} (hp : SqT K D p xs) (ha : DqAll K D xs ds) : Wk K c (Itt K p) D ds := by
  refine ⟨fun H' e' => ⟨xs, ex_t e' hp, by rw [dqa_len ha]; exact Nat.le_refl _⟩, fun i H' lt e' => ?_, fun i d D' H' x H2 hi e' s' y => ?_⟩
  · have : i < xs.length := by rw [dqa_len ha]; exact lt
    exact ⟨xs, xs[i], ex_t e' hp, List.getElem?_eq_getElem this⟩
  · obtain ⟨rfl, y⟩ := y
    obtain ⟨v, h1, h2⟩ := dqa_get ha hi
    have := y xs (ex_t s'.ex (ex_t e' hp))
    rw [h1] at this
    cases this
    exact ⟨D', Fw.refl s', dq_ex e' _ _ h2⟩
theorem ei_seq {k : Bool} (h : ED K c te δ (seqD k ds)) : EI K c (iSeq K te) δ ds := fun σ D H s e R q =>
  h σ D H s e _ fun v D1 H1 f1 d1 => by
    cases k with
    | true =>
      obtain ⟨p, xs, rfl, hp, ha⟩ := dq_tup d1
      exact ⟨p, rfl, .inr ⟨⟨xs, ex_t f1.sb.ex hp⟩, q _ D1 H1 f1 (wk_tup hp ha)⟩⟩
    | false =>
      obtain ⟨p, xs, rfl, hp, ha⟩ := dq_lst d1
      exact ⟨p, rfl, .inl ⟨⟨xs, sq_of (f1.sb.ex _ _ hp)⟩, q _ D1 H1 f1 (wk_list hp ha)⟩⟩
/-! a dict of numbers that is filled -/
def AccK (D H : Hp) (p : Addr) (S : Nat → Prop) : Prop := D p = none ∧ ∃ kvs, H p = some (.dK kvs) ∧ DK kvs S
theorem AccK.fw {S : Nat → Prop} (A : AccK D H p S) (f : Fw c D H D2 H2) (nb : c.bag ≠ some p) : AccK D2 H2 p S := by
  obtain ⟨n, kvs, h, d⟩ := A
  exact ⟨f.off h n trivial, kvs, f.keep h trivial nb, d⟩
theorem AccK.ch {q : Addr} {S : Nat → Prop} (A : AccK D H q S) (f : Ch c p D H D2 H2) (ne : q ≠ p) (nb : c.bag ≠ some q) : AccK D2 H2 q S := by
  obtain ⟨n, kvs, h, d⟩ := A
  exact ⟨f.new _ _ h n trivial, kvs, f.hx _ _ ne h (.inr fun _ z => by cases z) nb, d⟩
theorem AccK.congr {S S' : Nat → Prop} (A : AccK D H p S) (h : ∀ y, S y ↔ S' y) : AccK D H p S' := by
  obtain ⟨n, kvs, k, d⟩ := A
  exact ⟨n, kvs, k, d.congr h⟩
theorem l_newK (S : LB K c δ D H σ) (k : ∀ p σ2 H2, Fw c D H D H2 → Fr c H p → c.bag ≠ some p → AccK D H2 p (fun _ => False) → LB K c (δ.set i (.raw (.ref p))) D H2 σ2 → tz En σ2 H2) : tSeq (tAsg tDNewK (gName i)) tz En σ H := fun p hp => by
  have f := Fw.made (o := .dK []) S.sb hp
  exact k p _ _ f (.none hp) (S.sb.nbH hp) ⟨S.sb.free hp, [], upd_same, DK.nil⟩ ((S.fw f).raw)
theorem e_putK {S0 : Nat → Prop} {x n : Nat} (S : LB K c δ D H σ) (hi : δ[i]? = some (.raw (.ref p))) (A : AccK D H p S0) (nb : c.bag ≠ some p) (hj : δ[j]? = some (.dat (di x))) (hn : ∀ y, S0 y → y < n) (hn2 : n ≤ 1000)
    (k : ∀ H2, Ch c p D H D H2 → AccK D H2 p (fun y => S0 y ∨ y = x) → LB K c δ D H2 σ → En.nx σ H2) : sDPut (tVar i) (tVar j) (tC (.bl true)) En σ H := by
  obtain ⟨nD, kvs, hp, hd⟩ := A
  obtain ⟨v, hv, dv⟩ := S.se.get hj
  rw [dq_int dv] at hv
  have hl := hd.len hn
  have ch := Ch.of (o := .dK (putK kvs (kn x) (.bl true))) (Fw.refl S.sb) nD hp trivial nb
  exact ⟨.ref p, S.se.raw hi, vi x, hv, p, _, rfl, DPut.k (k := kn x) hp (small1000 (by omega)), k _ ch ⟨nD, _, upd_same, hd.put⟩ (S.ch ch)⟩
theorem k_sorted {S0 : Nat → Prop} {n : Nat} {ms : List Nat} {Q : VK} (S : LB K c δ D H σ) (hi : δ[i]? = some (.raw (.ref p))) (A : AccK D H p S0) (hn : ∀ y, S0 y → y < n) (h64 : n < 64) (up : ms.Pairwise (· < ·)) (hm : ∀ y, y ∈ ms ↔ S0 y)
    (k : ∀ v D2 H2, Fw c D H D2 H2 → Dq K D2 v (.list (ms.map di)) → Q v H2) : tCB rSortDI (tCons (tVar i) tNil) σ H Q := by
  obtain ⟨nD, kvs, hp, hd⟩ := A
  refine ⟨.ref p, S.se.raw hi, hd.sorted hp hn h64 up hm fun t ht => ?_⟩
  have f := Fw.alloc (o := .lst (ms.map vi)) S.sb ht trivial
  exact k _ _ _ f (.lst upd_same (vis_dqa _))
theorem k_tupSorted {S0 : Nat → Prop} {n : Nat} {ms : List Nat} {Q : VK} (S : LB K c δ D H σ) (hi : δ[i]? = some (.raw (.ref p))) (A : AccK D H p S0) (hn : ∀ y, S0 y → y < n) (h64 : n < 64) (up : ms.Pairwise (· < ·)) (hm : ∀ y, y ∈ ms ↔ S0 y)
    (k : ∀ v D2 H2, Fw c D H D2 H2 → Dq K D2 v (tupN ms) → Q v H2) : tCB (rTupS K) (tCons (tCB rSortDI (tCons (tVar i) tNil)) tNil) σ H Q :=
  k_sorted S hi A hn h64 up hm fun v D2 H2 f dv => b_tupL [v] D2 H2 f.sb (.cons dv .nil) _ fun v D3 H3 f3 dv => k v D3 H3 (f.trans f3) dv
end
/-! what needles make -/
def madeM (n g h e : Nat) (as : List (Nat × Nat)) : List Nat := sortU (as.flatMap fun a => pricksM n g h e a.1 a.2)
theorem mem_made {n g h e x : Nat} {as : List (Nat × Nat)} : x ∈ madeM n g h e as ↔ ∃ a ∈ as, x ∈ pricksM n g h e a.1 a.2 := by
  unfold madeM
  rw [sortU_mem, List.mem_flatMap]
structure Mz where
  k : Bool
  n : Nat
  g : Nat
  h : Nat
  e : Nat
  as : List (Nat × Nat)
structure Mz.ok (x : Mz) : Prop where
  n : x.n ≤ 31
  g : 2 ≤ x.g
  g2 : x.g ≤ 1000
  h : x.h ≤ 1000
  e : x.e ≤ 1
  as : ∀ a ∈ x.as, 0 < a.2 ∧ a.1 < 2 ^ 200 ∧ a.2 < 2 ^ 200
section
variable {P : Program} {w : World} {K : PySem.W.Frag} {mg : Str → Option Value} {base : Heap}
end
end Nr
namespace Nr
open PySem PySem.Spec PyProof.Rows L2 Evl
/-! covers by stretches -/
def Wz.pk (x : Wz) (q : Nat × Nat) : List Nat := pricksM x.n x.g x.h x.e q.1 (wholeM x.n x.g x.h)
structure CovP (x : Wz) (L : List (Nat × Nat)) : Prop where
  pr : ∀ q ∈ L, q ∈ pairsM x.n x.g x.h ∧ ∀ y ∈ x.pk q, y ∈ x.ws
  co : ∀ y ∈ x.ws, ∃ q ∈ L, y ∈ x.pk q
def Wz.hq (x : Wz) : List (Nat × Nat) := (pairsM x.n x.g x.h).filter fun q => (unwM (x.pk q) x.ws).isEmpty
theorem harm_hq (x : Wz) : x.harm = x.hq.map (rowOf x.n x.g x.h x.e (wholeM x.n x.g x.h)) := by
  show (rowsM _ _ _ _).filter _ = _
  unfold rowsM Wz.hq
  rw [List.filter_map]
  rfl
theorem G_hq (x : Wz) : x.G = x.hq.map x.pk := by
  show x.harm.map _ = _
  rw [harm_hq, List.map_map]
  rfl
theorem G_at {x : Wz} {i : Nat} (hi : i < x.G.length) : ∃ q, x.hq[i]? = some q ∧ x.G.getD i [] = x.pk q := by
  have e := G_hq x
  have h2 : i < x.hq.length := by rw [e, List.length_map] at hi; exact hi
  refine ⟨x.hq[i], List.getElem?_eq_getElem h2, ?_⟩
  rw [e, List.getD_eq_getElem?_getD, List.getElem?_map, List.getElem?_eq_getElem h2]
  rfl
theorem mem_hq {x : Wz} {q : Nat × Nat} : q ∈ x.hq ↔ q ∈ pairsM x.n x.g x.h ∧ ∀ y ∈ x.pk q, y ∈ x.ws := by
  unfold Wz.hq
  rw [List.mem_filter, List.isEmpty_iff, unw_nil]
def Wz.prs (x : Wz) (S : List Nat) : List (Nat × Nat) := S.map fun i => x.hq.getD i (0, 0)
theorem Cov.prs {x : Wz} {S : List Nat} (h : Cov x.G x.ws S) : CovP x (x.prs S) := by
  refine ⟨fun q hq => ?_, fun y hy => ?_⟩
  · obtain ⟨i, hi, rfl⟩ := List.mem_map.mp hq
    obtain ⟨q, h1, _⟩ := G_at (h.1 i hi)
    rw [List.getD_eq_getElem?_getD, h1]
    exact mem_hq.mp (List.mem_of_getElem? h1)
  · obtain ⟨i, hi, m⟩ := h.2 y hy
    obtain ⟨q, h1, h2⟩ := G_at (h.1 i hi)
    refine ⟨q, List.mem_map.mpr ⟨i, hi, ?_⟩, h2 ▸ m⟩
    rw [List.getD_eq_getElem?_getD, h1]
    rfl
theorem CovP.cov {x : Wz} {L : List (Nat × Nat)} (h : CovP x L) : ∃ S, Cov x.G x.ws S ∧ S.length = L.length := by
  refine ⟨L.map fun q => x.hq.idxOf q, ⟨fun i hi => ?_, fun y hy => ?_⟩, List.length_map _⟩
  · obtain ⟨q, hq, rfl⟩ := List.mem_map.mp hi
    rw [G_hq, List.length_map]
    exact List.idxOf_lt_length_of_mem (mem_hq.mpr (h.pr q hq))
  · obtain ⟨q, hq, m⟩ := h.co y hy
    have lt := List.idxOf_lt_length_of_mem (mem_hq.mpr (h.pr q hq))
    refine ⟨_, List.mem_map.mpr ⟨q, hq, rfl⟩, ?_⟩
    rw [G_hq, List.getD_eq_getElem?_getD, List.getElem?_map, List.getElem?_eq_getElem lt, List.getElem_idxOf lt]
    exact m
/-- the fewest -/
structure MinP (x : Wz) (k : Nat) : Prop where
  is : ∃ L, CovP x L ∧ L.length = k
  low : ∀ L, CovP x L → k ≤ L.length
theorem MinP.uniq {x : Wz} {j k : Nat} (a : MinP x j) (b : MinP x k) : j = k := by
  obtain ⟨L, h, rfl⟩ := a.is
  obtain ⟨M, h', rfl⟩ := b.is
  have := a.low M h'
  have := b.low L h
  omega
structure Wz.fit (x : Wz) : Prop where
  ok : x.ok
  e : x.e ≤ 1
  lt : ∀ y ∈ x.ws, y < x.n
  up : x.ws.Pairwise (· < ·)
theorem up_le {l : List Nat} {n : Nat} (up : l.Pairwise (· < ·)) (lt : ∀ y ∈ l, y < n) : l.length ≤ n := by
  have := pig (R := fun a s => a = s) l (List.range n) (fun a ha => ⟨a, List.mem_range.mpr (lt a ha), rfl⟩) (up.imp fun {a b} z s h => by omega)
  rw [List.length_range] at this
  exact this
theorem fit_arc {x : Wz} (f : x.fit) : ∀ y ∈ x.ws, Arc x.G y := fun y hy => harm_arc f.ok.g (f.lt y hy)
def angOk (a : Nat × Nat) : Prop := 0 < a.2 ∧ a.1 < 2 ^ 200 ∧ a.2 < 2 ^ 200
theorem row_ang {x : Wz} (ok : x.ok) {q : Nat × Nat} (hq : q ∈ pairsM x.n x.g x.h) : angOk (lowP q.1 (wholeM x.n x.g x.h)) ∧ pricksM x.n x.g x.h x.e (lowP q.1 (wholeM x.n x.g x.h)).1 (lowP q.1 (wholeM x.n x.g x.h)).2 = x.pk q := by
  have hw := whole_pos (n := x.n) (h := x.h) (show 0 < x.g by have := ok.g; omega)
  have hl := whole_lt ok.n ok.g ok.g2 ok.h
  have k := (pairs_up (n := x.n) (g := x.g) (h := x.h) (by have := ok.g; omega)).2 q hq
  have l := low_le (T := q.1) (w := wholeM x.n x.g x.h)
  refine ⟨⟨low_pos hw, ?_, ?_⟩, pricks_low hw⟩
  · exact Nat.lt_of_lt_of_le (Nat.lt_of_le_of_lt l.1 (by omega : q.1 < 2 ^ 30)) (by decide)
  · exact Nat.lt_of_lt_of_le (Nat.lt_of_le_of_lt l.2 hl) (by decide)
def Wz.toldOf (x : Wz) (L : List (Nat × Nat)) : List (Nat × Nat) := L.map fun q => lowP q.1 (wholeM x.n x.g x.h)
theorem mem_toldMade {x : Wz} (ok : x.ok) {L : List (Nat × Nat)} (h : ∀ q ∈ L, q ∈ pairsM x.n x.g x.h) {y : Nat} : y ∈ madeM x.n x.g x.h x.e (x.toldOf L) ↔ ∃ q ∈ L, y ∈ x.pk q := by
  rw [mem_made]
  constructor
  · rintro ⟨a, ha, m⟩
    obtain ⟨q, hq, rfl⟩ := List.mem_map.mp ha
    rw [(row_ang ok (h q hq)).2] at m
    exact ⟨q, hq, m⟩
  · rintro ⟨q, hq, m⟩
    refine ⟨_, List.mem_map.mpr ⟨q, hq, rfl⟩, ?_⟩
    rw [(row_ang ok (h q hq)).2]
    exact m
theorem up_ext {l m : List Nat} (hl : l.Pairwise (· < ·)) (hm : m.Pairwise (· < ·)) (h : ∀ y, y ∈ l ↔ y ∈ m) : l = m := by
  have p : l.Perm m := (List.perm_ext_iff_of_nodup (hl.imp fun {a b} z => Nat.ne_of_lt z) (hm.imp fun {a b} z => Nat.ne_of_lt z)).mpr h
  exact p.eq_of_pairwise (fun a b _ _ h1 h2 => by omega) (hl.imp fun z => Nat.le_of_lt z) (hm.imp fun z => Nat.le_of_lt z)
theorem madeM_up (n g h e : Nat) (as : List (Nat × Nat)) : (madeM n g h e as).Pairwise (· < ·) := sortU_up _
/-- all that is told of what can be made -/
structure Told (x : Wz) (L : List (Nat × Nat)) : Prop where
  cov : CovP x L
  low : ∀ M, CovP x M → L.length ≤ M.length
  few : fewM x = some (x.toldOf L)
  shown : shownM x.G x.ws (paperM x) = some L.length
theorem Told.min {x : Wz} {L : List (Nat × Nat)} (t : Told x L) : MinP x L.length := ⟨⟨L, t.cov, rfl⟩, t.low⟩
theorem Told.made {x : Wz} {L : List (Nat × Nat)} (t : Told x L) (f : x.fit) : madeM x.n x.g x.h x.e (x.toldOf L) = x.ws := by
  refine up_ext (madeM_up _ _ _ _ _) f.up fun y => ?_
  rw [mem_toldMade f.ok fun q hq => (t.cov.pr q hq).1]
  constructor
  · rintro ⟨q, hq, m⟩
    exact (t.cov.pr q hq).2 y m
  · exact t.cov.co y
theorem Told.ang {x : Wz} {L : List (Nat × Nat)} (t : Told x L) (f : x.fit) : ∀ a ∈ x.toldOf L, angOk a := fun a ha => by
  obtain ⟨q, hq, rfl⟩ := List.mem_map.mp ha
  exact (row_ang f.ok (t.cov.pr q hq).1).1
theorem Told.len {x : Wz} {L : List (Nat × Nat)} (t : Told x L) (f : x.fit) : L.length ≤ 61 := by
  have c : CovP x x.hq := ⟨fun q hq => mem_hq.mp hq, fun y hy => by
    obtain ⟨q, hq, m⟩ := t.cov.co y hy
    exact ⟨q, mem_hq.mpr (t.cov.pr q hq), m⟩⟩
  have a := t.low _ c
  have b := G_len f.ok
  rw [G_hq, List.length_map] at b
  omega
theorem told_of {x : Wz} (f : x.fit) (hb : sbM x.G x.ws = false) : ∃ L, Told x L := by
  by_cases hw : x.ws = []
  · refine ⟨[], ⟨⟨(fun q hq => by cases hq), fun y hy => ?_⟩, fun M _ => Nat.zero_le _, ?_, ?_⟩⟩
    · rw [hw] at hy; cases hy
    · unfold fewM
      rw [if_neg (by rw [hb]; decide), if_pos hw]
      rfl
    · unfold shownM paperM
      rw [if_neg (by rw [hb]; decide), if_pos hw, if_neg (by rw [hb]; decide), if_pos hw]
      rfl
  · have few := few_best (fit_arc f) hb hw
    refine ⟨x.prs (bestM x.G x.ws), ⟨few.cov.prs, fun M hM => ?_, ?_, ?_⟩⟩
    · obtain ⟨S, hS, e⟩ := hM.cov
      have := few.low S hS
      rw [← e]
      unfold Wz.prs
      rw [List.length_map]
      exact this
    · unfold fewM
      rw [if_neg (by rw [hb]; decide), if_neg hw]
      congr 1
      unfold Wz.toldOf Wz.prs
      rw [List.map_map]
      refine List.map_congr_left fun i hi => ?_
      obtain ⟨q, h1, _⟩ := G_at (few.cov.1 i hi)
      unfold rowAt
      rw [harm_hq, List.getD_eq_getElem?_getD, List.getElem?_map, h1]
      show _ = lowP (x.hq.getD i (0, 0)).1 _
      rw [List.getD_eq_getElem?_getD, h1]
      rfl
    · rw [paper_shows (fit_arc f) hb hw]
      unfold Wz.prs
      rw [List.length_map]
/-- where some are barred -/
theorem few_none {x : Wz} (hb : sbM x.G x.ws = true) : fewM x = none ∧ paperM x = .none := by
  unfold fewM paperM
  rw [if_pos hb, if_pos hb]
  exact ⟨rfl, rfl⟩
theorem pap_small {x : Wz} (f : x.fit) : smPap (paperM x) := by
  intro ds hds
  unfold paperM at hds
  split at hds
  · cases hds
  · split at hds
    · cases hds
      exact ⟨Nat.zero_le _, (fun z hz => by cases hz)⟩
    · cases hds
      refine ⟨by show 2 ≤ 1000; decide, fun z hz => ?_⟩
      rcases List.mem_cons.mp hz with rfl | hz
      · intro d h; cases h
      · rw [List.mem_singleton.mp hz]
        intro d h
        cases h
        have hl := plans_len x.G x.ws
        have hG := G_len f.ok
        refine ⟨by rw [List.length_map]; omega, fun y hy => ?_⟩
        obtain ⟨p, hp, rfl⟩ := List.mem_map.mp hy
        intro d h
        cases h
        unfold plansM at hp
        obtain ⟨i, hi, rfl⟩ := List.mem_map.mp hp
        have k := plan_fam (plM_lt hi) (fit_arc f)
        have ok := plOk (plM_lt hi) (fit_arc f) (x.G.length - 1) (by have := plM_lt hi; omega)
        rw [List.length_map]
        have fm := k.1
        unfold famM at fm
        rw [Bool.and_eq_true, Bool.and_eq_true, decide_eq_true_eq] at fm
        have up : (planM x.G x.ws i).2.Pairwise (· < ·) := by rw [fm.1]; exact sortU_up _
        have hn := f.ok.n
        have := up_le up fun y hy => f.lt y (k.2.1 y hy)
        omega
/-- what drawn needles make can be made -/
theorem made_fit {n g h e : Nat} {as : List (Nat × Nat)} (hn : n ≤ 24) (hg : 4 ≤ g) (hg2 : g ≤ 16) (hh : h ≤ 8) (he : e ≤ 1) : (Wz.mk n g h e (madeM n g h e as)).fit := by
  have lt : ∀ y ∈ madeM n g h e as, y < n := fun y hy => by
    obtain ⟨a, _, m⟩ := mem_made.mp hy
    exact pricks_lt m
  refine ⟨⟨hn, hg, hg2, hh, ?_⟩, he, lt, madeM_up _ _ _ _ _⟩
  show (madeM n g h e as).length ≤ 100
  have := up_le (madeM_up n g h e as) lt
  omega
theorem sb_cov {x : Wz} {L : List (Nat × Nat)} (h : CovP x L) : sbM x.G x.ws = false := by
  unfold sbM
  rw [List.any_eq_false]
  intro y hy z
  obtain ⟨q, hq, m⟩ := h.co y hy
  exact pl_ne.mpr ⟨x.pk q, by rw [G_hq]; exact List.mem_map.mpr ⟨q, mem_hq.mpr (h.pr q hq), rfl⟩, m⟩ (List.isEmpty_iff.mp z)
/-- as many stretches as angles -/
theorem ang_cov {x : Wz} (hg : 2 ≤ x.g) {as : List (Nat × Nat)} (ha : ∀ a ∈ as, a.1 < a.2) (h : x.ws = madeM x.n x.g x.h x.e as) : ∃ L, CovP x L ∧ L.length = as.length := by
  have pick : ∀ a : Nat × Nat, ∃ Q : Nat × Nat, a.1 < a.2 → Q ∈ pairsM x.n x.g x.h ∧ pricksM x.n x.g x.h x.e a.1 a.2 = x.pk Q := fun a => by
    by_cases c : a.1 < a.2
    · obtain ⟨Q, h1, h2⟩ := angle_in (n := x.n) (g := x.g) (h := x.h) (e := x.e) hg c
      exact ⟨Q, fun _ => ⟨h1, h2⟩⟩
    · exact ⟨(0, 0), fun z => absurd z c⟩
  let F : Nat × Nat → Nat × Nat := fun a => Classical.choose (pick a)
  have hF : ∀ a ∈ as, F a ∈ pairsM x.n x.g x.h ∧ pricksM x.n x.g x.h x.e a.1 a.2 = x.pk (F a) := fun a h => Classical.choose_spec (pick a) (ha a h)
  refine ⟨as.map F, ⟨fun q hq => ?_, fun y hy => ?_⟩, List.length_map _⟩
  · obtain ⟨a, h1, rfl⟩ := List.mem_map.mp hq
    refine ⟨(hF a h1).1, fun y hy => ?_⟩
    rw [h, mem_made]
    exact ⟨a, h1, by rw [(hF a h1).2]; exact hy⟩
  · rw [h] at hy
    obtain ⟨a, h1, m⟩ := mem_made.mp hy
    exact ⟨F a, List.mem_map.mpr ⟨a, h1, rfl⟩, by rw [← (hF a h1).2]; exact m⟩
end Nr
namespace Nr
open PySem PySem.Spec PyProof.Rows L2 Evl HT
/-! t[::-1] of tuples -/
section
variable {prog : Program} {w : World} {A : Around} {E : Value → Shared → Prop} {s : Shared}
theorem rev_adj (n : Nat) : Builtin.Slice.sliceAdjust none none (-1) (n : Int) = ((n : Int) - 1, -1) := rfl
theorem rev_places (n : Nat) : Builtin.Slice.slicePlaces ((n : Int) - 1) (-1) (-1) = n := by
  unfold Builtin.Slice.slicePlaces
  rw [if_neg (by decide)]
  split
  · rw [show (-(-1) : Int) = 1 by decide, Int.ediv_one]
    omega
  · omega
theorem sliceApplied_rev {sl : Addr} {vl vu vs : Value} {n : Nat} {Q : Int × Int × Nat → Shared → Prop} (hs : s.heap.IsSliceOf sl vl vu vs) (pl : IsPart vl none) (pu : IsPart vu none) (ps : IsPart vs (some (-1)))
    (h : Q ((n : Int) - 1, -1, n) s) : wpAny (model prog w) A (Builtin.Slice.sliceApplied (.ref sl) (pure (n : Int))) Q E s := by
  obtain ⟨os, hos, hcs, hds⟩ := id hs
  unfold Builtin.Slice.sliceApplied Builtin.Slice.sliceFields
  refine wpAny_bind (wpAny_bind (wpAny_field hos hds (x := vl) rfl (wpAny_bind (wpAny_field hos hds (x := vu) rfl (wpAny_bind (wpAny_field hos hds (x := vs) rfl (wpAny_pure ?_)))))))
  refine wpAny_bind (HT.slicePart_ ps ?_)
  show wpAny _ _ (if ((-1 : Int) == 0) = true then _ else _) _ _ s
  rw [if_neg (by decide)]
  refine wpAny_bind (HT.slicePart_ pl (wpAny_bind (HT.slicePart_ pu (wpAny_bind (wpAny_pure ?_)))))
  show wpAny _ _ (match Builtin.Slice.sliceAdjust none none (-1) (n : Int) with | (lo, hi) => pure (lo, (-1 : Int), Builtin.Slice.slicePlaces lo hi (-1))) _ _ s
  rw [rev_adj]
  show wpAny _ _ (pure ((n : Int) - 1, (-1 : Int), Builtin.Slice.slicePlaces ((n : Int) - 1) (-1) (-1))) _ _ s
  rw [rev_places]
  exact wpAny_pure h
theorem fm_congr {α β : Type} {f g : α → Option β} : ∀ {l : List α}, (∀ x ∈ l, f x = g x) → l.filterMap f = l.filterMap g
  | [], _ => rfl
  | a :: l, h => by
    rw [List.filterMap_cons, List.filterMap_cons, h a List.mem_cons_self, fm_congr fun x hx => h x (List.mem_cons_of_mem _ hx)]
theorem pick_rev (xs : Array Value) : ((List.range xs.size).filterMap fun (m : Nat) => xs[(((xs.size : Int) - 1) + (m : Int) * (-1)).toNat]?).toArray = xs.toList.reverse.toArray := by
  congr 1
  have e : ∀ m ∈ List.range xs.size, xs[(((xs.size : Int) - 1) + (m : Int) * (-1)).toNat]? = xs.toList.reverse[m]? := fun m hm => by
    have lt := List.mem_range.mp hm
    have e1 : (((xs.size : Int) - 1) + (m : Int) * (-1)).toNat = xs.size - 1 - m := by omega
    rw [e1, List.getElem?_reverse (by rw [Array.length_toList]; exact lt), Array.length_toList, Array.getElem?_toList]
  rw [fm_congr e]
  have : ∀ (l : List Value), (List.range l.length).filterMap (fun m => l[m]?) = l := fun l => by
    refine List.ext_getElem? fun i => ?_
    have e2 : (List.range l.length).filterMap (fun m => l[m]?) = (List.range l.length).filterMap (fun m => some (l.getD m .none)) := fm_congr fun m hm => by
      rw [List.getD_eq_getElem?_getD, List.getElem?_eq_getElem (List.mem_range.mp hm)]
      rfl
    rw [e2, show (fun m => some (l.getD m .none)) = some ∘ (fun m => l.getD m .none) from rfl, List.filterMap_eq_map, List.getElem?_map]
    by_cases lt : i < l.length
    · rw [List.getElem?_range lt, List.getElem?_eq_getElem lt, Option.map_some, List.getD_eq_getElem?_getD, List.getElem?_eq_getElem lt]
      rfl
    · rw [List.getElem?_eq_none (by rw [List.length_range]; omega), List.getElem?_eq_none (by omega)]
      rfl
  have k := this xs.toList.reverse
  rw [List.length_reverse, Array.length_toList] at k
  exact k
theorem getItem_tuple_rev {t sl : Addr} {items : Array Value} {vl vu vs : Value} {Q : Value → Shared → Prop} (ht : IsTup s.heap t items) (hs : s.heap.IsSliceOf sl vl vu vs) (pl : IsPart vl none) (pu : IsPart vu none) (ps : IsPart vs (some (-1)))
    (h : Q (.ref s.heap.objs.size) { s with heap := s.heap.push { cls := .type "tuple", data := .seq items.toList.reverse.toArray } })
    (hsz : items.size ≤ sizeLine) : wpAny (model prog w) A (getItem (.ref t) (.ref sl)) Q E s := by
  have htake : sizeOk (.seq items.toList.reverse.toArray) := by
    show items.toList.reverse.toArray.size ≤ sizeLine
    rw [List.size_toArray, List.length_reverse, Array.length_toList]
    exact hsz
  obtain ⟨os, hos, hcs, hds⟩ := id hs
  have hTs : s.TypeIs (.ref sl) "slice" := ⟨os, hos, hcs⟩
  unfold getItem
  try with_reducible refine wpAny_holding ?_
  first | refine wpAny_bind (wpAny_pure ?_) | skip
  refine wpAny_bind (wpAny_sequenceKey ht.typeIs (by decide) ?_)
  refine wpAny_bind (wpAny_callSpecial?_slot (name := Str.ofString "__getitem__") ht.typeIs PyProof.Rows.slot_tuple_getitem
    (wpAny_call_entry PyProof.Rows.slot_tuple_getitem ht.typeIs entry_tuple_getitem ?_ (args_tuple_getitem _ _)))
  show wpAny _ _ (Builtin.Tuple.tupleItemsOf (.ref t) >>= _) _ _ s
  refine wpAny_bind (tupleItemsOf_ ht ?_)
  refine wpAny_bind (wpAny_typeOf hTs ?_)
  rw [if_pos (by decide)]
  refine wpAny_bind (sliceApplied_rev hs pl pu ps ?_)
  have hno : ¬ ((((items.size : Int) - 1) == 0 && (-1 : Int) == 1 && items.size == items.size) = true) := by
    intro q
    rw [Bool.and_eq_true, Bool.and_eq_true] at q
    exact absurd q.1.2 (by decide)
  show wpAny _ _ (if (((items.size : Int) - 1) == 0 && (-1 : Int) == 1 && items.size == items.size) = true then _ else _) _ _ s
  rw [if_neg hno, pick_rev]
  first
    | exact wpAny_bind (m := Builtin.Tuple.tupleExact _) (wpAny_newObj_type (wpAny_pure ⟨_, rfl, wpAny_pure h⟩) htake)
    | exact wpAny_bind (m := Builtin.Tuple.tupleExact _) (wpAny_newObj_type (wpAny_bind (wpAny_pure (wpAny_pure ⟨_, rfl, wpAny_pure h⟩))) htake)
    | exact wpAny_bind (wpAny_bind (m := Builtin.Tuple.tupleExact _) (wpAny_newObj_type (wpAny_pure (wpAny_pure ⟨_, rfl, wpAny_pure h⟩)) htake))
    | exact wpAny_bind (wpAny_bind (m := Builtin.Tuple.tupleExact _) (wpAny_newObj_type (wpAny_pure ⟨_, rfl, wpAny_pure h⟩) htake))
end
def tRevT (K : PySem.W.Frag) (te : TE) : TE := fun σ H Q => te σ H fun x H1 => ∃ a xs, x = .ref a ∧ SqT K H1 a xs ∧ ∀ p, H1 p = none → Q (.ref p) (upd H1 p (.tup xs.reverse))
theorem pe_revT {X : Cx} {e : Expr} {te : TE} {k : Nat} {p1 p2 p3 pos : Pos} (he : PE X e te) : PE X (.Subscript e (.Slice none none (some (.UnaryOp .USub (.Constant (.int 1) k p1) p2)) p3) pos) (tRevT X.K te) := by
  refine ⟨fun pins s σ H Q I h => ?_⟩
  refine Subscript_ (thn (he.run pins s σ H _ I h) fun v s1 ⟨x, H1, I1, r1, q1⟩ => ?_)
  obtain ⟨a, xs, ex, hx, q⟩ := q1
  subst ex
  cases r1
  have hst : PO X (some (.UnaryOp .USub (.Constant (.int 1) k p1) p2)) (tPart (tUn (rU fun i => .int (-i)) (tC (.int 1)))) := po_some (pe_un un_neg pe_int)
  refine wpAny_Slice (thn (po_none.run pins s1 σ H1 (fun o H2 => o = none ∧ H2 = H1) I1 ⟨rfl, rfl⟩) fun vl s2 ⟨l, H2, I2, pl, el, e2⟩ => ?_)
  subst el e2
  refine thn (po_none.run pins s2 σ H2 (fun o H3 => o = none ∧ H3 = H2) I2 ⟨rfl, rfl⟩) fun vu s3 ⟨u, H3, I3, pu, eu, e3⟩ => ?_
  subst eu e3
  refine thn (hst.run pins s3 σ H3 (fun o H4 => o = some (-1) ∧ H4 = H3) I3 ⟨1, rfl, -1, rfl, rfl, rfl⟩) fun vs s4 ⟨o, H4, I4, ps, eo, e4⟩ => ?_
  subst eo e4
  have I5 : Inv X pins σ H4 { s4 with heap := s4.heap.push { cls := .type "slice", data := .fields #[vl, vu, vs] } } := I4.kept (t' := s4.toks) fun b ob q => Heap.get?_push_of_some _ q
  obtain ⟨its, r, ht, hz⟩ := I5.tuple hx
  have hlen := r.length
  show wpAny (model X.prog X.w) X.A (subscriptTail e (.Slice none none (some (.UnaryOp .USub (.Constant (.int 1) k p1) p2)) p3) (.ref a) (.ref s4.heap.objs.size)) (EP X pins σ Q) X.xe { s4 with heap := s4.heap.push { cls := .type "slice", data := .fields #[vl, vu, vs] } }
  refine tail_any (ops := [.ref a, .ref s4.heap.objs.size]) ht.typeIs (PyProof.Rows.slot_tuple_getitem.lookup) ?_ (by with_unfolding_all rfl)
  refine getItem_tuple_rev ht (Heap.IsSliceOf.new _ vl vu vs) pl pu ps ?_ (by rw [List.size_toArray]; omega)
  refine ⟨.ref _, _, I5.laid (t' := s4.toks) (o := .tup xs.reverse) (fun b ob q => Heap.get?_push_of_some _ q) (Nat.le_refl _) ?_, rfl, q _ (I5.hok.fresh (Nat.le_refl _))⟩
  exact ⟨by rw [List.length_reverse]; exact hz, _, r.reverse, IsTup.new _ _⟩
section
variable {K : PySem.W.Frag} {c : Md} {δ ss : List Sl} {te ta tb : TE} {tr : TA} {tt : TT} {ts tz : TS} {d : PyData} {ds : List PyData} {D H D2 H2 : Hp} {σ : L2.St} {En : Ends} {i j : Nat} {p : Addr} {C : PyData → Prop}
theorem dqa_rev : ∀ {as : List V} {ds : List PyData}, DqAll K D as ds → DqAll K D as.reverse ds.reverse
  | _, _, .nil => .nil
  | _, _, .cons h t => by rw [List.reverse_cons, List.reverse_cons]; exact dqa_append (dqa_rev t) (.cons h .nil)
theorem ed_revT (h : ED K c te δ (.tuple ds)) : ED K c (tRevT K te) δ (.tuple ds.reverse) := fun σ D H s e Q q =>
  h σ D H s e _ fun v D1 H1 f1 d1 => by
    obtain ⟨a, xs, rfl, ha, hd⟩ := dq_tup d1
    refine ⟨a, xs, rfl, ex_t f1.sb.ex ha, fun p hp => ?_⟩
    have f2 := Fw.alloc (o := .tup xs.reverse) f1.sb hp trivial
    exact q _ _ _ (f1.trans f2) (.tup (st_of upd_same) (dqa_ex (Ex.new (f1.sb.free hp)) _ _ (dqa_rev hd)))
/-- t[:k], t[k:], not the whole -/
theorem ed_toT {k : Nat} (h : ED K c te δ (.tuple ds)) (h2 : ED K c ta δ (di k)) (lt : k < ds.length) : ED K c (tSl (rSlT K) te tNoPart (tPart ta)) δ (.tuple (ds.take k)) := fun σ D H s e Q q =>
  h σ D H s e _ fun v D1 H1 f1 d1 => h2 σ D1 H1 f1.sb (e.ex f1.dx) _ fun u D2 H2 f2 d2 => by
    obtain ⟨a, xs, rfl, ha, hd⟩ := dq_tup d1
    have hl := dqa_len hd
    rw [dq_int d2]
    have e1 : HT.sIx xs.length xs.length (some (k : Int)) = k := by rw [HT.sIx_nat]; omega
    refine ⟨k, rfl, a, xs, rfl, ex_t f2.sb.ex (ex_t f2.dx ha), ?_, fun p hp => ?_⟩
    · rw [e1]; omega
    have ec : cutV xs none (some (k : Int)) = xs.take k := by
      unfold cutV
      rw [e1, HT.sIx_none, List.drop_zero, Nat.sub_zero]
    rw [ec]
    have f3 := Fw.alloc (o := .tup (xs.take k)) f2.sb hp trivial
    refine q _ _ _ ((f1.trans f2).trans f3) (.tup (st_of upd_same) ?_)
    exact dqa_ex (f2.trans f3).dx _ _ (dqa_take k hd)
theorem ed_fromT {k : Nat} (h : ED K c te δ (.tuple ds)) (h2 : ED K c ta δ (di k)) (h0 : 0 < k) (hne : ds ≠ []) : ED K c (tSl (rSlT K) te (tPart ta) tNoPart) δ (.tuple (ds.drop k)) := fun σ D H s e Q q =>
  h σ D H s e _ fun v D1 H1 f1 d1 => h2 σ D1 H1 f1.sb (e.ex f1.dx) _ fun u D2 H2 f2 d2 => by
    obtain ⟨a, xs, rfl, ha, hd⟩ := dq_tup d1
    have hl := dqa_len hd
    rw [dq_int d2]
    have hp0 : 0 < ds.length := List.length_pos_iff.mpr hne
    refine ⟨k, rfl, a, xs, rfl, ex_t f2.sb.ex (ex_t f2.dx ha), ?_, fun p hp => ?_⟩
    · rw [HT.sIx_nat]; omega
    have ec : cutV xs (some (k : Int)) none = xs.drop k := by
      unfold cutV
      rw [HT.sIx_nat, HT.sIx_none]
      show (xs.drop (min k xs.length)).take (xs.length - min k xs.length) = xs.drop k
      rw [List.take_of_length_le (by rw [List.length_drop]; exact Nat.le_refl _)]
      rcases Nat.lt_or_ge k xs.length with z | z
      · rw [Nat.min_eq_left (by omega)]
      · rw [Nat.min_eq_right z, List.drop_eq_nil_of_le (Nat.le_refl _), List.drop_eq_nil_of_le z]
    rw [ec]
    have f3 := Fw.alloc (o := .tup (xs.drop k)) f2.sb hp trivial
    refine q _ _ _ ((f1.trans f2).trans f3) (.tup (st_of upd_same) ?_)
    exact dqa_ex (f2.trans f3).dx _ _ (dqa_drop k hd)
/-! walks over what is drawn -/
def EIc (K : PySem.W.Frag) (c : Md) (wi : TI) (δ : List Sl) (CD : List PyData → Prop) : Prop := ∀ σ D H, Sb c D H → SE K D σ δ → ∀ R : It → Hp → Prop, (∀ ds J D2 H2, CD ds → Fw c D H D2 H2 → Wk K c J D2 ds → R J H2) → wi σ H R
theorem eic_tup {CD : List PyData → Prop} (h : EN K c te δ fun d => ∃ ds, CD ds ∧ d = .tuple ds) : EIc K c (iTup K te) δ CD := fun σ D H s e R q =>
  h σ D H s e _ fun v d D1 H1 f1 ⟨ds, hc, hd⟩ d1 => by
    subst hd
    obtain ⟨a, xs, rfl, ha, hx⟩ := dq_tup d1
    exact ⟨a, rfl, ⟨xs, ex_t f1.sb.ex ha⟩, q ds _ D1 H1 hc f1 (wk_tup ha hx)⟩
theorem eic_rng {N : Nat} (hN : N ≤ 100000) (h : EN K c te δ fun d => ∃ r, r < N ∧ d = di r) : EIc K c (iRng1 (tCons te tNil)) δ (fun ds => ∃ r, r < N ∧ ds = (List.range r).map di) := fun σ D H s e R q =>
  h σ D H s e _ fun v d D1 H1 f1 ⟨r, hr, hd⟩ d1 => by
    subst hd
    rw [dq_int d1]
    exact ⟨r, rfl, by omega, by omega, q _ _ D1 H1 ⟨r, hr, rfl⟩ f1 (wk_range r)⟩
theorem e_forC {wi : TI} {CD : List PyData → Prop} (S : LB K c δ D H σ) (hi : EIc K c wi δ CD) (Pv : List PyData → Nat → List Sl → Hp → Hp → Prop) (hf : ∀ ds i δ' D' H' D2 H2, Pv ds i δ' D' H' → Fw c D' H' D2 H2 → Pv ds i δ' D2 H2) (h0 : ∀ ds, CD ds → Pv ds 0 δ D H)
    (ht : ∀ ds, CD ds → ∀ i d δ' Db D' H' σ', ds[i]? = some d → LB K c (δ'.set j (.dat d)) D' H' σ' → Ex D D' → Ex Db D' → Pv ds i δ' D' H' → ts { En with nx := NX K c (Pv ds) Db (i + 1), ct := NX K c (Pv ds) Db (i + 1), bk := En.nx } σ' H')
    (hd : ∀ ds, CD ds → ∀ δ' D' H' σ', LB K c δ' D' H' σ' → Ex D D' → Pv ds ds.length δ' D' H' → En.nx σ' H') : tFor wi (gName j) ts En σ H :=
  hi σ D H S.sb S.se _ fun ds J D1 H1 hc f1 wk => by
    refine ⟨fun i m σ' H' => m + i = ds.length ∧ ∃ δ' D', LB K c δ' D' H' σ' ∧ Ex D1 D' ∧ Pv ds i δ' D' H', ⟨ds.length, rfl, δ, D1, S.fw f1, Ex.refl _, hf ds 0 δ D H D1 H1 (h0 ds hc) f1⟩, fun i m σ' H' hW => ?_⟩
    obtain ⟨em, δ', D', L, ex, pv⟩ := hW
    by_cases lt : i < ds.length
    · refine .inr ⟨wk.go i H' lt (ex.trans L.sb.ex), NX K c (Pv ds) D' (i + 1), fun σ2 H2 h2 => ?_, fun v H2 hy => ?_⟩
      · obtain ⟨δ2, D2, L2', e2, p2⟩ := h2
        exact ⟨m - 1, by omega, by omega, δ2, D2, L2', ex.trans e2, p2⟩
      · obtain ⟨D2, fy, dy⟩ := wk.yld i ds[i] D' H' v H2 (List.getElem?_eq_getElem lt) ex L.sb hy
        exact ht ds hc i ds[i] δ' D' D2 H2 (σ'.set j (some v)) (List.getElem?_eq_getElem lt) ((L.fw fy).dat dy) ((f1.dx.trans ex).trans fy.dx) fy.dx (hf ds _ _ _ _ _ _ pv fy)
    · have ei : i = ds.length := by omega
      subst ei
      exact .inl ⟨wk.stop H' (ex.trans L.sb.ex), hd ds hc δ' D' H' σ' L (f1.dx.trans ex) pv⟩
theorem l_forC {wi : TI} {CD : List PyData → Prop} (S : LB K c δ D H σ) (hi : EIc K c wi δ CD) (Pv : List PyData → Nat → List Sl → Hp → Hp → Prop) (hf : ∀ ds i δ' D' H' D2 H2, Pv ds i δ' D' H' → Fw c D' H' D2 H2 → Pv ds i δ' D2 H2) (h0 : ∀ ds, CD ds → Pv ds 0 δ D H)
    (ht : ∀ ds, CD ds → ∀ i d δ' Db D' H' σ', ds[i]? = some d → LB K c (δ'.set j (.dat d)) D' H' σ' → Ex D D' → Ex Db D' → Pv ds i δ' D' H' → ts { En with nx := NX K c (Pv ds) Db (i + 1), ct := NX K c (Pv ds) Db (i + 1), bk := tz En } σ' H')
    (hd : ∀ ds, CD ds → ∀ δ' D' H' σ', LB K c δ' D' H' σ' → Ex D D' → Pv ds ds.length δ' D' H' → tz En σ' H') : tSeq (tFor wi (gName j) ts) tz En σ H := e_forC (En := { En with nx := tz En }) S hi Pv hf h0 ht hd
/-- a comprehension that draws -/
theorem en_lc {wi : TI} {vs : List Nat} {CD : List PyData → Prop} (hi : EIc K c wi δ CD) (he : ∀ d, EN K c te ((wipeD δ vs).set j (.dat d)) C) (hj : j ∈ vs) (hl : ∀ ds, CD ds → ds.length ≤ 50000) :
    EN K c (tLc wi (gName j) tYes te vs) δ (fun d => ∃ ds es, CD ds ∧ es.length = ds.length ∧ (∀ x ∈ es, C x) ∧ d = .list es) := fun σ D H s e Q q =>
  hi σ D H s e _ fun ds J D1 H1 hc f1 wk => fun p hp => by
    have nb := f1.sb.nbH hp
    refine ⟨fun i m H' => m + i = ds.length ∧ ∃ (D' : Hp) (xs : List V) (es : List PyData), Fw c D1 H1 D' H' ∧ D' p = none ∧ H' p = some (.lst xs) ∧ DqAll K D' xs es ∧ es.length = i ∧ ∀ x ∈ es, C x, ⟨ds.length, rfl, D1, [], [], Fw.made f1.sb hp, f1.sb.free hp, upd_same, .nil, rfl, (fun x hx => by cases hx)⟩, fun i m H' hw => ?_⟩
    obtain ⟨em, D', xs, es, fw, nD, hpx, hd, hes, hC⟩ := hw
    by_cases lt : i < ds.length
    · refine .inr ⟨wk.go i H' lt (fw.dx.trans fw.sb.ex), (fun H2 => ∃ (D' : Hp) (xs : List V) (es : List PyData), Fw c D1 H1 D' H2 ∧ D' p = none ∧ H2 p = some (.lst xs) ∧ DqAll K D' xs es ∧ es.length = i + 1 ∧ ∀ x ∈ es, C x), fun H2 h2 => ⟨m - 1, by omega, by omega, h2⟩, fun x H2 hy => ?_⟩
      obtain ⟨D2, fy, dx⟩ := wk.yld i ds[i] D' H' x H2 (List.getElem?_eq_getElem lt) fw.dx fw.sb hy
      have e2 : SE K D2 ((wipe σ vs).set j (some x)) ((wipeD δ vs).set j (.dat ds[i])) := SE.set (x := some x) (s := .dat ds[i]) dx j ((e.ex ((f1.trans fw).trans fy).dx).wipe vs)
      refine ⟨?_, ?_⟩
      · refine wipe_same (by rw [List.length_set, wipe_length]) fun k hk => ?_
        rw [List.getElem?_set_ne (fun z => hk (by rw [← z]; exact hj)), wipe_out hk]
      · refine yes_if ?_
        refine he ds[i] _ D2 H2 fy.sb e2 _ fun y dy D4 H4 f4 hcy dqy => ?_
        have np4 : D4 p = none := (fy.trans f4).off hpx nD trivial
        have hp4 : H4 p = some (.lst xs) := (fy.trans f4).keep hpx trivial nb
        refine ⟨xs, hp4, ?_, D4, xs ++ [y], es ++ [dy], (fw.trans (fy.trans f4)).mut (.none hp) np4 hp4 trivial nb, np4, upd_same, dqa_append (dqa_ex (fy.trans f4).dx _ _ hd) (.cons dqy .nil), by rw [List.length_append, hes]; rfl, fun z hz => ?_⟩
        · have l1 := dqa_len hd
          have := hl ds hc
          exact sz_lt (by omega)
        · rcases List.mem_append.mp hz with z1 | z1
          · exact hC z z1
          · rw [List.mem_singleton.mp z1]; exact hcy
    · have ei : i = ds.length := by omega
      subst ei
      have st := wk.stop H' (fw.dx.trans fw.sb.ex)
      have fg := fw.give (.none hp) nD hpx nb
      exact .inl ⟨st, q _ _ _ _ (f1.trans fg) ⟨ds, es, hc, hes, hC, rfl⟩ (.lst upd_same (dqa_ex (Ex.new nD) _ _ hd))⟩
/-! int of a truth -/
def rInt1 : List V → Hp → VK → Prop := fun xs H Q => (∃ i, xs = [.int i] ∧ Q (.int i) H) ∨ ∃ k, xs = [.bl k] ∧ Q (.int (if k then 1 else 0)) H
theorem b_intB {b : Bool} : RCD K c rInt1 [.bool b] (di (if b then 1 else 0)) := fun vs D H s h Q q => by
  cases h with
  | cons h1 h2 =>
  cases h2
  rw [dq_bool h1]
  refine .inr ⟨b, rfl, q _ D H (Fw.refl s) ?_⟩
  cases b
  · exact .int 0
  · exact .int 1
end
end Nr
namespace Nr
open PySem PySem.Spec PyProof.Rows L2 Evl
open LamX (TabS TabB CodeO ExtN)
theorem spT_len {K : PySem.W.Frag} {t : Addr} {α : Type} {A : α → List PyData} {C : α → Prop} {F : α → PyData} {vs : List V} {H : Hp} {Q : VK} {E : XK} {k : Nat} (h : spT K t A C F vs H Q E) (hk : ∀ x, (A x).length = k) : vs.length = k := by
  obtain ⟨x, D, _, hv, _⟩ := h
  rw [dqa_len hv, hk]
theorem eqv_nil {α : Type} (L : List α) (f : α → PyData) : PyData.eqv (.list (L.map f)) (.list []) = L.isEmpty := by
  cases L with
  | nil => rfl
  | cons x L => rw [PyData.eqv, List.map_cons, PyData.eqvAll]; rfl
section
variable {K : PySem.W.Frag} {c : Md} {D : Hp} {p : Addr}
theorem as_dqa : ∀ {ds : List PyData} {vs : List V}, AS K D vs (ds.map Sl.dat) → DqAll K D vs ds
  | [], _, h => by cases h; exact .nil
  | d :: ds, _, h => by
    cases h with
    | cons h1 h2 => exact .cons h1 (as_dqa h2)
theorem SpN.of {sp : Sp} {ds : List PyData} {d : PyData} (h : SpD K c sp ds d) : SpN K c sp (ds.map Sl.dat) (· = d) := fun vs D H s hv Q q E => h vs D H s (as_dqa hv) _ (fun v D2 H2 f dv => q v d D2 H2 f rfl dv) E
theorem SpN.imp {sp : Sp} {ss : List Sl} {C C' : PyData → Prop} (h : SpN K c sp ss C) (k : ∀ d, C d → C' d) : SpN K c sp ss C' := fun vs D H s hv Q q E => h vs D H s hv _ (fun v d D2 H2 f hc dv => q v d D2 H2 f (k d hc) dv) E
theorem scr_ne {q sa : Addr} {H0 : Hp} {xs : List V} (fr : Fr c H0 q) (h : SqL K H0 sa xs) : sa ≠ q ∨ ∀ H', SqL K H' sa xs := by
  rcases h with h | h
  · refine .inl ?_
    rintro rfl
    rcases h with h | ⟨o, h⟩
    · obtain ⟨_, ps, z⟩ := fr _ h
      cases z
    · obtain ⟨_, ps, z⟩ := fr _ h
      cases z
  · exact .inr fun H' => .inr h
theorem Scr.ch {q sa : Addr} {D2 H H2 : Hp} {xs : List V} (s : Scr K H sa p xs) (ch : Ch c q D H D2 H2) (hb : c.bag = some p) (ne : sa ≠ q ∨ ∀ H', SqL K H' sa xs) : Scr K H2 sa p xs := by
  obtain ⟨s1, s2⟩ := s
  refine ⟨?_, s2⟩
  rcases ne with ne | ne
  · rcases s2 with n | n
    · have nb : c.bag ≠ some sa := by rw [hb]; intro z; cases z; exact n rfl
      rcases s1 with h | h
      · refine .inl ?_
        rcases h with h | ⟨o, h⟩
        · exact .inl (ch.hx _ _ ne h (.inr fun _ z => by cases z) nb)
        · exact .inr ⟨o, ch.hx _ _ ne h (.inr fun _ z => by cases z) nb⟩
      · exact .inr h
    · exact n H2
  · exact ne H2
theorem en_cb1 {δ : List Sl} {te : TE} {r : List V → Hp → VK → Prop} {C : PyData → Prop} {F : PyData → PyData} (h : EN K c te δ C) (hr : ∀ d, C d → RCD K c r [d] (F d)) : EN K c (tCB r (tCons te tNil)) δ (fun x => ∃ d, C d ∧ x = F d) := fun σ D H s e Q q =>
  h σ D H s e _ fun v d D2 H2 f hc dv => hr d hc [v] D2 H2 f.sb (.cons dv .nil) _ fun u D3 H3 f3 du => q u _ D3 H3 (f.trans f3) ⟨d, hc, rfl⟩ du
theorem LB.law {T sa : Addr} {H : Hp} {N : List Str} (hT : TabS H T lamQ) : LB K (zT T) (.raw (.ref sa) :: List.replicate (N.length - 1) .un) (fun _ => none) H (L2.start N [.ref sa]) := by
  refine ⟨⟨fun a o h => (by cases h), fun a o h => (by cases h), fun t z => (by cases z; exact hT), fun t z => (by cases z)⟩, ?_⟩
  unfold L2.start
  refine .cons rfl ?_
  show SE K _ (List.replicate _ none) (List.replicate _ .un)
  rw [List.length_singleton]
  generalize N.length - 1 = m
  induction m with
  | zero => exact .nil
  | succ m ih => exact .cons trivial ih
end
def spLaw (K : PySem.W.Frag) (T : Addr) : Sp := fun vs H Q _ => ∃ (a : Addr) (ns : List Int), vs = [.ref a] ∧ SqL K H a (ns.map V.int) ∧ ns.length ≤ 63 ∧ TabS H T lamQ ∧ ∀ H', Q (.bl true) H'
theorem sh_n (n : Int) : SeqAt.shaped (.int n) = true := (shp_int 0 n).ok (by decide)
theorem eqv_n (i j : Int) : PyData.eqv (.int i) (.int j) = decide (i = j) := by
  rw [PyData.eqv]
  by_cases h : i = j
  · subst h; simp
  · simp [h]
end Nr
namespace Nr
open PySem PySem.Spec PyProof.Rows L2 Evl
/-! sorted(t), t a tuple of numbers -/
def rSortedT (K : PySem.W.Frag) : List V → Hp → VK → Prop := fun vs H Q => ∃ (a : Addr) (ns : List Int), vs = [V.ref a] ∧ SqT K H a (ns.map V.int) ∧ ns.length < 64 ∧
  ∀ (ns' : List Int) (p : Addr), ns'.Perm ns → ns'.Pairwise (· ≤ ·) → H p = none → Q (.ref p) (upd H p (.lst (ns'.map V.int)))
theorem cr_sortedT {X : Cx} : CallR X (.builtin "sorted") (rSortedT X.K) := by
  intro pins s σ H vs us Q I r h
  obtain ⟨a, ns, rfl, hs, h64, q⟩ := h
  rw [Vals.ref1 r]
  obtain ⟨its, rv, ⟨o, ho, hc, n, hd⟩, hz⟩ := I.tuple hs
  have hi : IntsAre its ns := ints_of_vals rv
  have hl : its.length = ns.length := hi.length
  refine Calls.call_function_entry PyProof.Rows.kind_sorted PyProof.Rows.plain_sorted PyProof.Rows.entry_sorted (PyProof.Rows.args_sorted1 _) ?_
  unfold Builtin.«sorted»
  refine wpAny_bind (m := checkCount "sorted" 1 1 _) (wpAny_pure ?_)
  refine wpAny_bind (PySem.wpAny_collect_seq a (T := "tuple") (.inr rfl) ho hc hd (fun h' hk => ?_) (by rw [List.size_toArray, hl]; exact small64 h64))
  have I1 : Inv X pins σ H { s with heap := h' } := I.kept (t' := s.toks) hk
  refine wpAny_bind (wpAny_newList ?_ (by show its.length ≤ sizeLine; rw [hl]; exact small64 h64))
  have hoL : (h'.push (seqObj "list" its.toArray 0)).get? h'.objs.size = some (seqObj "list" its.toArray 0) := Heap.get?_push_size _ rfl
  show wpAny _ _ _ _ _ { s with heap := h'.push (seqObj "list" its.toArray 0) }
  refine wpAny_bind (wpAny_holding (wpAny_call_entry PyProof.Rows.slot_list_sort ⟨_, hoL, rfl⟩ PyProof.Rows.entry_list_sort
    (PyProof.Rows.list_sort_tree (s := { s with heap := h'.push (seqObj "list" its.toArray 0) }) hoL hi (by rw [hl]; exact h64) fun out ys g1 g2 g3 => ⟨_, rfl, ?_⟩) (PyProof.Rows.args_list_sort _)))
  obtain ⟨e', he'⟩ := PyProof.Rows.sortedHeap_at (vs := its) (out := out) hoL
  have hlen : (ys.map V.int).length ≤ sizeLine := by
    rw [List.length_map, g2.length_eq]
    exact Nat.le_trans (Nat.le_of_lt h64) (by decide)
  refine wpAny_pure ⟨_, rfl, .ref h'.objs.size, upd H h'.objs.size (.lst (ys.map V.int)), I1.laid (t' := s.toks) (fun b u e => ?_) (Nat.le_refl _)
    (show ObjOk X.prog X.w _ _ _ (.lst (ys.map V.int)) from ⟨hlen, out.toList, e', vals_of_ints g1, by rw [Array.toArray_toList]; exact he'⟩), rfl, q ys _ g2 g3 (I1.hok.fresh (Nat.le_refl _))⟩
  have hb : b < h'.objs.size := Heap.lt_size e
  rw [PyProof.Rows.sortedHeap_old (Nat.ne_of_lt hb) (by rw [size_push']; exact Nat.lt_succ_of_lt hb)]
  exact Heap.get?_push_of_some _ e
/-! t * k, 1 ≤ k -/
theorem tuple_mul1 (l : Addr) (items : Array Value) (n : Nat) (dd : Option Addr) (sl : Array (Option Value)) (u : Tok) :
    Meets (Builtin.«tuple.__mul__» ⟨[.ref l, .int 1 u], []⟩) (fun _ R s => s.heap.get? l = some { cls := .type "tuple", dict := dd, data := .seq items n, slots := sl } ∧ R (.ok (.ret (Value.ref l))) s) :=
  .of_wp fun prog w A R s h => by
    obtain ⟨hp, g, d, tk, os⟩ := s
    obtain ⟨hl, h⟩ := h
    have f1 := AutoSeq1.idx_int
    have c1 : (items.isEmpty || (1 : Int) == 1) = true := by rw [show ((1 : Int) == 1) = true from rfl, Bool.or_true]
    wp_walk using wpAny_loadPart' hl
    repeat (first
      | (refine wpAny_ite_true (decide_eq_true c1) ?_; wp_walk using wpAny_loadPart' hl))
    all_goals exact ⟨_, rfl, h⟩
def rRepA (K : PySem.W.Frag) : R2 := fun x y H Q => (∃ l xs, x = .ref l ∧ y = .int 1 ∧ SqT K H l xs ∧ Q (.ref l) H) ∨ rRepT K x y H Q
theorem op_repA {X : Cx} : OpR X (binaryOp .Mult) (rRepA X.K) := by
  intro pins s σ H x y v u Q I rx ry h
  rcases h with ⟨l, xs, rfl, rfl, hT, q⟩ | h
  · cases rx
    obtain ⟨t, rfl⟩ := ry
    obtain ⟨its, r, ⟨⟨cls, dd, data, sl⟩, ho, hc, n, hd⟩, hs⟩ := I.tuple hT
    simp only at hc hd
    subst hc hd
    exact wpAny_binaryOp_repeat_ref (T := "tuple") (U := "int") (by decide) ⟨_, ho, rfl⟩ (fun s' => typeIs_int s' 1 t) noFill_tuple_mul F.fills_int_mul F.slot_int_rmul repeat_tuple F.slot_int_index.lookup
      (call_meets F.slot_int_rmul (typeIs_int s 1 t) F.entry_int_rmul (F.args_int_rmul_2 _ _) (int_rmul_tuple 1 t l its.toArray n dd sl)
        ⟨ho, rfl, ⟨_, ho, rfl⟩, call_meets F.slot_tuple_mul ⟨_, ho, rfl⟩ F.entry_tuple_mul (F.args_tuple_mul_2 _ _) (tuple_mul1 l its.toArray n dd sl t) ⟨ho, .ref l, H, I, rfl, q⟩⟩)
  · exact op_repT pins s σ H x y v u Q I rx ry h
section
variable {K : PySem.W.Frag} {c : Md} {δ : List Sl} {te ta : TE} {tr : TA} {tl th : TO} {d : PyData} {ds : List PyData} {lo hi : Option Int}
theorem b_sortedT {l : List Nat} (hl : l.length < 64) : RCD K c (rSortedT K) [.tuple (l.map di)] (.list ((srt l).map di)) := fun vs D H s h Q q => by
  cases h with
  | cons h1 h2 =>
  cases h2
  obtain ⟨p, rfl, hp⟩ := dq_ints h1
  have e0 : ∀ l : List Nat, (l.map fun k : Nat => (k : Int)).map V.int = l.map vi := fun l => by rw [List.map_map]; rfl
  refine ⟨p, l.map fun k : Nat => (k : Int), rfl, by rw [e0]; exact ex_t s.ex hp, by rw [List.length_map]; exact hl, fun ns' t pm up ht => ?_⟩
  obtain ⟨m, em⟩ : ∃ m : List Nat, ns' = m.map fun k : Nat => (k : Int) := by
    refine ⟨ns'.map Int.toNat, ?_⟩
    rw [List.map_map]
    have : ns'.map id = ns'.map ((fun k : Nat => (k : Int)) ∘ Int.toNat) := List.map_congr_left fun x hx => by
      obtain ⟨k, _, rfl⟩ := List.mem_map.mp (pm.mem_iff.mp hx)
      rfl
    rw [List.map_id] at this
    exact this
  subst em
  have pm2 : m.Perm l := by
    have := pm.map Int.toNat
    rw [List.map_map, List.map_map] at this
    have e1 : ∀ l : List Nat, l.map (Int.toNat ∘ fun k : Nat => (k : Int)) = l := fun l => by
      have : l.map (Int.toNat ∘ fun k : Nat => (k : Int)) = l.map id := List.map_congr_left fun x _ => rfl
      rw [this, List.map_id]
    rw [e1, e1] at this
    exact this
  have up2 : m.Pairwise (· ≤ ·) := (List.pairwise_map.mp up).imp fun {a b} h => by omega
  have f := Fw.alloc (o := .lst ((m.map fun k : Nat => (k : Int)).map V.int)) s ht trivial
  refine q _ _ _ f (.lst upd_same ?_)
  rw [e0, srt_one pm2 up2]
  exact vis_dqa _
/-- t[lo:hi] -/
def cutD (ds : List PyData) (lo hi : Option Int) : List PyData := (ds.drop (HT.sIx ds.length 0 lo)).take (HT.sIx ds.length ds.length hi - HT.sIx ds.length 0 lo)
theorem eo_none : EO K c tNoPart δ none := fun σ D H s e Q q => q D H (Fw.refl s)
theorem eo_some {i : Int} (h : ED K c te δ (.int i)) : EO K c (tPart te) δ (some i) := fun σ D H s e Q q => h σ D H s e _ fun v D1 H1 f1 d1 => ⟨i, dq_int d1, q D1 H1 f1⟩
theorem ed_slA (h : ED K c te δ (.tuple ds)) (h1 : EO K c tl δ lo) (h2 : EO K c th δ hi) : ED K c (tSl (rSlA K) te tl th) δ (.tuple (cutD ds lo hi)) := fun σ D H s e Q q =>
  h σ D H s e _ fun v D1 H1 f1 d1 => h1 σ D1 H1 f1.sb (e.ex f1.dx) _ fun D2 H2 f2 => h2 σ D2 H2 f2.sb (e.ex (f1.trans f2).dx) _ fun D3 H3 f3 => by
    obtain ⟨a, xs, rfl, ha, hd⟩ := dq_tup (dq_ex (f2.trans f3).dx _ _ d1)
    have hl := dqa_len hd
    refine ⟨a, xs, rfl, ex_t f3.sb.ex ha, fun hw => ?_, fun hw p hp => ?_⟩
    · have : cutD ds lo hi = ds := by
        unfold cutD
        rw [← hl, hw.1, hw.2, List.drop_zero, Nat.sub_zero, hl, List.take_length]
      exact q _ _ _ ((f1.trans f2).trans f3) (this.symm ▸ .tup ha hd)
    · have f4 := Fw.alloc (o := .tup (cutV xs lo hi)) f3.sb hp trivial
      refine q _ _ _ (((f1.trans f2).trans f3).trans f4) (.tup (st_of upd_same) (dqa_ex f4.dx _ _ ?_))
      unfold cutD cutV
      rw [hl]
      exact dqa_take _ (dqa_drop _ hd)
theorem cut_sub {f : PyData} (h : f ∈ cutD ds lo hi) : f ∈ ds := List.mem_of_mem_drop (List.mem_of_mem_take h)
theorem cut_len : (cutD ds lo hi).length ≤ ds.length := by
  unfold cutD
  rw [List.length_take, List.length_drop]
  omega
theorem cut_map {l : List Nat} : ∃ m : List Nat, cutD (l.map di) lo hi = m.map di ∧ m.length ≤ l.length := by
  unfold cutD
  rw [List.length_map, ← List.map_drop, ← List.map_take]
  refine ⟨_, rfl, ?_⟩
  rw [List.length_take, List.length_drop]
  omega
theorem r_repA {k : Nat} (h1 : 1 ≤ k) (h2 : k ≤ 1000) : R2D K c (rRepA K) (.tuple [d]) (di k) (.tuple (List.replicate k d)) := fun x y D H s hx hy Q q => by
  obtain ⟨a, xs, rfl, ha, hd⟩ := dq_tup hx
  have ey := dq_int hy
  subst ey
  cases hd with
  | cons hv ht =>
  cases ht
  rename_i v
  by_cases hk : k = 1
  · subst hk
    exact .inl ⟨a, [v], rfl, rfl, ex_t s.ex ha, q _ _ _ (Fw.refl s) hx⟩
  · refine .inr ⟨a, (k : Int), [v], rfl, rfl, ex_t s.ex ha, (by simp), by omega, by omega, (by simp), fun p hp => ?_⟩
    have f := Fw.alloc (o := .tup (List.replicate (k : Int).toNat [v]).flatten) s hp trivial
    refine q _ _ _ f (.tup (st_of upd_same) ?_)
    rw [Int.toNat_natCast]
    have : ∀ m, DqAll K (upd D p (.tup (List.replicate k [v]).flatten)) (List.replicate m [v]).flatten (List.replicate m d) := fun m => by
      induction m with
      | zero => exact .nil
      | succ m ih =>
        rw [List.replicate_succ, List.replicate_succ, List.flatten_cons]
        exact .cons (dq_ex f.dx _ _ hv) ih
    exact this k
end
/-! small data -/
theorem shp_mems {k : Nat} : ∀ {ds : List PyData}, (∀ x ∈ ds, Shp k x) → PyData.canLayAll0 ds = true ∧ PyData.depthAll ds ≤ k
  | [], _ => ⟨rfl, Nat.zero_le _⟩
  | x :: l, h => by
    have a := h x List.mem_cons_self
    have b := shp_mems fun y hy => h y (List.mem_cons_of_mem _ hy)
    rw [PyData.canLayAll0, PyData.depthAll, a.1, b.1]
    exact ⟨rfl, Nat.max_le.mpr ⟨a.2, b.2⟩⟩
theorem shp_of {k : Nat} : ∀ {ds : List PyData}, PyData.canLayAll0 ds = true → PyData.depthAll ds ≤ k → ∀ x ∈ ds, Shp k x
  | [], _, _, x, hx => by cases hx
  | y :: l, h1, h2, x, hx => by
    rw [PyData.canLayAll0, Bool.and_eq_true] at h1
    rw [PyData.depthAll] at h2
    obtain ⟨h3, h4⟩ := Nat.max_le.mp h2
    rcases List.mem_cons.mp hx with rfl | hx
    · exact ⟨h1.1, h3⟩
    · exact shp_of h1.2 h4 x hx
theorem shp_lst {k : Nat} {ds : List PyData} (h : ∀ x ∈ ds, Shp k x) : Shp (k + 1) (.list ds) := by
  have b := shp_mems h
  refine ⟨?_, ?_⟩
  · rw [PyData.canLay0]; exact b.1
  · rw [PyData.depth]; exact Nat.succ_le_succ b.2
theorem shp_tp {k : Nat} {ds : List PyData} (h : ∀ x ∈ ds, Shp k x) : Shp (k + 1) (.tuple ds) := by
  have b := shp_mems h
  refine ⟨?_, ?_⟩
  · rw [PyData.canLay0]; exact b.1
  · rw [PyData.depth]; exact Nat.succ_le_succ b.2
theorem shp_in {k : Nat} {ds : List PyData} (h : Shp (k + 1) (.tuple ds)) : ∀ x ∈ ds, Shp k x := by
  obtain ⟨h1, h2⟩ := h
  rw [PyData.canLay0] at h1
  rw [PyData.depth] at h2
  exact shp_of h1 (Nat.le_of_succ_le_succ h2)
theorem Shp.up {k m : Nat} {d : PyData} (h : Shp k d) (le : k ≤ m) : Shp m d := ⟨h.1, Nat.le_trans h.2 le⟩
def F1 (d : PyData) : Prop := smFam d ∧ Shp 2 d
def F2 (d : PyData) : Prop := smFams d ∧ Shp 3 d
def F3 (d : PyData) : Prop := smPap d ∧ Shp 4 d
/-- no tuple, no list -/
def Atm : PyData → Prop
  | .none => True
  | .bool _ => True
  | .int _ => True
  | .str x => (PyData.str x).canLay0 = true
  | _ => False
theorem Atm.shp {d : PyData} (h : Atm d) (k : Nat) : Shp k d := by cases d <;> first | exact False.elim h | exact ⟨rfl, Nat.zero_le _⟩ | exact ⟨h, Nat.zero_le _⟩
theorem Atm.ne {d : PyData} (h : Atm d) (ds : List PyData) : d ≠ .tuple ds := by cases d <;> first | exact False.elim h | (intro z; cases z)
theorem f1_atm {d : PyData} (h : Atm d) : F1 d := ⟨fun ds e => absurd e (h.ne ds), h.shp 2⟩
theorem f2_atm {d : PyData} (h : Atm d) : F2 d := ⟨fun ds e => absurd e (h.ne ds), h.shp 3⟩
theorem f3_atm {d : PyData} (h : Atm d) : F3 d := ⟨fun ds e => absurd e (h.ne ds), h.shp 4⟩
theorem f1_tup {ds : List PyData} (h : ∀ x ∈ ds, Atm x) (hl : ds.length < 60) : F1 (.tuple ds) := ⟨fun es e => by cases e; exact hl, shp_tp fun x hx => (h x hx).shp 1⟩
theorem f1_lst {ds : List PyData} (h : ∀ x ∈ ds, Atm x) : F1 (.list ds) := ⟨fun es e => (by cases e), shp_lst fun x hx => (h x hx).shp 1⟩
theorem f2_tup {ds : List PyData} (h : ∀ x ∈ ds, F1 x) (hl : ds.length ≤ 1000) : F2 (.tuple ds) := ⟨fun es e => by cases e; exact ⟨hl, fun f hf => (h f hf).1⟩, shp_tp fun x hx => (h x hx).2⟩
theorem f2_lst {ds : List PyData} (h : ∀ x ∈ ds, F1 x) : F2 (.list ds) := ⟨fun es e => (by cases e), shp_lst fun x hx => (h x hx).2⟩
theorem f3_tup {ds : List PyData} (h : ∀ x ∈ ds, F2 x) (hl : ds.length ≤ 1000) : F3 (.tuple ds) := ⟨fun es e => by cases e; exact ⟨hl, fun f hf => (h f hf).1⟩, shp_tp fun x hx => (h x hx).2⟩
theorem f3_lst {ds : List PyData} (h : ∀ x ∈ ds, F2 x) : F3 (.list ds) := ⟨fun es e => (by cases e), shp_lst fun x hx => (h x hx).2⟩
theorem f3_two {a b : PyData} (ha : F2 a) (hb : F2 b) : F3 (.tuple [a, b]) := f3_tup (fun x hx => by
  rcases List.mem_cons.mp hx with rfl | hx
  · exact ha
  · rw [List.mem_singleton.mp hx]; exact hb) (show 2 ≤ 1000 by decide)
theorem atm_di {l : List Nat} : ∀ x ∈ l.map di, Atm x := fun x hx => by
  obtain ⟨n, _, rfl⟩ := List.mem_map.mp hx
  trivial
/-! defs that draw -/
section
variable {K : PySem.W.Frag} {c : Md} {p : Addr}
def spB {α : Type} (K : PySem.W.Frag) (A : α → List PyData) (C : α → Prop) (F : α → PyData → Prop) : Sp := fun vs H Q _ => ∃ (p : Addr) (x : α) (D : Hp), Sb ⟨none, some p⟩ D H ∧ AS K D vs (.raw (.ref p) :: (A x).map .dat) ∧ C x ∧ ∀ v d D2 H2, Fw ⟨none, some p⟩ D H D2 H2 → F x d → Dq K D2 v d → Q v H2
theorem sn_b {α : Type} {A : α → List PyData} {C : α → Prop} {F : α → PyData → Prop} (hb : c.bag = some p) (x : α) (hC : C x) : SpN K c (spB K A C F) (.raw (.ref p) :: (A x).map .dat) (F x) := fun vs D H s hv Q q E => by
  refine ⟨p, x, D, ⟨s.ex, s.dat, fun t z => (by cases z), fun p' z => (by cases z; exact s.bag p hb)⟩, hv, hC, fun v d D2 H2 f hF dv => q v d D2 H2 ⟨⟨f.sb.ex, f.sb.dat, fun t z => ?_, fun p' z => f.sb.bag p' (by rw [hb] at z; exact z)⟩, f.dx, fun a o h n nb => f.hx a o h (.inl rfl) (by rw [hb] at nb; exact nb), f.new⟩ hF dv⟩
  have bx : Bx p H H2 := fun a o ne h => f.hx a o h (.inl rfl) (fun z => ne (Option.some.inj z).symm)
  exact tab_bxD (s.tab t z) (s.bag p hb).1 bx
theorem start_as {D : Hp} {vs : List V} {ss : List Sl} (h : AS K D vs ss) (m : Nat) : SE K D (vs.map some ++ List.replicate m none) (ss ++ List.replicate m .un) := by
  induction h with
  | nil =>
    show SE K D (List.replicate m none) (List.replicate m .un)
    induction m with
    | zero => exact .nil
    | succ m ih => exact .cons trivial ih
  | cons h1 h2 ih => exact .cons h1 ih
theorem as_len {D : Hp} {vs : List V} {ss : List Sl} (h : AS K D vs ss) : vs.length = ss.length := Paired.length h
theorem LB.startB {vs : List V} {ss δ : List Sl} {D H : Hp} {N : List Str} (s : Sb c D H) (h : AS K D vs ss) (hδ : ss ++ List.replicate (N.length - ss.length) .un = δ) : LB K c δ D H (L2.start N vs) := by
  subst hδ
  refine ⟨s, ?_⟩
  unfold L2.start
  rw [as_len h]
  exact start_as h _
end
end Nr
namespace Nr
open PySem PySem.Spec PyProof.Rows L2 Evl PySem.Calls
/-- what is never reached -/
theorem ps_dead {X : Cx} {st : Stmt} : PS X st (fun _ _ _ => False) := ⟨fun _ _ _ _ _ _ h => h.elim⟩
/-! ==, by the class's own -/
def rEqO (C : Addr) (sp : Sp) : R2 := fun x y H Q => ∃ a b dx dy fs gs, x = .ref a ∧ y = .ref b ∧ H a = some (.ins C dx fs) ∧ H b = some (.ins C dy gs) ∧ sp [.ref a, .ref b] H (fun v H' => (∃ r, v = .bl r) ∧ Q v H') E0
theorem op_eqO {X : Cx} {C f : Addr} {fd : FuncData} {ps : List Str} {sp : Sp} {n j : Nat} (F : FnOk X.prog X.w X.K X.mg X.base CX0 n f fd ps sp)
    (hs : PySem.W.findIn X.K (.ref C) "__eq__" = some (some (.ref f))) (hf : PySem.W.isFn X.K (.ref f) = true) (hb : Binds X.K fd ps []) (hr : Room j X.A) (hj : n ≤ j) : OpR X (compareOp .Eq) (rEqO C sp) := by
  intro pins s σ H x y u v Q I rx ry d
  obtain ⟨a, b, dx, dy, fs, gs, rfl, rfl, ha, hb', hsp⟩ := d
  cases rx
  cases ry
  show wpAny (model X.prog X.w) X.A (richCompare .Eq (.ref a) (.ref b)) (EP X pins σ Q) X.xe s
  obtain ⟨mA, J, _⟩ := ins_get I.hok ha
  obtain ⟨mB, J', _⟩ := ins_get I.hok hb'
  obtain ⟨od, J, _⟩ := J.look
  obtain ⟨od', J', _⟩ := J'.look
  obtain ⟨m, hF⟩ := I.fr
  refine PySem.W.cmp_K (op := .Eq) (tb := .ref C) hr.units0 hF I.ok.mod.kin J J'.type (by simp [PySem.W.notFirst]) hs hf ?_
  have hl := F.len _ _ _ _ hsp
  have r2 : Vals [V.ref a, V.ref b] [Value.ref a, Value.ref b] := .cons rfl (.cons rfl .nil)
  refine wpAny_call (codeAny_mono (F.run X.A X.stack s H ⟨[.ref a, .ref b], []⟩ [.ref a, .ref b] [.ref a, .ref b] _ E0 (hr.mono hj) I.env0 (by
    have := hb s [.ref a, .ref b] I.kIn (by simpa using hl)
    simpa using this) r2 hsp) fun r s' hq => ?_)
  cases r with
  | error e => exact pass0 pins σ H s e s' I hq
  | ok fl =>
    cases fl with
    | ret w =>
      obtain ⟨z, H', I', rz, ⟨rr, ez⟩, q⟩ := I.after hq
      subst ez
      obtain rfl : w = Value.bool rr := rz
      exact ⟨.bl rr, H', I', rfl, q⟩
    | next => exact False.elim hq
    | brk => exact False.elim hq
    | cont => exact False.elim hq
/-! len, by the class's own -/
def rLenO (C : Addr) (sp : Sp) : List V → Hp → VK → Prop := fun vs H Q => ∃ a dx fs, vs = [.ref a] ∧ H a = some (.ins C dx fs) ∧ sp [.ref a] H (fun v H' => ∃ n : Nat, v = .int n ∧ n < 1000000 ∧ Q v H') E0
theorem cr_lenO {X : Cx} {C f : Addr} {fd : FuncData} {ps : List Str} {sp : Sp} {n j : Nat} (F : FnOk X.prog X.w X.K X.mg X.base CX0 n f fd ps sp)
    (hs : PySem.W.findIn X.K (.ref C) "__len__" = some (some (.ref f))) (hf : PySem.W.isFn X.K (.ref f) = true) (hb : Binds X.K fd ps []) (hr : Room j X.A) (hj : n + 1 ≤ j) : CallR X (.builtin "len") (rLenO C sp) := by
  intro pins s σ H vs us Q I r h
  obtain ⟨a, dx, fs, rfl, ha, hsp⟩ := h
  rw [Vals.ref1 r]
  obtain ⟨mA, J, _⟩ := ins_get I.hok ha
  obtain ⟨od, J, _⟩ := J.look
  refine Calls.call_function_entry kind_len plain_len entry_len (args_len1 _) ?_
  unfold Builtin.«len»
  refine wpAny_bind (m := oneArg "len" _) (wpAny_pure ?_)
  have hl := F.len _ _ _ _ hsp
  have e0 : Env0 X.prog X.w X.K X.mg X.base X.A.in1 X.stack s H := by
    have e := I.env0
    exact ⟨e.frames, e.mod, e.bs, e.bsz, e.funs, e.frf, e.hok, e.bare⟩
  have hcall : wpAny (model X.prog X.w) X.A.in1 (call (.ref f) [.ref a]) (fun v s' => ∃ (m : Nat) (t : Tok) (H' : Hp), v = .int m t ∧ m < 1000000 ∧ Inv X pins σ H' s' ∧ Q (.int m) H') X.xe s := by
    refine wpAny_call (codeAny_mono (F.run X.A.in1 X.stack s H ⟨[.ref a], []⟩ [.ref a] [.ref a] _ E0 (hr.mono hj).in1 e0 (by
      have := hb s [.ref a] I.kIn (by simpa using hl)
      simpa using this) (.cons rfl .nil) hsp) fun r s' hq => ?_)
    cases r with
    | error e => exact pass0 pins σ H s e s' I hq
    | ok fl =>
      cases fl with
      | ret w =>
        obtain ⟨z, H', I', rz, m, ez, hm, q⟩ := I.after hq
        subst ez
        obtain ⟨t, rfl⟩ := rz
        exact ⟨m, t, H', rfl, hm, I', q⟩
      | next => exact False.elim hq
      | brk => exact False.elim hq
      | cont => exact False.elim hq
  have X' := I.kIn
  have hc : ∀ {Q' : Option Value → Shared → Prop}, wpAny (model X.prog X.w) X.A.in1 (call (.ref f) [.ref a]) (fun v s' => Q' (some v) s') X.xe s → wpAny (model X.prog X.w) X.A.in1 (callSpecial? (.ref a) "__len__" []) Q' X.xe s := fun q => by
    unfold callSpecial? specialOf
    refine wpAny_bind (wpAny_bind (J.type.here ((PySem.W.looks_findIn X' hs).here ?_)))
    refine wpAny_holding ?_
    refine wpAny_bind ((PySem.W.bind_fn X' _ (beq_iff_eq.mp hf)).here ?_)
    exact wpAny_bind (wpAny_mono q (fun v s' z => wpAny_pure z) fun _ _ z => z)
  refine wpAny_bind (m := callSpecial? (.ref a) (Str.ofString "__len__")) (hc (wpAny_mono hcall (fun v s' hq => ?_) fun _ _ z => z))
  obtain ⟨m, t, H', rfl, hm, I', q⟩ := hq
  refine wpAny_bind (wpAny_holding (wpAny_pure ?_))
  refine wpAny_bind (wpAny_letGo ?_)
  show wpAny _ _ (if ((m : Nat) : Int) < 0 then _ else _) _ _ _
  rw [if_neg (by omega)]
  show wpAny _ _ (if ((m : Nat) : Int) ≥ 2 ^ 63 then _ else _) _ _ _
  rw [if_neg (by omega)]
  exact wpAny_bind (wpAny_mkInt (wpAny_pure ⟨_, rfl, ⟨.int m, H', I'.tok _, ⟨_, rfl⟩, q⟩⟩))
end Nr
namespace Nr
open PySem PySem.Spec PyProof.Rows L2 Evl
/-- a class's statement -/
def clsB (s : Stmt) (j : Nat) : Stmt := match s with
  | .ClassDef _ _ _ b _ _ _ _ _ _ _ => b.getD j (.Pass ⟨0, 0, 0, 0⟩)
  | s => s
structure CanM (P : Program) (w : World) (K : PySem.W.Frag) (mg : Str → Option Value) (base : Heap) (C : Addr) (m : Str) (k : Nat) (f : Addr) (fd : FuncData) (ps : List Str) (sp : Sp) : Prop where
  ok : FnOk P w K mg base CX0 k f fd ps sp
  me : Meth K C m f
  bd : Binds K fd ps []
section
variable {X : Cx} {C f : Addr} {m : Str} {k j : Nat} {fd : FuncData} {ps : List Str} {sp : Sp} {o e : Expr} {es : List Expr} {ta : TE} {t : TA} {apos pos : Pos}
theorem pmeth0 {pl : Sem Bool} (M : CanM X.prog X.w X.K X.mg X.base C m k f fd ps sp) (c : Cls X.K C) (hr : Room j X.A) (he : PE X o ta) (hk : k ≤ j := by decide)
    (ht : eval (.Call (.Attribute o m apos) [] [] pos) X.env = (do
      let ov ← eval o X.env
      standAt apos.atName
      let (f, first) ← holding [ov] (getMethod ov m pl)
      callWith pos f first (backTo pos (starEach [] X.env)) (backToKw pos (keywordEach [] X.env))) := by rfl) : PE X (.Call (.Attribute o m apos) [] [] pos) (tMeth C m sp [] E0 ta tNil) :=
  pe_meth0 (pl := pl) he c M.me M.ok (hr.mono hk) M.bd .nil pass0 ht
theorem pmeth {pl : Sem Bool} (M : CanM X.prog X.w X.K X.mg X.base C m k f fd ps sp) (c : Cls X.K C) (hr : Room j X.A) (he : PE X o ta) (ha : PA X (e :: es) t) (hk : k ≤ j := by decide)
    (hst : starEach (e :: es) X.env = (false, eval e X.env) :: starEach es X.env := by rfl) (hpl : (backTo pos (starEach es X.env)).any (·.1) = false := by rfl)
    (ht : eval (.Call (.Attribute o m apos) (e :: es) [] pos) X.env = (do
      let ov ← eval o X.env
      standAt apos.atName
      let (f, first) ← holding [ov] (getMethod ov m pl)
      callWith pos f first (backTo pos (starEach (e :: es) X.env)) (backToKw pos (keywordEach [] X.env))) := by rfl) : PE X (.Call (.Attribute o m apos) (e :: es) [] pos) (tMeth C m sp [] E0 ta t) :=
  pe_meth (pl := pl) he c M.me M.ok (hr.mono hk) M.bd .nil pass0 ha hst hpl ht
end
/-! a roll's fields -/
def fsR (a b c d e : V) : List (Str × V) := [("many", a), ("wound", b), ("pierced", c), ("times", d), ("past", e)]
section
variable {a b c d e v : V}
theorem lk_many : (fsR a b c d e).lookup ("many" : Str) = some a := rfl
theorem lk_wound : (fsR a b c d e).lookup ("wound" : Str) = some b := rfl
theorem lk_pierced : (fsR a b c d e).lookup ("pierced" : Str) = some c := rfl
theorem lk_times : (fsR a b c d e).lookup ("times" : Str) = some d := rfl
theorem lk_past : (fsR a b c d e).lookup ("past" : Str) = some e := rfl
theorem lk_no {m : Str} (h : ["many", "wound", "pierced", "times", "past"].all (fun x => !(m == (x : Str))) = true) : (fsR a b c d e).lookup m = none := by
  simp only [List.all_cons, List.all_nil, Bool.and_true, Bool.and_eq_true, Bool.not_eq_true'] at h
  obtain ⟨h1, h2, h3, h4, h5⟩ := h
  unfold fsR
  rw [List.lookup_cons, h1, List.lookup_cons, h2, List.lookup_cons, h3, List.lookup_cons, h4, List.lookup_cons, h5]
  rfl
theorem pf_wound : putF "wound" v (fsR a b c d e) = fsR a v c d e := by
  unfold fsR putF putF
  rw [if_neg (by decide), if_pos rfl]
theorem pf_pierced : putF "pierced" v (fsR a b c d e) = fsR a b v d e := by
  unfold fsR putF putF putF
  rw [if_neg (by decide), if_neg (by decide), if_pos rfl]
theorem pf_times : putF "times" v (fsR a b c d e) = fsR a b c v e := by
  unfold fsR putF putF putF putF
  rw [if_neg (by decide), if_neg (by decide), if_neg (by decide), if_pos rfl]
theorem pf_1 : putF "many" a [] = [(("many" : Str), a)] := rfl
theorem pf_2 : putF "wound" b [(("many" : Str), a)] = [(("many" : Str), a), (("wound" : Str), b)] := by
  unfold putF putF
  rw [if_neg (by decide)]
theorem pf_3 : putF "pierced" c [(("many" : Str), a), (("wound" : Str), b)] = [(("many" : Str), a), (("wound" : Str), b), (("pierced" : Str), c)] := by
  unfold putF putF putF
  rw [if_neg (by decide), if_neg (by decide)]
theorem pf_4 : putF "times" d [(("many" : Str), a), (("wound" : Str), b), (("pierced" : Str), c)] = [(("many" : Str), a), (("wound" : Str), b), (("pierced" : Str), c), (("times" : Str), d)] := by
  unfold putF putF putF putF
  rw [if_neg (by decide), if_neg (by decide), if_neg (by decide)]
theorem pf_5 : putF "past" e [(("many" : Str), a), (("wound" : Str), b), (("pierced" : Str), c), (("times" : Str), d)] = fsR a b c d e := by
  unfold fsR putF putF putF putF putF
  rw [if_neg (by decide), if_neg (by decide), if_neg (by decide), if_neg (by decide)]
end
structure RCls (K : PySem.W.Frag) (C : Addr) : Prop where
  cls : Cls K C
  many : NoAttr K C "many"
  wound : NoAttr K C "wound"
  pierced : NoAttr K C "pierced"
  times : NoAttr K C "times"
  past : NoAttr K C "past"
structure RSt where
  n : Nat
  w : Option (Nat × Nat × Nat)
  hs : List Nat
  t : Nat
  p : Nat
def wOpt : Option (Nat × Nat × Nat) → PyData
  | none => .none
  | some w => wD w.1 w.2.1 w.2.2
def RollAt (K : PySem.W.Frag) (C : Addr) (D H : Hp) (a l : Addr) (s : RSt) : Prop := D a = none ∧ D l = none ∧ a ≠ l ∧ ∃ dx v1 v2 v3 v4 xs, H a = some (.ins C dx (fsR v1 v2 v3 v4 (.ref l))) ∧ H l = some (.lst xs) ∧ xs.length = s.p ∧ Dq K D v1 (di s.n) ∧ Dq K D v2 (wOpt s.w) ∧ Dq K D v3 (tupN s.hs) ∧ Dq K D v4 (di s.t)
/-- what stands at ps may have changed -/
structure ChS (c : Md) (ps : List Addr) (D H D2 H2 : Hp) : Prop where
  sb : Sb c D2 H2
  dx : Ex D D2
  hx : ∀ a o, a ∉ ps → H a = some o → (c.tab = none ∨ ∀ ps, o ≠ .tbl ps) → c.bag ≠ some a → H2 a = some o
  new : ∀ a o, H a = some o → D a = none → Mu o → D2 a = none
section
variable {K : PySem.W.Frag} {C a l : Addr} {ps qs : List Addr} {D H D1 H1 D2 H2 : Hp} {s : RSt}
theorem ChS.of {c : Md} (f : Fw c D H D2 H2) : ChS c ps D H D2 H2 := ⟨f.sb, f.dx, fun a o _ h n nb => f.hx a o h n nb, f.new⟩
theorem ChS.ch {c : Md} {p : Addr} (f : Ch c p D H D2 H2) (hp : p ∈ ps) : ChS c ps D H D2 H2 := ⟨f.sb, f.dx, fun a o na h n nb => f.hx a o (fun z => na (z ▸ hp)) h n nb, f.new⟩
theorem ChS.trans (f : ChS z0 ps D H D1 H1) (g : ChS z0 ps D1 H1 D2 H2) (k : ∀ a ∈ ps, ∀ o, H a = some o → D a = none → Mu o → D2 a = none) : ChS z0 ps D H D2 H2 :=
  ⟨g.sb, f.dx.trans g.dx, fun a o na h n nb => g.hx a o na (f.hx a o na h n nb) n nb, fun a o h n m => by
    by_cases z : a ∈ ps
    · exact k a z o h n m
    · exact g.new a o (f.hx a o z h (.inl rfl) (fun z => by cases z)) (f.new a o h n m) m⟩
theorem RollAt.chs (R : RollAt K C D H a l s) (f : ChS z0 ps D H D2 H2) (ha : a ∉ ps) (hl : l ∉ ps) : RollAt K C D2 H2 a l s := by
  obtain ⟨n1, n2, ne, dx, v1, v2, v3, v4, xs, h1, h2, hp, d1, d2, d3, d4⟩ := R
  exact ⟨f.new _ _ h1 n1 trivial, f.new _ _ h2 n2 trivial, ne, dx, v1, v2, v3, v4, xs, f.hx _ _ ha h1 (.inl rfl) (fun z => by cases z), f.hx _ _ hl h2 (.inl rfl) (fun z => by cases z), hp, dq_ex f.dx _ _ d1, dq_ex f.dx _ _ d2, dq_ex f.dx _ _ d3, dq_ex f.dx _ _ d4⟩
theorem RollAt.fw (R : RollAt K C D H a l s) (f : Fw z0 D H D2 H2) : RollAt K C D2 H2 a l s := R.chs (ps := []) (ChS.of f) (by simp) (by simp)
/-- in a method's body: what the roll's two places are stays off -/
theorem ChS.two (R : RollAt K C D2 H2 a l s) (f : ChS z0 [a, l] D H D1 H1) (g : ChS z0 [a, l] D1 H1 D2 H2) : ChS z0 [a, l] D H D2 H2 := f.trans g fun b hb o _ _ _ => by
  rcases List.mem_cons.mp hb with rfl | hb
  · exact R.1
  · rw [List.mem_singleton.mp hb]; exact R.2.1
/-- a method that tells data and leaves the roll as s' -/
def spRoll (K : PySem.W.Frag) (C : Addr) {α : Type} (A : α → List PyData) (Pre : RSt → α → Prop) (Post : RSt → α → RSt) (F : RSt → α → PyData) : Sp := fun vs H Q _ => ∃ (a l : Addr) (s : RSt) (x : α) (D : Hp), Sb z0 D H ∧ AS K D vs (.raw (.ref a) :: (A x).map .dat) ∧ RollAt K C D H a l s ∧ Pre s x ∧
  ∀ v D2 H2, ChS z0 [a, l] D H D2 H2 → RollAt K C D2 H2 a l (Post s x) → Dq K D2 v (F s x) → Q v H2
theorem spRoll_len {α : Type} {A : α → List PyData} {Pre : RSt → α → Prop} {Post : RSt → α → RSt} {F : RSt → α → PyData} {vs : List V} {H : Hp} {Q : VK} {E : XK} {k : Nat} (h : spRoll K C A Pre Post F vs H Q E) (hk : ∀ x, (A x).length + 1 = k) : vs.length = k := by
  obtain ⟨_, _, _, x, D, _, hv, _⟩ := h
  rw [as_len hv, List.length_cons, List.length_map, hk]
end
end Nr
namespace Nr
open PySem PySem.Spec PyProof.Rows L2 Evl

theorem isWin_noTup {d : PyData} (h : isTupD d = false) : isWinD d = false := by
  cases d with
  | tuple ds => cases h
  | _ => rfl
theorem isWin_len {ds : List PyData} (h : ds.length ≠ 3) : isWinD (.tuple ds) = false := by
  match ds, h with
  | [], _ => rfl
  | [_], _ => rfl
  | [_, _], _ => rfl
  | [_, _, _], h => exact absurd rfl h
  | _ :: _ :: _ :: _ :: _, _ => rfl
theorem tup_of {d : PyData} (h : isTupD d = true) : ∃ ds, d = .tuple ds := by
  cases d with
  | tuple ds => exact ⟨ds, rfl⟩
  | _ => cases h
def bnd : Nat → Int × Int
  | 0 => (4, 16)
  | 1 => (0, 8)
  | _ => (0, 1)
theorem win_no {d1 d2 d3 : PyData} {i : Nat} (hi : i < 3) (h : [inB 4 16 d1, inB 0 8 d2, inB 0 1 d3][i]? = some false) : isWinD (.tuple [d1, d2, d3]) = false := by
  show (inB 4 16 d1 && (inB 0 8 d2 && inB 0 1 d3)) = false
  match i, hi, h with
  | 0, _, h => rw [Option.some.inj h]; rfl
  | 1, _, h => rw [Option.some.inj h, Bool.false_and, Bool.and_false]
  | 2, _, h => rw [Option.some.inj h, Bool.and_false, Bool.and_false]
section
variable {P : Program} {w : World} {K : PySem.W.Frag} {mg : Str → Option Value} {base : Heap}
/-! is_within -/
abbrev sIsWithin : Stmt := topS 17 /- is_within -/
theorem scIsWithin : FnScope ["thing", "bounds", "low", "high"] ["thing", "bounds"] (defScope sIsWithin) := ⟨rfl, rfl, rfl, by decide +kernel, rfl, by decide +kernel, by decide +kernel⟩
def spIsWithin (K : PySem.W.Frag) : Sp := fun vs H Q _ => ∃ (v : V) (d : PyData) (yb : Addr) (lo hi : Int), vs = [v, .ref yb] ∧ Dp K H v d ∧ SqT K H yb [.int lo, .int hi] ∧ RetV (.bl (inB lo hi d)) H Q
theorem ok_isWithin {f : Addr} {fd : FuncData} (F : Fun K "is_within" "is_within" sIsWithin f fd) {fw : Addr} {fdw : FuncData} (Wh : Can P w K mg base "is_whole" 1 fw fdw ["thing"] (spIsWhole K)) : FnOk P w K mg base CX0 2 f fd ["thing", "bounds"] (spIsWithin K) := by
  refine F.ok scIsWithin (fun vs H Q E h => ?_) (fun cdv A outer s H vs Q E hr h => ?_)
  · obtain ⟨v, d, yb, lo, hi, rfl, _⟩ := h
    rfl
  obtain ⟨v, d, yb, lo, hi, rfl, hd, hy, q⟩ := h
  have nd := scIsWithin.nd
  refine ⟨_, pss_cons (ps_asg (pv 1) (pg_tup rfl (pgs_cons (pg_name (i := 2) nd rfl (.inl rfl)) (pgs_cons (pg_name (i := 3) nd rfl (.inl rfl)) pgs_nil))))
    (pss_one (ps_ret (pe_and (pcall Wh hr (pa_cons (pv 0) pa_nil)) (pe_one (pe_chain op_le op_le (pv 2) (pv 0) (pv 3)))))), ?_⟩
  refine ⟨.ref yb, rfl, yb, _, rfl, hy, rfl, .int lo, _, rfl, .int hi, _, rfl, rfl, ?_⟩
  refine ⟨v, rfl, v, d, rfl, hd, fun H3 e3 => ⟨wholeD d, rfl, ?_⟩⟩
  cases d with
  | int z =>
    cases hd
    refine ⟨.int lo, rfl, .int z, rfl, _, _, rfl, rfl, _, rfl, ?_⟩
    by_cases h1 : lo ≤ z
    · refine (if_pos (decide_eq_true h1)).mpr ⟨.int hi, rfl, _, _, rfl, rfl, ?_⟩
      have : inB lo hi (.int z) = decide (z ≤ hi) := by
        show (decide (lo ≤ z) && decide (z ≤ hi)) = _
        rw [decide_eq_true h1, Bool.true_and]
      rw [this] at q
      exact q _ e3
    · refine (if_neg (by rw [decide_eq_false h1]; decide)).mpr ?_
      have : inB lo hi (.int z) = false := by
        show (decide (lo ≤ z) && decide (z ≤ hi)) = _
        rw [decide_eq_false h1, Bool.false_and]
      rw [this] at q
      exact q _ e3
  | _ => exact q _ e3
/-! is_winding -/
abbrev sIsWinding : Stmt := topS 19 /- is_winding -/
abbrev nIsWin : List Str := ["thing", "part", "bounds"]
theorem scIsWin : FnScope nIsWin ["thing"] (defScope sIsWinding) := ⟨rfl, rfl, rfl, by decide +kernel, rfl, by decide +kernel, by decide +kernel⟩
def spIsWin (K : PySem.W.Frag) : Sp := fun vs H Q _ => ∃ (v : V) (d : PyData), vs = [v] ∧ Dp K H v d ∧ RetV (.bl (isWinD d)) H Q
theorem ok_isWin {f : Addr} {fd : FuncData} (F : Fun K "is_winding" "is_winding" sIsWinding f fd) (mi : mg "isinstance" = none) (mt : mg "tuple" = none) (ml : mg "len" = none) (ma : mg "all" = none) (mz : mg "zip" = none)
    {bb b1 b2 b3 : Addr} (mB : mg "BOUNDS" = some (.ref bb)) (B : Bnds K bb b1 b2 b3) {fw : Addr} {fdw : FuncData} (Wi : Can P w K mg base "is_within" 2 fw fdw ["thing", "bounds"] (spIsWithin K)) : FnOk P w K mg base CX0 3 f fd ["thing"] (spIsWin K) := by
  refine F.ok scIsWin (fun vs H Q E h => ?_) (fun cdv A outer s H vs Q E hr h => ?_)
  · obtain ⟨v, d, rfl, _⟩ := h
    rfl
  obtain ⟨v, d, rfl, hd, q⟩ := h
  refine ⟨_, pss_cons (ps_if (PW.pt (pw_or (pt_not (pt_val (pe_callB call_isi (by rfl) mi boot_isinstance (pa_cons (pv 0) (pa_cons (pe_bltn (v := .ty "tuple") (by rfl) mt PyProof.Rows.boot_tuple rfl) pa_nil)))))
      (pw_or1 (pt_cmpR op_ne (pe_callB call_len_seq (by rfl) ml PySem.boot_len (pa_cons (pv 0) pa_nil)) (pe_callB call_len_seq (by rfl) ml PySem.boot_len (pa_cons (pe_glob (v := .ref bb) (by rfl) mB rfl) pa_nil)) (nomark _)))))
      (pss_one (ps_ret pe_bl)) pss_nil)
    (pss_one (ps_ret (pe_callB (cr_all (by rfl)) (by rfl) ma boot_all (pa_cons (pe_lc (own := [("part", 1), ("bounds", 2)]) (g := gTup K 2 (gCons (gName 1) (gCons (gName 2) gNil))) (tt := tYes) (by rfl) scIsWin.nd
      (RZ.pi_zipA (by rfl) mz (pa_cons (pv 0) (pa_cons (pe_glob (v := .ref bb) (by rfl) mB rfl) pa_nil)))
      (blkOk_by (N := nIsWin) (sc := defScope sIsWinding) (by decide +kernel))
      (fun _ _ _ _ _ => pg_tup rfl (pgs_cons (pg_name (i := 1) scIsWin.nd rfl (.inl rfl)) (pgs_cons (pg_name (i := 2) scIsWin.nd rfl (.inl rfl)) pgs_nil))) (fun _ _ _ _ _ => pts_nil)
      (fun _ _ _ _ _ => pcall Wi hr (pa_cons (pv 1) (pa_cons (pv 2) pa_nil)))) pa_nil)))), ?_⟩
  cases ht : isTupD d with
  | false =>
    refine q_when (et_or (et_not (et_B (ev_isi (ev_var rfl) hd (kit_tup d)))) (b := true) (fun z => by rw [ht] at z; cases z)) (fun _ H1 e1 => ?_) (fun hb H1 e1 => ?_)
    · show Q (.bl false) H1
      rw [isWin_noTup ht] at q
      exact q H1 e1
    · rw [ht] at hb
      cases hb
  | true =>
    obtain ⟨ds, rfl⟩ := tup_of ht
    obtain ⟨va, xs, rfl, hs, ha⟩ := dp_tup hd
    have hl := dpa_len ha
    refine q_when (et_or (et_not (et_B (ev_isi (ev_var rfl) hd (kit_tup (.tuple ds))))) (fun _ => et_test (ev_op (ev_lenT (ev_var rfl) hs) (ev_lenT ev_c B.all.sq) (rv_ne rfl)))) (fun hb H1 e1 => ?_) (fun hb H1 e1 => ?_)
    · show Q (.bl false) H1
      have hne : ds.length ≠ 3 := by
        intro z
        rw [hl, z] at hb
        simp [isTupD] at hb
      rw [isWin_len hne] at q
      exact q H1 e1
    · have h3 : xs.length = 3 := by
        simp [isTupD] at hb
        omega
      rw [h3] at hl
      match ds, xs, hl, h3, ha, hs, q, hd with
      | [d1, d2, d3], [x1, x2, x3], _, _, ha, hs, q, hd =>
      have hs1 := ex_t e1 hs
      refine ⟨.ref va, rfl, va, bb, _, _, rfl, .inr ⟨hs1, B.all.sq, fun D hD => ?_⟩⟩
      refine lc_zipT (xs := [x1, x2, x3]) (ys := [.ref b1, .ref b2, .ref b3]) rfl (fun i H' => Ex H1 H' ∧ H' D = some (.lst (([inB 4 16 d1, inB 0 8 d2, inB 0 1 d3].take i).map V.bl))) ⟨Ex.new hD, upd_same⟩ (fun i H' p' => ⟨ex_t p'.1 hs1, B.all.sq⟩) (fun i x y T H' hx hy p' hT => ?_) fun H' p' => ?_
      · obtain ⟨e2, hl2⟩ := p'
        have eT : Ex H' (upd H' T (.tup [x, y])) := Ex.new hT
        have hi : i < 3 := (List.getElem?_eq_some_iff.mp hx).1
        obtain ⟨dx, hdx, hpx⟩ := dpa_get (dpa_ex (e1.trans e2) _ _ ha) hx
        obtain ⟨yb, lo, hi', rfl, hyb, hnx⟩ : ∃ yb lo hi, y = .ref yb ∧ KT' K yb [.int lo, .int hi] ∧ [inB 4 16 d1, inB 0 8 d2, inB 0 1 d3][i]? = some (inB lo hi dx) := by
          match i, hi with
          | 0, _ => cases hy; cases hdx; exact ⟨b1, 4, 16, rfl, B.one, rfl⟩
          | 1, _ => cases hy; cases hdx; exact ⟨b2, 0, 8, rfl, B.two, rfl⟩
          | 2, _ => cases hy; cases hdx; exact ⟨b3, 0, 1, rfl, B.three, rfl⟩
        refine ⟨T, _, rfl, st_of upd_same, rfl, x, _, rfl, .ref yb, _, rfl, rfl, rfl, ?_⟩
        have fin : ∀ H3, Ex H' H3 → ∃ acc, H3 D = some (.lst acc) ∧ acc.length < sizeLine ∧ Ex H1 (upd H3 D (.lst (acc ++ [.bl (inB lo hi' dx)]))) ∧ upd H3 D (.lst (acc ++ [.bl (inB lo hi' dx)])) D = some (.lst (([inB 4 16 d1, inB 0 8 d2, inB 0 1 d3].take (i + 1)).map V.bl)) := fun H3 e3 => by
          refine ⟨_, e3 _ _ hl2, ?_, Ex.mut (e2.trans e3) hD, ?_⟩
          · rw [List.length_map, List.length_take]
            exact small1000 (by omega)
          · rw [upd_same, List.take_add_one, hnx, List.map_append]
            rfl
        exact ⟨x, rfl, .ref yb, rfl, x, dx, yb, lo, hi', rfl, dp_ex eT _ _ hpx, hyb.sq, fun H3 e3 => fin H3 (eT.trans e3)⟩
      · refine ⟨D, _, rfl, sq_of p'.2, ?_⟩
        have : ([inB 4 16 d1, inB 0 8 d2, inB 0 1 d3].take 3).all id = isWinD (.tuple [d1, d2, d3]) := by
          show (inB 4 16 d1 && (inB 0 8 d2 && (inB 0 1 d3 && true))) = (inB 4 16 d1 && (inB 0 8 d2 && inB 0 1 d3))
          rw [Bool.and_true]
        show Q (.bl (([inB 4 16 d1, inB 0 8 d2, inB 0 1 d3].take 3).all id)) H'
        rw [this]
        exact q H' (e1.trans p'.1)
end
end Nr
namespace Nr
open PySem PySem.Spec PyProof.Rows L2 Evl
/-! comprehensions of more clauses: one lemma for a clause that has another behind it, one for the last -/
def midTurn (e : Expr) (d : Nat) (t i nx : Expr) (ifs : List Expr) (it acc : Value) (env : Env) : Sem Fin := do
  standAt i.pos
  match ← pyNext it with
  | none => pure (.done .next)
  | some v =>
    letOwnedTupleGo t it v
    assign t env v
    let mut ok := true
    for c in ifs do
      if ok then ok ← isTrue c env (eval c env)
    if ok then
      let x ← eval nx env
      standAt nx.pos
      let x ← foldedSetIterable nx env x
      let _ ← runOwn (.compStart e (d + 1) (← holding [x] (pyIter x)) acc env) env
    again (.compLoop e d it acc env)
def lastTurn (e : Expr) (d : Nat) (t i elt : Expr) (ifs : List Expr) (it acc : Value) (env : Env) : Sem Fin := do
  standAt i.pos
  match ← pyNext it with
  | none => pure (.done .next)
  | some v =>
    letOwnedTupleGo t it v
    assign t env v
    let mut ok := true
    for c in ifs do
      if ok then ok ← isTrue c env (eval c env)
    if ok then
      (do let _ ← call (.builtin "list.append") [acc, ← eval elt env])
    again (.compLoop e d it acc env)
/-- a walk of a clause: where it stops Nx holds, else the turn's body leads on -/
def Walks (J : It) (W : Nat → Nat → Hp → Prop) (Nx : Hp → Prop) (body : V → Hp → (Hp → Prop) → Prop) : Prop :=
  ∀ j k H, W j k H → (J.stop j H ∧ Nx H) ∨ (J.go j H ∧ ∃ Ny : Hp → Prop, (∀ H', Ny H' → ∃ k', k' < k ∧ W (j + 1) k' H') ∧ ∀ x H', J.yld j H x H' → body x H' Ny)
def LoopAt (X : Cx) (e : Expr) (d : Nat) (tg : Expr) (D : Addr) (vs : List Nat) (bd : V → L2.St → Hp → (Hp → Prop) → Prop) : Prop :=
  ∀ (pins : List (Addr × Obj)) (σ : L2.St) (H : Hp) (s : Shared) (it : Addr) (fp : List Addr) (tn : Nat → Heap → Prop) (J : It) (W : Nat → Nat → Hp → Prop) (m : Nat) (Nx : Hp → Prop),
    Inv X pins σ H s → Turn X.prog X.w X.K tg J fp it tn → tn 0 s.heap → (∀ b ∈ fp, FpOk X pins H b) → W 0 m H → Walks J W Nx (fun x H' Ny => bd x (wipe σ vs) H' Ny) →
    codeAny (model X.prog X.w) X.A (.compLoop e d (.ref it) (.ref D) X.env) (fun r s' => match r with | .ok _ => ∃ H', Inv X pins (wipe σ vs) H' s' ∧ Nx H' | .error _ => False) s
section
variable {X : Cx} {t i nx elt : Expr} {gens : List Comprehension} {scope : Scope} {pos : Pos} {ifs : List Expr} {d : Nat} {D : Addr} {vs vs1 : List Nat} {g : TG} {tt : TT} {te : TE} {wi : TI} {t1 : Expr} {bd : V → L2.St → Hp → (Hp → Prop) → Prop}
/-- what both share: a turn up to its tests -/
theorem turn_to {pins : List (Addr × Obj)} {σ : L2.St} {H : Hp} {s : Shared} {it : Addr} {fp : List Addr} {tn : Nat → Heap → Prop} {J : It} {j : Nat} (hc : X.calm = true) (hx : X.xe = fun _ _ => False) (pg : PG X t g) (pt : PTs X ifs tt)
    (I : Inv X pins σ H s) (T : Turn X.prog X.w X.K t J fp it tn) (st : tn j s.heap) (n0 : ∀ b ∈ fp, FpOk X pins H b) (go : J.go j H) {Qk : Bool → L2.St → Hp → Prop}
    (step : ∀ x H', J.yld j H x H' → g x σ H' fun σ3 H5 => tt σ3 H5 fun b H6 => Qk b σ3 H6) {E : Value → Shared → Prop} {F : Option Value → Shared → Prop}
    (k : ∀ u s1, wpAny (model X.prog X.w) X.A (letOwnedTupleGo t (.ref it) u) (fun _ s2 => wpAny (model X.prog X.w) X.A (assign t X.env u) (fun _ s3 =>
        wpAny (model X.prog X.w) X.A (forIn ifs true fun c r => if r = true then do let ok ← isTrue c X.env (eval c X.env); pure (ForInStep.yield ok) else pure (ForInStep.yield r))
          (fun b s4 => ∃ (s2 : Shared) (σ3 : L2.St) (H6 : Hp), Inv X (pins ++ pinsAt fp s2.heap) σ3 H6 s4 ∧ tn (j + 1) s2.heap ∧ Qk b σ3 H6) (fun _ _ => False) s3) (fun _ _ => False) s2) (fun _ _ => False) s1 → F (some u) s1) :
    wpAny (model X.prog X.w) X.A (pyNext (.ref it)) F E s := by
  refine thnF (T.item X rfl rfl rfl hc j pins s σ H (fun _ _ => False) I n0 st go) fun r s1 ⟨u, hr, h1⟩ => ?_
  subst hr
  refine k u s1 (thnF h1 fun _ s2 ⟨x, H2, I2, r2, y2, st2, n2⟩ => ?_)
  have I2' := I2.pinned (fun b hb => ⟨n2 b hb, (n0 b hb).2⟩) (T.obj _ _ st2)
  have p1 := pg.run _ s2 σ H2 x u _ I2' r2 (step x H2 y2)
  rw [hx] at p1
  refine thnF p1 fun _ s3 ⟨σ3, H3, I3, q3⟩ => ?_
  have p2 := pt.run _ s3 σ3 H3 _ I3 q3
  rw [hx] at p2
  exact thnF p2 fun b s4 ⟨H4, I4, q4⟩ => ⟨s2, σ3, H4, I4, st2, q4⟩
/-- back at the clause's loop -/
theorem turn_end {pins : List (Addr × Obj)} {σ σ3 : L2.St} {H' : Hp} {s2 s' : Shared} {it : Addr} {fp : List Addr} {tn : Nat → Heap → Prop} {J : It} {j : Nat} (T : Turn X.prog X.w X.K t J fp it tn) (st2 : tn (j + 1) s2.heap) (n0 : ∀ b ∈ fp, ∀ H, H b = none → FpOk X pins H b)
    (I' : Inv X (pins ++ pinsAt fp s2.heap) σ3 H' s') (hl : σ.length = σ3.length) (hk : ∀ (j : Nat) v, σ[j]? = some (some v) → σ3[j]? = some (some v)) :
    Inv X pins σ H' s' ∧ tn (j + 1) s'.heap ∧ ∀ b ∈ fp, FpOk X pins H' b := by
  have pin' : ∀ b ∈ fp, ∀ o, s2.heap.get? b = some o → s'.heap.get? b = some o ∧ H' b = none := fun b hb o e =>
    let z := I'.pin (b, o) (List.mem_append_right _ (List.mem_append_right _ (mem_pinsAt hb e)))
    ⟨z.1, z.2.1⟩
  refine ⟨(I'.unpinned (pins := pins)).weak hl hk, T.keep _ _ _ st2 fun b hb o e => (pin' b hb o e).1, fun b hb => ?_⟩
  obtain ⟨o, e, _⟩ := T.obj _ _ st2 b hb
  exact n0 b hb H' (pin' b hb o e).2
theorem last_loop (hc : X.calm = true) (hx : X.xe = fun _ _ => False) (hq : ∀ it acc, compTurn (.ListComp elt gens scope pos) d it acc X.env = lastTurn (.ListComp elt gens scope pos) d t i elt ifs it acc X.env) (pg : PG X t g) (pt : PTs X ifs tt) (pe : PE X elt te) :
    LoopAt X (.ListComp elt gens scope pos) d t D vs (fun x σ H Ny => g x σ H fun σ3 H5 => tt σ3 H5 fun b H6 => wipe σ3 vs = σ ∧ if b = true then te σ3 H6 fun y H7 => ∃ acc, H7 D = some (.lst acc) ∧ acc.length < sizeLine ∧ Ny (upd H7 D (.lst (acc ++ [y]))) else Ny H6) := by
  intro pins σ H s it fp tn J W m Nx I T st f w wk
  refine codeAny_loop rfl (fun k s' => ∃ j H', Inv X pins (wipe σ vs) H' s' ∧ tn j s'.heap ∧ (∀ b ∈ fp, FpOk X pins H' b) ∧ W j k H') (fun k s1 hI => ?_) m ⟨0, H, I.weak (wipe_length _ _) (fun j v e => (wipe_some e).1), st, f, w⟩
  obtain ⟨j, H1, I1, st1, f1, w1⟩ := hI
  show wpAny _ X.A ((compTurn (.ListComp elt gens scope pos) d (.ref it) (.ref D) X.env).onRaise (fun x => do noteFrame x X.env; theTreesLotGoes x)) _ _ s1
  refine wpAny_noted ?_
  rw [hq]
  unfold lastTurn
  refine wpAny_bind (wpAny_standAt (wpAny_bind ?_))
  rcases wk j k H1 w1 with ⟨stop, nx⟩ | ⟨go, Ny, hNy, step⟩
  · refine thnF (T.done X rfl rfl rfl hc j pins s1 _ H1 (fun _ _ => False) I1 f1 st1 stop) fun r s2 ⟨hr, I2⟩ => ?_
    subst hr
    exact wpAny_pure ⟨H1, I2, nx⟩
  · refine turn_to hc hx pg pt I1 T st1 f1 go step fun u s2 h2 => ?_
    refine wpAny_bind (thnF h2 fun _ s3 h3 => wpAny_bind (thnF h3 fun _ s4 h4 => wpAny_bind (thnF h4 fun b s5 ⟨s3', σ3, H6, I6, st6, hw, q6⟩ => ?_)))
    have hl : (wipe σ vs).length = σ3.length := by rw [← hw, wipe_length]
    have hk : ∀ (j : Nat) v, (wipe σ vs)[j]? = some (some v) → σ3[j]? = some (some v) := fun j v e => by rw [← hw] at e; exact (wipe_some e).1
    have fin : ∀ {s' : Shared} {H' : Hp}, Inv X (pins ++ pinsAt fp s3'.heap) σ3 H' s' → Ny H' → ∃ m, m < k ∧ ∃ j H', Inv X pins (wipe σ vs) H' s' ∧ tn j s'.heap ∧ (∀ b ∈ fp, FpOk X pins H' b) ∧ W j m H' := fun {s' H'} I' n' => by
      obtain ⟨m', hm, w'⟩ := hNy H' n'
      obtain ⟨a, b, c⟩ := turn_end T st6 (fun b hb H z => ⟨z, (f b hb).2⟩) I' hl hk
      exact ⟨m', hm, j + 1, H', a, b, c, w'⟩
    cases b with
    | false => exact wpAny_pure ⟨rfl, fin I6 q6⟩
    | true =>
      have q6 : te σ3 H6 _ := q6
      have p := pe.run _ s5 σ3 H6 _ I6 q6
      rw [hx] at p
      exact wpAny_bind (wpAny_bind (thnF p fun z s6 ⟨yv, H7, I7, r7, acc, hD, hz, ny⟩ => wpAny_bind (app_ok I7 hD hz r7 fun s7 I8 => wpAny_pure (wpAny_pure ⟨rfl, fin I8 ny⟩))))
theorem mid_loop (hc : X.calm = true) (hx : X.xe = fun _ _ => False) (hq : ∀ it acc, compTurn (.ListComp elt gens scope pos) d it acc X.env = midTurn (.ListComp elt gens scope pos) d t i nx ifs it acc X.env) (hs : ∀ x, foldedSetIterable nx X.env x = pure x)
    (hst : ∀ (R : Result → Shared → Prop) (s : Shared) (it acc : Value), codeAny (model X.prog X.w) X.A (.compLoop (.ListComp elt gens scope pos) (d + 1) it acc X.env) R s → wpAny (model X.prog X.w) X.A (pyIter it) (fun it' s' => codeAny (model X.prog X.w) X.A (.compLoop (.ListComp elt gens scope pos) (d + 1) it' acc X.env) R s') (fun _ _ => False) s → codeAny (model X.prog X.w) X.A (.compStart (.ListComp elt gens scope pos) (d + 1) it acc X.env) R s)
    (pg : PG X t g) (pt : PTs X ifs tt) (pi : PI X t1 nx wi) (hv : ∀ i ∈ vs1, i ∈ vs) (inner : LoopAt X (.ListComp elt gens scope pos) (d + 1) t1 D vs1 bd) :
    LoopAt X (.ListComp elt gens scope pos) d t D vs (fun x σ H Ny => g x σ H fun σ3 H5 => tt σ3 H5 fun b H6 => wipe σ3 vs = σ ∧ if b = true then wi σ3 H6 fun J1 H7 => ∃ (W1 : Nat → Nat → Hp → Prop) (m1 : Nat), W1 0 m1 H7 ∧ Walks J1 W1 Ny (fun x H' Nz => bd x (wipe σ3 vs1) H' Nz) else Ny H6) := by
  intro pins σ H s it fp tn J W m Nx I T st f w wk
  refine codeAny_loop rfl (fun k s' => ∃ j H', Inv X pins (wipe σ vs) H' s' ∧ tn j s'.heap ∧ (∀ b ∈ fp, FpOk X pins H' b) ∧ W j k H') (fun k s1 hI => ?_) m ⟨0, H, I.weak (wipe_length _ _) (fun j v e => (wipe_some e).1), st, f, w⟩
  obtain ⟨j, H1, I1, st1, f1, w1⟩ := hI
  show wpAny _ X.A ((compTurn (.ListComp elt gens scope pos) d (.ref it) (.ref D) X.env).onRaise (fun x => do noteFrame x X.env; theTreesLotGoes x)) _ _ s1
  refine wpAny_noted ?_
  rw [hq]
  unfold midTurn
  refine wpAny_bind (wpAny_standAt (wpAny_bind ?_))
  rcases wk j k H1 w1 with ⟨stop, nx'⟩ | ⟨go, Ny, hNy, step⟩
  · refine thnF (T.done X rfl rfl rfl hc j pins s1 _ H1 (fun _ _ => False) I1 f1 st1 stop) fun r s2 ⟨hr, I2⟩ => ?_
    subst hr
    exact wpAny_pure ⟨H1, I2, nx'⟩
  · refine turn_to hc hx pg pt I1 T st1 f1 go step fun u s2 h2 => ?_
    refine wpAny_bind (thnF h2 fun _ s3 h3 => wpAny_bind (thnF h3 fun _ s4 h4 => wpAny_bind (thnF h4 fun b s5 ⟨s3', σ3, H6, I6, st6, hw, q6⟩ => ?_)))
    have hl : (wipe σ vs).length = σ3.length := by rw [← hw, wipe_length]
    have hk : ∀ (j : Nat) v, (wipe σ vs)[j]? = some (some v) → σ3[j]? = some (some v) ∧ j ∉ vs := fun j v e => by rw [← hw] at e; exact wipe_some e
    have fin : ∀ {σ' : L2.St} {s' : Shared} {H' : Hp}, Inv X (pins ++ pinsAt fp s3'.heap) σ' H' s' → (wipe σ vs).length = σ'.length → (∀ (j : Nat) v, (wipe σ vs)[j]? = some (some v) → σ'[j]? = some (some v)) → Ny H' → ∃ m, m < k ∧ ∃ j H', Inv X pins (wipe σ vs) H' s' ∧ tn j s'.heap ∧ (∀ b ∈ fp, FpOk X pins H' b) ∧ W j m H' := fun {σ' s' H'} I' l' k' n' => by
      obtain ⟨m', hm, w'⟩ := hNy H' n'
      obtain ⟨a, b, c⟩ := turn_end T st6 (fun b hb H z => ⟨z, (f b hb).2⟩) I' l' k'
      exact ⟨m', hm, j + 1, H', a, b, c, w'⟩
    cases b with
    | false => exact wpAny_pure ⟨rfl, fin I6 hl (fun j v e => (hk j v e).1) q6⟩
    | true =>
      have q6 : wi σ3 H6 _ := q6
      have p := pi.run _ s5 σ3 H6 _ I6 q6
      rw [hx] at p
      refine wpAny_bind (thnF p fun x s6 h6 => wpAny_bind (wpAny_standAt (wpAny_bind (wpAny_of_eq (hs x) (wpAny_bind (wpAny_holding (thnF h6 fun itv s7 h7 => ?_)))))))
      obtain ⟨it1, fp1, tn1, J1, H7, rfl, I7, T1, st7, f7, W1, m1, w7, wk1⟩ := h7
      refine wpAny_bind (wpAny_runOwn ?_)
      rw [Around.mark_none]
      have lp := inner _ σ3 H7 s7 it1 fp1 tn1 J1 W1 m1 Ny I7 T1 st7 f7 w7 wk1
      refine codeAny_mono (hst _ s7 (.ref it1) (.ref D) lp (T1.self X.A 0 _ _ _ st7 lp)) fun r s' hr => ?_
      cases r with
      | ok fl =>
        obtain ⟨H', I', ny⟩ := hr
        have z := fin I' (hl.trans (wipe_length σ3 vs1).symm) (fun j v e => by
          obtain ⟨e1, e2⟩ := hk j v e
          rw [wipe_out fun z => e2 (hv j z)]
          exact e1) ny
        first
          | exact wpAny_pure ⟨rfl, z⟩
          | exact wpAny_bind (wpAny_pure (wpAny_pure ⟨rfl, z⟩))
      | error e => exact hr.elim
end
/-- the block as a whole -/
def tLcN (wi : TI) (vs : List Nat) (bd : Addr → V → L2.St → Hp → (Hp → Prop) → Prop) : TE := fun σ H Q => wi σ H fun J H1 => ∀ D, H1 D = none → ∃ (W : Nat → Nat → Hp → Prop) (m : Nat), W 0 m (upd H1 D (.lst [])) ∧ Walks J W (fun H' => Q (.ref D) H') (fun x H' Ny => bd D x (wipe σ vs) H' Ny)
theorem wipe_two (σ : L2.St) (vs : List Nat) : wipe (wipe σ vs) vs = wipe σ vs := wipe_same (wipe_length _ _) fun j hj => wipe_out hj
theorem pe_lcN {X : Cx} {elt tg iter : Expr} {ifs : List Expr} {rest : List Comprehension} {scope : Scope} {own : List (Str × Nat)} {pos : Pos} {wi : TI} {bd : Addr → V → L2.St → Hp → (Hp → Prop) → Prop} (hc : X.calm = true) (hN : X.N.Nodup) (hi : PI X tg iter wi) (ok : BlkOk X.N X.env.scope scope own)
    (lp : ∀ (s : Shared) (H : Hp) (C : Addr) (cl : List (Str × Addr)) (fp : List Addr) (D : Addr), LoopAt (X.blk s H scope (compEnvC scope cl C X.env) fp) (.ListComp elt (⟨tg, iter, ifs, 0⟩ :: rest) scope pos) 0 tg D (own.map (·.2)) (bd D)) (hs : ∀ x, foldedSetIterable iter X.env x = pure x := by intro _; rfl) :
    PE X (.ListComp elt (⟨tg, iter, ifs, 0⟩ :: rest) scope pos) (tLcN wi (own.map (·.2)) bd) := by
  refine ⟨fun pins s σ H Q I h => ?_⟩
  rw [eval_ListComp]
  have hfree : ∀ y ∈ scope.names, y.2 = .free → ∃ c, X.env.cells.lookup y.1 = some c := fun y hy e => (ok.free y hy e).elim (fun k => I.ok.has _ (.inl k)) (fun k => I.ok.has _ (.inr k))
  refine wpAny_comprehension_free (use := none) rfl hs (closure_ok hfree) ok.kind (fun y hy e => by rw [ok.uniq y hy, e]) (thn (hi.run pins s σ H _ I h) fun xv s1 hx => thn hx fun itv s2 h2 => ?_)
  obtain ⟨it, fp, tn, J, H2, rfl, I2, T, st2, f2, q⟩ := h2
  refine wpAny_newObj_type (newEnv_comp ?_) (by show 0 ≤ sizeLine; decide)
  have hDn : H2 s2.heap.objs.size = none := I2.hok.fresh (Nat.le_refl _)
  obtain ⟨W, m0, w0, wk⟩ := q s2.heap.objs.size hDn
  generalize hD : s2.heap.objs.size = D at hDn w0 wk
  have new : (s2.heap.push { cls := .type "list", data := .seq ([] : List Value).toArray }).get? D = some { cls := .type "list", data := .seq ([] : List Value).toArray } := by rw [← hD]; exact Heap.get?_push_size _ rfl
  have I3 : Inv X pins σ (upd H2 D (.lst [])) { s2 with heap := s2.heap.push { cls := .type "list", data := .seq ([] : List Value).toArray } } :=
    I2.laid (t' := s2.toks) (fun b o e => Heap.get?_push_of_some _ e) (Nat.le_of_eq hD) ⟨Nat.zero_le _, [], 0, .nil, new⟩
  have hsz : ({ s2 with heap := s2.heap.push { cls := .type "list", data := .seq ([] : List Value).toArray } } : Shared).heap.objs.size = s2.heap.objs.size + 1 := Heap.size_push _ _
  have st3 : tn 0 ({ s2 with heap := s2.heap.push { cls := .type "list", data := .seq ([] : List Value).toArray } } : Shared).heap := T.keep _ _ _ st2 fun b _ o e => Heap.get?_push_of_some _ e
  have low : ∀ b ∈ fp, b < s2.heap.objs.size := fun b hb => by
    obtain ⟨o, e, _⟩ := T.obj _ _ st2 b hb
    exact Heap.lt_size e
  generalize ({ s2 with heap := s2.heap.push { cls := .type "list", data := .seq ([] : List Value).toArray } } : Shared) = s3 at I3 hsz st3 ⊢
  have f3 : ∀ b ∈ fp, FpOk X pins (upd H2 D (.lst [])) b ∧ b < s3.heap.objs.size := fun b hb => by
    refine ⟨⟨?_, (f2 b hb).2⟩, by rw [hsz]; exact Nat.lt_succ_of_lt (low b hb)⟩
    rw [upd_ne (by rw [← hD]; exact Nat.ne_of_lt (low b hb))]
    exact (f2 b hb).1
  have I4 := block_start I3 ok hN f3
  have loop := lp s3 (upd H2 D (.lst [])) s3.heap.objs.size (cellsFrom (s3.heap.objs.size + 1) scope.names (cloFrom X.env.cells scope.names [])) fp D
  generalize hce : compEnvC scope (cellsFrom (s3.heap.objs.size + 1) scope.names (cloFrom X.env.cells scope.names [])) s3.heap.objs.size X.env = ce at I4 loop
  have cL : ce.locals = s3.heap.objs.size := by subst hce; rfl
  have st4 : tn 0 (pushCells (s3.heap.push { cls := .type "dict", data := .dict #[] }) scope.names) := T.keep _ _ _ st3 fun b _ o e => pushCells_keeps _ _ _ _ (Heap.get?_push_of_some _ e)
  have fb : ∀ b ∈ fp, FpOk (X.blk s3 (upd H2 D (.lst [])) scope ce fp) [] (upd H2 D (.lst [])) b := fun b hb =>
    ⟨(f3 b hb).1.1, (I4.ok.exf b hb).1, I4.ok.exfs b hb, .inl hb, fun x c e => (I4.ok.exf b hb).2 x c e, fun p hp => absurd (show p ∈ ([] : List (Addr × Obj)) ++ [] from hp) (by simp)⟩
  have run := loop [] (wipe σ (own.map (·.2))) (upd H2 D (.lst [])) _ it fp tn J W m0 (fun H' => Q (.ref D) H') I4 T st4 fb w0 (by rw [wipe_two]; exact wk)
  have fin : codeAny (model X.prog X.w) X.A (.compLoop (.ListComp elt (⟨tg, iter, ifs, 0⟩ :: rest) scope pos) 0 (.ref it) (.ref D) ce) (compPost (model X.prog X.w) X.A X.xe none (EP X pins σ Q) (.ref D) s3.heap.objs.size) { s3 with heap := pushCells (s3.heap.push { cls := .type "dict", data := .dict #[] }) scope.names } := by
    refine codeAny_mono run fun r s' hr => ?_
    cases r with
    | error e => exact hr.elim
    | ok fl =>
      obtain ⟨H5, I6, qq⟩ := hr
      have I7 : Inv X pins σ H5 s' := I3.call' (ch := fp) I6.os I6.base I6.hok I6.bare fun b hb => ⟨(f3 b hb).1.2.2.2.1, (f3 b hb).1.2.1, (f3 b hb).1.2.2.2.2.1, (f3 b hb).1.2.2.2.2.2⟩
      have nC : H5 s3.heap.objs.size = none := by
        have z : H5 ce.locals = none := I6.free
        rw [cL] at z
        exact z
      obtain ⟨m, hn, _⟩ := I6.loc
      have hn : s'.heap.Ns ce.locals m := hn
      rw [cL] at hn
      obtain ⟨g0, g1, g2, g3, g4, g5⟩ := I3.fpOk (Nat.le_refl _) nC
      exact ⟨m, hn, fun h'' sb => ⟨.ref D, H5, I7.turned (t' := s'.toks) (fun b o hb e => (sb.2 b hb).trans e) g0 g1 g3 g4 g5, rfl, qq⟩⟩
  subst hce
  exact codeAny_compStart_list fin (T.self X.A 0 _ _ _ st4 fin)
theorem start_ok {prog : Program} {w : World} {A : Around} {elt : Expr} {gens : List Comprehension} {scope : Scope} {pos : Pos} {d : Nat} {t i : Expr} {ifs : List Expr} {env : Env} (hg : gens[d]? = some ⟨t, i, ifs, 0⟩) (R : Result → Shared → Prop) (s : Shared) (it acc : Value)
    (h0 : codeAny (model prog w) A (.compLoop (.ListComp elt gens scope pos) d it acc env) R s) (h : wpAny (model prog w) A (pyIter it) (fun it' s' => codeAny (model prog w) A (.compLoop (.ListComp elt gens scope pos) d it' acc env) R s') (fun _ _ => False) s) :
    codeAny (model prog w) A (.compStart (.ListComp elt gens scope pos) d it acc env) R s := by
  refine codeAny_of_tree ?_
  show wpAny _ _ ((compStart (.ListComp elt gens scope pos) d it acc env).onRaise (fun x => do noteFrame x env; standAt theWindowsPlace)) _ _ s
  refine wpAny_notedAt ?_
  unfold compStart
  have hc : (clausesOf (.ListComp elt gens scope pos))[d]? = some ⟨t, i, ifs, 0⟩ := hg
  rw [hc]
  show wpAny _ _ (ask >>= _) _ _ s
  refine wpAny_bind (wpAny_askSetting (wpAny_ite ?_))
  split
  · first
      | exact wpAny_bind (wpAny_pure (wpAny_pure (And.intro rfl h0)))
      | exact wpAny_pure (And.intro rfl h0)
  · first
      | exact wpAny_bind (wpAny_rule (wpAny_bind (wpAny_standAt (wpAny_bind (thnF h fun it' s' h' => wpAny_pure (And.intro rfl h'))))))
      | (refine wpAny_bind (wpAny_rule ?_); show wpAny _ _ (standAt i.pos >>= _) _ _ s; exact wpAny_bind (wpAny_standAt (wpAny_bind (thnF h fun it' s' h' => wpAny_pure (And.intro rfl h')))))
/-! three clauses, no tests -/
def lastB (g : TG) (te : TE) (vs : List Nat) (D : Addr) (x : V) (σ : L2.St) (H : Hp) (Ny : Hp → Prop) : Prop := g x σ H fun σ3 H5 => tYes σ3 H5 fun b H6 => wipe σ3 vs = σ ∧ if b = true then te σ3 H6 fun y H7 => ∃ acc, H7 D = some (.lst acc) ∧ acc.length < sizeLine ∧ Ny (upd H7 D (.lst (acc ++ [y]))) else Ny H6
def midB (g : TG) (wi : TI) (vs vs1 : List Nat) (bd : V → L2.St → Hp → (Hp → Prop) → Prop) (x : V) (σ : L2.St) (H : Hp) (Ny : Hp → Prop) : Prop := g x σ H fun σ3 H5 => tYes σ3 H5 fun b H6 => wipe σ3 vs = σ ∧ if b = true then wi σ3 H6 fun J1 H7 => ∃ (W1 : Nat → Nat → Hp → Prop) (m1 : Nat), W1 0 m1 H7 ∧ Walks J1 W1 Ny (fun x H' Nz => bd x (wipe σ3 vs1) H' Nz) else Ny H6
theorem pe_lc3 {X : Cx} {elt t0 i0 t1 i1 t2 i2 : Expr} {scope : Scope} {own : List (Str × Nat)} {vs1 vs2 : List Nat} {pos : Pos} {w0 w1 w2 : TI} {g0 g1 g2 : TG} {te : TE} (hc : X.calm = true) (hN : X.N.Nodup) (ok : BlkOk X.N X.env.scope scope own) (hv1 : ∀ i ∈ vs1, i ∈ own.map (·.2)) (hv2 : ∀ i ∈ vs2, i ∈ vs1) (hi : PI X t0 i0 w0)
    (h0 : ∀ (s : Shared) (H : Hp) (C : Addr) (cl : List (Str × Addr)) (fp : List Addr), PG (X.blk s H scope (compEnvC scope cl C X.env) fp) t0 g0)
    (h1 : ∀ (s : Shared) (H : Hp) (C : Addr) (cl : List (Str × Addr)) (fp : List Addr), PI (X.blk s H scope (compEnvC scope cl C X.env) fp) t1 i1 w1 ∧ PG (X.blk s H scope (compEnvC scope cl C X.env) fp) t1 g1)
    (h2 : ∀ (s : Shared) (H : Hp) (C : Addr) (cl : List (Str × Addr)) (fp : List Addr), PI (X.blk s H scope (compEnvC scope cl C X.env) fp) t2 i2 w2 ∧ PG (X.blk s H scope (compEnvC scope cl C X.env) fp) t2 g2)
    (he : ∀ (s : Shared) (H : Hp) (C : Addr) (cl : List (Str × Addr)) (fp : List Addr), PE (X.blk s H scope (compEnvC scope cl C X.env) fp) elt te)
    (hs : ∀ x, foldedSetIterable i0 X.env x = pure x := by intro _; rfl) (hs1 : ∀ env x, foldedSetIterable i1 env x = pure x := by intro _ _; rfl) (hs2 : ∀ env x, foldedSetIterable i2 env x = pure x := by intro _ _; rfl) :
    PE X (.ListComp elt [⟨t0, i0, [], 0⟩, ⟨t1, i1, [], 0⟩, ⟨t2, i2, [], 0⟩] scope pos) (tLcN w0 (own.map (·.2)) fun D => midB g0 w1 (own.map (·.2)) vs1 (midB g1 w2 vs1 vs2 (lastB g2 te vs2 D))) :=
  pe_lcN hc hN hi ok (fun s H C cl fp D => mid_loop (i := i0) (ifs := []) (hc := hc) rfl (fun _ _ => rfl) (hs1 _) (fun R s it acc a b => start_ok rfl R s it acc a b) (h0 s H C cl fp) pts_nil (h1 s H C cl fp).1 hv1
    (mid_loop (i := i1) (ifs := []) (hc := hc) rfl (fun _ _ => rfl) (hs2 _) (fun R s it acc a b => start_ok rfl R s it acc a b) (h1 s H C cl fp).2 pts_nil (h2 s H C cl fp).1 hv2
      (last_loop (i := i2) (ifs := []) (hc := hc) rfl (fun _ _ => rfl) (h2 s H C cl fp).2 pts_nil (he s H C cl fp)))) hs
end Nr
namespace Nr
open PySem PySem.Spec PyProof.Rows L2 Evl
section
variable {K : PySem.W.Frag} {c : Md} {δ : List Sl} {te : TE} {D1 H1 Dx : Hp} {p : Addr}
/-- the list that a block fills, so far -/
def Fil (K : PySem.W.Frag) (c : Md) (D1 H1 : Hp) (p : Addr) (Dx : Hp) (acc : List PyData) (H' : Hp) : Prop := ∃ (D' : Hp) (xs : List V), Fw c D1 H1 D' H' ∧ Ex Dx D' ∧ D' p = none ∧ H' p = some (.lst xs) ∧ DqAll K D' xs acc
theorem flat_len {α β : Type} {out : α → List β} {M : Nat} : ∀ (L : List α) (i : Nat), (∀ d ∈ L, (out d).length ≤ M) → ((L.take i).flatMap out).length ≤ i * M
  | [], i, _ => by simp
  | d :: L, 0, _ => by simp
  | d :: L, i + 1, h => by
    have := flat_len L i fun x hx => h x (List.mem_cons_of_mem _ hx)
    have := h d List.mem_cons_self
    rw [List.take_succ_cons, List.flatMap_cons, List.length_append, Nat.succ_mul]
    omega
theorem walk_acc {J : It} {L : List PyData} {out : PyData → List PyData} {body : V → Hp → (Hp → Prop) → Prop} {Nx : Hp → Prop} {acc0 : List PyData} {H0 : Hp} {M : Nat} (nb : c.bag ≠ some p) (wk : Wk K c J Dx L) (h0 : Fil K c D1 H1 p Dx acc0 H0) (hM : ∀ d ∈ L, (out d).length ≤ M)
    (hb : ∀ d ∈ L, ∀ (acc : List PyData) (x : V) (D2 : Hp) (xs : List V) (H2 : Hp) (Ny : Hp → Prop), acc.length + M ≤ acc0.length + L.length * M → Fw c D1 H1 D2 H2 → Ex Dx D2 → D2 p = none → H2 p = some (.lst xs) → DqAll K D2 xs acc → Dq K D2 x d → (∀ H3, Fil K c D1 H1 p Dx (acc ++ out d) H3 → Ny H3) → body x H2 Ny)
    (hN : ∀ H', Fil K c D1 H1 p Dx (acc0 ++ L.flatMap out) H' → Nx H') : ∃ (W : Nat → Nat → Hp → Prop) (m : Nat), W 0 m H0 ∧ Walks J W Nx body := by
  refine ⟨fun j k H' => k + j = L.length ∧ Fil K c D1 H1 p Dx (acc0 ++ (L.take j).flatMap out) H', L.length, ⟨rfl, by simpa using h0⟩, fun j k H' hW => ?_⟩
  obtain ⟨ek, D', xs, fw, ex, nD, hp, hd⟩ := hW
  by_cases lt : j < L.length
  · refine .inr ⟨wk.go j H' lt (ex.trans fw.sb.ex), fun H2 => Fil K c D1 H1 p Dx (acc0 ++ (L.take (j + 1)).flatMap out) H2, fun H2 h2 => ⟨k - 1, by omega, by omega, h2⟩, fun x H2 hy => ?_⟩
    obtain ⟨D2, fy, dy⟩ := wk.yld j L[j] D' H' x H2 (List.getElem?_eq_getElem lt) ex fw.sb hy
    have hl := flat_len (out := out) L j hM
    have hmul : j * M + M ≤ L.length * M := by
      rw [← Nat.succ_mul]
      exact Nat.mul_le_mul_right _ lt
    refine hb L[j] (List.getElem_mem lt) _ x D2 xs H2 _ (by rw [List.length_append]; omega) (fw.trans fy) (ex.trans fy.dx) (fy.off hp nD trivial) (fy.keep hp trivial nb) (dqa_ex fy.dx _ _ hd) dy fun H3 h3 => ?_
    rw [List.append_assoc] at h3
    rw [List.take_add_one, List.getElem?_eq_getElem lt, List.flatMap_append]
    simpa using h3
  · have ej : j = L.length := by omega
    subst ej
    rw [List.take_length] at hd
    exact .inl ⟨wk.stop H' (ex.trans fw.sb.ex), hN H' ⟨D', xs, fw, ex, nD, hp, hd⟩⟩
theorem Fil.lift {Dy : Hp} {acc : List PyData} {H' : Hp} (h : Fil K c D1 H1 p Dx acc H') (e : Ex Dy Dx) : Fil K c D1 H1 p Dy acc H' := by
  obtain ⟨D', xs, fw, ex, r⟩ := h
  exact ⟨D', xs, fw, e.trans ex, r⟩
theorem wipe_set {σ : L2.St} {j : Nat} {vs : List Nat} {x : Option V} (hj : j ∈ vs) : wipe ((wipe σ vs).set j x) vs = wipe σ vs := by
  refine wipe_same (by rw [List.length_set, wipe_length]) fun k hk => ?_
  rw [List.getElem?_set_ne (fun z => hk (by rw [← z]; exact hj)), wipe_out hk]
theorem ed_lc3 {w0 w1 w2 : TI} {j0 j1 j2 : Nat} {vs vs1 vs2 : List Nat} {L0 L1 L2 : List PyData} (F : PyData → PyData → PyData → PyData) (m0 : j0 ∈ vs) (m1 : j1 ∈ vs1) (m2 : j2 ∈ vs2) (hi : EI K c w0 δ L0)
    (h1 : ∀ a ∈ L0, EI K c w1 ((wipeD δ vs).set j0 (.dat a)) L1) (h2 : ∀ a ∈ L0, ∀ b ∈ L1, EI K c w2 ((wipeD ((wipeD δ vs).set j0 (.dat a)) vs1).set j1 (.dat b)) L2)
    (he : ∀ a ∈ L0, ∀ b ∈ L1, ∀ d ∈ L2, ED K c te ((wipeD ((wipeD ((wipeD δ vs).set j0 (.dat a)) vs1).set j1 (.dat b)) vs2).set j2 (.dat d)) (F a b d)) (hl : L0.length * (L1.length * (L2.length * 1)) ≤ 50000) :
    ED K c (tLcN w0 vs fun D => midB (gName j0) w1 vs vs1 (midB (gName j1) w2 vs1 vs2 (lastB (gName j2) te vs2 D))) δ (.list (L0.flatMap fun a => L1.flatMap fun b => L2.flatMap fun d => [F a b d])) := fun σ D H s e Q q =>
  hi σ D H s e _ fun J D1 H1 f1 wk => fun p hp => by
    have nb := f1.sb.nbH hp
    have start : Fil K c D1 H1 p D1 [] (upd H1 p (.lst [])) := ⟨D1, [], Fw.made f1.sb hp, Ex.refl _, f1.sb.free hp, upd_same, .nil⟩
    refine walk_acc (M := L1.length * (L2.length * 1)) (out := fun a => L1.flatMap fun b => L2.flatMap fun d => [F a b d]) nb wk start (fun a _ => ?_) (fun a ha acc x D2 xs H2 Ny hb fw ex nD hpx hd dx hN => ?_) fun H' h' => ?_
    · have := flat_len (out := fun b => L2.flatMap fun d => [F a b d]) (M := L2.length * 1) L1 L1.length fun b _ => by
        have := flat_len (out := fun d => [F a b d]) (M := 1) L2 L2.length fun d _ => Nat.le_refl _
        rw [List.take_length] at this
        exact this
      rw [List.take_length] at this
      exact this
    · have e2 : SE K D2 ((wipe σ vs).set j0 (some x)) ((wipeD δ vs).set j0 (.dat a)) := SE.set (x := some x) (s := .dat a) dx j0 ((e.ex (f1.trans fw).dx).wipe vs)
      refine ⟨wipe_set m0, ?_⟩
      rw [if_pos rfl]
      refine h1 a ha _ D2 H2 fw.sb e2 _ fun J1 D3 H3 f3 wk1 => ?_
      refine walk_acc (Dx := D3) (M := L2.length * 1) (out := fun b => L2.flatMap fun d => [F a b d]) nb wk1 ⟨D3, xs, fw.trans f3, Ex.refl _, f3.off hpx nD trivial, f3.keep hpx trivial nb, dqa_ex f3.dx _ _ hd⟩ (fun b _ => ?_) (fun b hb' acc2 x2 D4 xs2 H4 Nz hb2 fw4 ex4 nD4 hp4 hd4 dx4 hN4 => ?_) fun H' h' => hN H' (h'.lift (ex.trans f3.dx))
      · have := flat_len (out := fun d => [F a b d]) (M := 1) L2 L2.length fun d _ => Nat.le_refl _
        rw [List.take_length] at this
        exact this
      · have e4 : SE K D4 ((wipe ((wipe σ vs).set j0 (some x)) vs1).set j1 (some x2)) ((wipeD ((wipeD δ vs).set j0 (.dat a)) vs1).set j1 (.dat b)) := SE.set (x := some x2) (s := .dat b) dx4 j1 ((e2.ex (f3.dx.trans ex4)).wipe vs1)
        refine ⟨wipe_set m1, ?_⟩
        rw [if_pos rfl]
        refine h2 a ha b hb' _ D4 H4 fw4.sb e4 _ fun J2 D5 H5 f5 wk2 => ?_
        refine walk_acc (Dx := D5) (M := 1) (out := fun d => [F a b d]) nb wk2 ⟨D5, xs2, fw4.trans f5, Ex.refl _, f5.off hp4 nD4 trivial, f5.keep hp4 trivial nb, dqa_ex f5.dx _ _ hd4⟩ (fun d _ => Nat.le_refl _) (fun d hd' acc3 x3 D6 xs3 H6 Nw hb3 fw6 ex6 nD6 hp6 hd6 dx6 hN6 => ?_) fun H' h' => hN4 H' (h'.lift (ex4.trans f5.dx))
        have e6 : SE K D6 ((wipe ((wipe ((wipe σ vs).set j0 (some x)) vs1).set j1 (some x2)) vs2).set j2 (some x3)) ((wipeD ((wipeD ((wipeD δ vs).set j0 (.dat a)) vs1).set j1 (.dat b)) vs2).set j2 (.dat d)) := SE.set (x := some x3) (s := .dat d) dx6 j2 ((e4.ex (f5.dx.trans ex6)).wipe vs2)
        refine ⟨wipe_set m2, ?_⟩
        rw [if_pos rfl]
        refine he a ha b hb' d hd' _ D6 H6 fw6.sb e6 _ fun y D7 H7 f7 dy => ?_
        have np7 : D7 p = none := f7.off hp6 nD6 trivial
        have hp7 : H7 p = some (.lst xs3) := f7.keep hp6 trivial nb
        refine ⟨xs3, hp7, ?_, hN6 _ ⟨D7, xs3 ++ [y], (fw6.trans f7).mut (.none hp) np7 hp7 trivial nb, ex6.trans f7.dx, np7, upd_same, dqa_append (dqa_ex f7.dx _ _ hd6) (.cons dy .nil)⟩⟩
        have l6 := dqa_len hd6
        have hb : acc.length + L1.length * (L2.length * 1) ≤ L0.length * (L1.length * (L2.length * 1)) := by simpa using hb
        exact sz_lt (by omega)
    · obtain ⟨D', xs, fw, ex, nD, hpx, hd⟩ := h'
      have fg := fw.give (.none hp) nD hpx nb
      exact q _ _ _ (f1.trans fg) (.lst upd_same (dqa_ex (Ex.new nD) _ _ hd))
end
end Nr

namespace Nr
open PySem PySem.Spec PyProof.Rows L2 Evl
section
variable {K : PySem.W.Frag} {c : Md} {δ δ2 : List Sl} {te ta tb : TE} {d : PyData} {ds : List PyData}
theorem ed_glob {v : V} (h : ∀ D : Hp, Dq K D v d) : ED K c (tC v) δ d := fun σ D H s e Q q => q v D H (Fw.refl s) (h D)
theorem eg_lst {n : Nat} {gs : TGs} {us : List Nat} (h : EGs K c gs ds δ δ2 us) (hn : ds.length = n) : EG K c (gLst K n gs) (.list ds) δ δ2 us := fun v σ D H s e hd Q q => by
  obtain ⟨a, xs, rfl, ha, hx⟩ := dq_lst hd
  exact ⟨a, xs, rfl, sq_of (s.ex _ _ ha), by rw [dqa_len hx, hn], h xs σ D H s e hx Q q⟩
theorem ed_lstRg {a b : Nat} (h1 : ED K c ta δ (di a)) (h2 : ED K c tb δ (di b)) (ha : a ≤ 100000) (hb : b ≤ 100000) : ED K c (tLstRg (tRg2 ta tb)) δ (.list ((List.range (b - a)).map fun i => di (a + i))) := fun σ D H s e Q q =>
  h1 σ D H s e _ fun x D1 H1 f1 d1 => h2 σ D1 H1 f1.sb (e.ex f1.dx) _ fun y D2 H2 f2 d2 => by
    refine ⟨a, b, dq_int d1, dq_int d2, RgOk.of_le (by omega) (by omega) (by omega) (by omega), fun t ht => ?_⟩
    have f3 := Fw.alloc (o := .lst (rgV a b)) f2.sb ht trivial
    refine q _ _ _ ((f1.trans f2).trans f3) (.lst upd_same ?_)
    have e1 : rgV (a : Int) (b : Int) = ((List.range (b - a)).map fun i => a + i).map vi := by
      unfold rgV
      rw [show ((b : Int) - (a : Int)).toNat = b - a by omega, List.map_map]
      exact List.map_congr_left fun i _ => rfl
    have e2 : ((List.range (b - a)).map fun i => di (a + i)) = ((List.range (b - a)).map fun i => a + i).map di := by
      rw [List.map_map]
      rfl
    rw [e1, e2]
    exact vis_dqa _
end
theorem bnds_dq {K : PySem.W.Frag} {bb b1 b2 b3 : Addr} (B : Bnds K bb b1 b2 b3) (D : Hp) : Dq K D (.ref bb) (.tuple [.tuple [di 4, di 16], .tuple [di 0, di 8], .tuple [di 0, di 1]]) := by
  have one : ∀ {b : Addr} {x y : Nat}, KT' K b [.int x, .int y] → Dq K D (.ref b) (.tuple [di x, di y]) := fun h => .tup h.sq (.cons (.int _) (.cons (.int _) .nil))
  exact .tup B.all.sq (.cons (one B.one) (.cons (one B.two) (.cons (one B.three) .nil)))
/-- all windings, rising -/
def allW : List (Nat × Nat × Nat) := ((List.range 13).map (4 + ·)).flatMap fun g => (List.range 9).flatMap fun h => (List.range 2).map fun e => (g, h, e)
def wT (w : Nat × Nat × Nat) : PyData := wD w.1 w.2.1 w.2.2
theorem allW_ok : ∀ w ∈ allW, 4 ≤ w.1 ∧ w.1 ≤ 16 ∧ w.2.1 ≤ 8 ∧ w.2.2 ≤ 1 := by decide +kernel
theorem allW_len : allW.length = 234 := by decide +kernel
section
variable {P : Program} {w : World} {K : PySem.W.Frag} {mg : Str → Option Value} {base : Heap}
def spAllW (K : PySem.W.Frag) : Sp := spF K (fun _ : Unit => []) (fun _ => True) fun _ => .list (allW.map wT)
end
end Nr
namespace Nr
open PySem PySem.Spec PyProof.Rows L2 Evl
section
variable {K : PySem.W.Frag} {c : Md}
theorem sd_within {d : PyData} {lo hi : Int} : SpD K c (spIsWithin K) [d, .tuple [.int lo, .int hi]] (.bool (inB lo hi d)) := fun vs D H s hv Q q E => by
  cases hv with
  | cons h1 hv =>
  cases hv with
  | cons h2 hv =>
  cases hv
  obtain ⟨yb, xs, rfl, hy, hx⟩ := dq_tup h2
  cases hx with
  | cons a1 hx =>
  cases hx with
  | cons a2 hx =>
  cases hx
  rw [dq_int a1, dq_int a2] at hy
  exact ⟨_, d, yb, lo, hi, rfl, dp_ex s.ex _ _ (dq_dp _ _ h1), ex_t s.ex hy, fun H2 e => q _ D H2 (Fw.ofEx s e) (.bl _)⟩
theorem sd_isWinR {d : PyData} : SpD K c (spIsWin K) [d] (.bool (isWinD d)) := fun vs D H s hv Q q E => by
  cases hv with
  | cons h1 hv =>
  cases hv
  exact ⟨_, d, rfl, dp_ex s.ex _ _ (dq_dp _ _ h1), fun H2 e => q _ D H2 (Fw.ofEx s e) (.bl _)⟩
theorem sd_gcd {a b : Nat} : SpD K c spGcd [di a, di b] (di (Nat.gcd a b)) := fun vs D H s hv Q q E => by
  cases hv with
  | cons h1 hv =>
  cases hv with
  | cons h2 hv =>
  cases hv
  exact ⟨a, b, by rw [dq_int h1, dq_int h2], fun H2 e => q _ D H2 (Fw.ofEx s e) (.int _)⟩
end
section
variable {P : Program} {w : World} {K : PySem.W.Frag} {mg : Str → Option Value} {base : Heap}
abbrev sIsStrip : Stmt := topS 18 /- is_strip -/
abbrev nIsStrip : List Str := ["thing"]
theorem scIsStrip : FnScope nIsStrip ["thing"] (defScope sIsStrip) := ⟨rfl, rfl, rfl, by decide +kernel, rfl, by decide +kernel, by decide +kernel⟩
def spIsStrip (K : PySem.W.Frag) : Sp := spF K (fun d : PyData => [d]) (fun _ => True) fun d => .bool (inB 1 24 d)
theorem ok_IsStrip {f : Addr} {fd : FuncData} (F : Fun K "is_strip" "is_strip" sIsStrip f fd)
    {f0 : Addr} {fd0 : FuncData} (C_is_within : Can P w K mg base "is_within" 2 f0 fd0 ["thing", "bounds"] (spIsWithin K)) {sb : Addr} (m_S : mg "STRIP" = some (.ref sb)) (SB : KT' K sb [.int 1, .int 24]) :
    FnOk P w K mg base CX0 3 f fd ["thing"] (spIsStrip K) := by
  refine F.ok scIsStrip (fun vs H Q E h => spF_len h fun _ => rfl) (fun cdv A outer s H vs Q E hr h => ?_)
  obtain ⟨d, D, sb', hv, _, q⟩ := h
  have nd := scIsStrip.nd
  refine ⟨_, (pss_one (ps_ret (pcall C_is_within hr (pa_cons (pv 0) (pa_cons (pe_glob (v := .ref sb) (by rfl) m_S rfl) pa_nil))))), RD.go sb' hv rfl (rd_ret (ed_call (ea_consD (ed_var rfl) (ea_consD (ed_glob fun D => .tup SB.sq (.cons (.int _) (.cons (.int _) .nil))) ea_nilD)) sd_within)) q⟩
abbrev sIsFrac : Stmt := topS 12 /- is_fraction -/
abbrev nIsFrac : List Str := ["thing", "top", "bottom"]
theorem scIsFrac : FnScope nIsFrac ["thing"] (defScope sIsFrac) := ⟨rfl, rfl, rfl, by decide +kernel, rfl, by decide +kernel, by decide +kernel⟩
def spIsFrac (K : PySem.W.Frag) : Sp := spF K (fun p : Nat × Nat => [td p]) (fun p => 0 < p.2) fun p => .bool (decide (Nat.gcd p.1 p.2 = 1))
abbrev sIsAng : Stmt := topS 20 /- is_angle -/
abbrev nIsAng : List Str := ["thing"]
theorem scIsAng : FnScope nIsAng ["thing"] (defScope sIsAng) := ⟨rfl, rfl, rfl, by decide +kernel, rfl, by decide +kernel, by decide +kernel⟩
def spIsAng (K : PySem.W.Frag) : Sp := spF K (fun p : Nat × Nat => [td p]) (fun p => p.1 < p.2) fun p => .bool (decide (Nat.gcd p.1 p.2 = 1))
end
end Nr
namespace Nr
open PySem PySem.Spec PyProof.Rows L2 Evl
/-! stretches of light -/
abbrev Ivl := (Nat × Nat) × (Nat × Nat)
def ivD (x : Ivl) : PyData := .tuple [td x.1, td x.2]
def litStep (acc : List Ivl) (r : Row) : List Ivl :=
  match acc.getLast? with
  | some l => if l.2 = r.1 then acc.dropLast ++ [(l.1, r.2.1)] else acc ++ [(r.1, r.2.1)]
  | none => acc ++ [(r.1, r.2.1)]
def litM (L : List Row) : List Ivl := L.foldl litStep []
theorem litStep_nil (r : Row) : litStep [] r = [(r.1, r.2.1)] := rfl
theorem litStep_snoc (acc : List Ivl) (l : Ivl) (r : Row) : litStep (acc ++ [l]) r = if l.2 = r.1 then acc ++ [(l.1, r.2.1)] else (acc ++ [l]) ++ [(r.1, r.2.1)] := by
  unfold litStep
  rw [List.getLast?_concat, List.dropLast_concat]
theorem litM_snoc (L : List Row) (r : Row) : litM (L ++ [r]) = litStep (litM L) r := by
  unfold litM
  rw [List.foldl_append]
  rfl
theorem litStep_len (acc : List Ivl) (r : Row) : (litStep acc r).length ≤ acc.length + 1 := by
  rcases List.eq_nil_or_concat acc with rfl | ⟨a, l, rfl⟩
  · exact Nat.le_refl _
  · rw [List.concat_eq_append, litStep_snoc]
    split <;> simp
theorem litM_len : ∀ L : List Row, (litM L).length ≤ L.length := fun L => by
  have : ∀ (L : List Row) (acc : List Ivl), (L.foldl litStep acc).length ≤ acc.length + L.length := fun L => by
    induction L with
    | nil => intro acc; exact Nat.le_refl _
    | cons r L ih =>
      intro acc
      have h1 := ih (litStep acc r)
      have h2 := litStep_len acc r
      rw [List.foldl_cons, List.length_cons]
      omega
  have h := this L []
  rw [List.length_nil, Nat.zero_add] at h
  exact h
theorem noL_ivD (x : Ivl) : noL (ivD x) = true := by simp [ivD, noL, noLs]
theorem snoc_of {L : List Row} {i : Nat} {r : Row} (h : L[i]? = some r) : L.take (i + 1) = L.take i ++ [r] := by rw [List.take_add_one, h]; rfl
section
variable {P : Program} {w : World} {K : PySem.W.Frag} {mg : Str → Option Value} {base : Heap}
section
variable {c : Md} {D H D0 H0 Db : Hp} {σ : L2.St} {En : Ends} {p : Addr} {acc : List Ivl} {r : Row} {y0 y1 y2 y6 : Sl} {ys : List Sl} {ta : TT}
/-- the step of both loops: the list at slot 3, the stretch at 4 and 5 -/
theorem lit_turn (S : LB K c (y0 :: y1 :: y2 :: .raw (.ref p) :: .dat (td r.1) :: .dat (td r.2.1) :: ys) D H σ) (A : Acc K D H p (acc.map ivD)) (nb : c.bag ≠ some p) (hl : acc.length ≤ 100)
    (ht : ET K c ta (y0 :: y1 :: y2 :: .dat (.list (acc.map ivD)) :: .dat (td r.1) :: .dat (td r.2.1) :: ys) (!acc.isEmpty))
    (k : ∀ D2 H2, (∀ D0 H0, Fw c D0 H0 D H → Fr c H0 p → Fw c D0 H0 D2 H2) → Ex D D2 → Acc K D2 H2 p ((litStep acc r).map ivD) → LB K c (y0 :: y1 :: y2 :: .raw (.ref p) :: .dat (td r.1) :: .dat (td r.2.1) :: ys) D2 H2 σ → En.nx σ H2) :
    tIfS (tAnd ta (tTest (tOp (rEqD K) (tOp (rIxT K) (tOp (rIxL K) (tVar 3) (tUn (rU fun i => .int (-i)) (tC (.int 1)))) (tC (.int 1))) (tVar 4)))) (tAsg (tTup (tCons (tOp (rIxT K) (tOp (rIxL K) (tVar 3) (tUn (rU fun i => .int (-i)) (tC (.int 1)))) (tC (.int 0))) (tCons (tVar 5) tNil))) (gSub (tVar 3) (tUn (rU fun i => .int (-i)) (tC (.int 1))) rSetL))
      (tDrop (tBM K "list" rAppend (tVar 3) (tCons (tTup (tCons (tVar 4) (tCons (tVar 5) tNil))) tNil))) En σ H := by
  rcases List.eq_nil_or_concat acc with rfl | ⟨ac, l, rfl⟩
  · refine a_if (i := 3) (q := false) S rfl A nb ((et_andD (q := true) ht (fun h => by cases h)).is rfl) (fun h => by cases h) (fun _ D2 H2 f A2 S2 => ?_)
    refine e_app (i := 3) S2 rfl A2 nb (ed_tup (ea_consD (ed_var rfl) (ea_consD (ed_var rfl) ea_nilD))) (by decide) fun D3 H3 ch A3 S3 => k D3 H3 (fun D0 H0 f0 fr => ch.after (f0.trans f) fr) (f.dx.trans ch.dx) A3 S3
  · rw [List.concat_eq_append] at *
    rw [List.map_append] at A
    rw [List.length_append, List.length_singleton] at hl
    rw [List.map_append] at ht
    have hne : (!(ac ++ [l]).isEmpty) = true := by simp
    refine a_if (i := 3) (q := decide (l.2 = r.1)) S rfl A nb ((et_andD ht (fun _ => et_testD (ed_op (ed_op (ed_op (ed_var rfl) (ed_neg ed_int) (r_lastL (d := ivD l))) ed_int (r_ixT (i := 1) rfl)) (ed_var rfl) (r_eqD (sh_td _) (sh_td _))))).is (by rw [hne, eqv_td]; rfl)) (fun h D2 H2 f A2 S2 => ?_) (fun h D2 H2 f A2 S2 => ?_)
    · refine a_last (i := 3) (d := ivD l) (z := ivD (l.1, r.2.1)) S2 rfl A2 nb (ed_tup (ea_consD (ed_op (ed_op (ed_var rfl) (ed_neg ed_int) (r_lastL (d := ivD l))) ed_int (r_ixT (i := 0) rfl)) (ea_consD (ed_var rfl) ea_nilD))) (noL_ivD _) fun D3 H3 ch A3 S3 => k D3 H3 (fun D0 H0 f0 fr => ch.after (f0.trans f) fr) (f.dx.trans ch.dx) ?_ S3
      rw [litStep_snoc, if_pos (of_decide_eq_true h), List.map_append]
      exact A3
    · rw [← List.map_append] at A2
      refine e_app (i := 3) S2 rfl A2 nb (ed_tup (ea_consD (ed_var rfl) (ea_consD (ed_var rfl) ea_nilD))) (by rw [List.length_map, List.length_append, List.length_singleton]; omega) fun D3 H3 ch A3 S3 => k D3 H3 (fun D0 H0 f0 fr => ch.after (f0.trans f) fr) (f.dx.trans ch.dx) ?_ S3
      rw [litStep_snoc, if_neg (of_decide_eq_false h), List.map_append]
      exact A3
end
abbrev sLight : Stmt := topS 30 /- light -/
abbrev nLight : List Str := ["many", "winding", "holes", "told", "begin", "after", "cells"]
theorem scLight : FnScope nLight ["many", "winding", "holes"] (defScope sLight) := ⟨rfl, rfl, rfl, by decide +kernel, rfl, by decide +kernel, by decide +kernel⟩
def spLight (K : PySem.W.Frag) : Sp := spF K Wz.args Wz.ok fun x => .list ((litM x.harm).map ivD)
theorem ok_Light {f : Addr} {fd : FuncData} (F : Fun K "light" "light" sLight f fd)
    {f0 : Addr} {fd0 : FuncData} (C_harmless : Can P w K mg base "harmless" 4 f0 fd0 ["many", "winding", "wished"] (spHarm K)) :
    FnOk P w K mg base CX0 5 f fd ["many", "winding", "holes"] (spLight K) := by
  refine F.ok scLight (fun vs H Q E h => spF_len h fun _ => rfl) (fun cdv A outer s H vs Q E hr h => ?_)
  obtain ⟨x, D, sb, hv, ok, q⟩ := h
  have nd := scLight.nd
  refine ⟨_, (pss_cons (ps_set (i := 3) nd rfl (.inl rfl) (pe_lst pa_nil))
    (pss_cons (ps_for PassesOwn.never rfl (pi_list (pcall C_harmless hr (pa_cons (pv 0) (pa_cons (pv 1) (pa_cons (pv 2) pa_nil))))) (pg_tup rfl (pgs_cons (pg_name (i := 4) nd rfl (.inl rfl)) (pgs_cons (pg_name (i := 5) nd rfl (.inl rfl)) (pgs_cons (pg_name (i := 6) nd rfl (.inl rfl)) pgs_nil))))
    (pss_one (ps_if (PW.pt (pw_and (show PT _ _ (tTr K _) from pt_tr (pv 3) (by intro _; rfl)) (pw_and1 (pt_cmpR (op_eqD hr.units) (pe_ix ix_tup (pe_ix ix_list (pv 3) (pe_un un_neg pe_int) (fun _ _ => rfl)) pe_int (fun _ _ => rfl)) (pv 4) (nomark _))))) (pss_one (ps_asg (pe_tup (pa_cons (pe_ix ix_tup (pe_ix ix_list (pv 3) (pe_un un_neg pe_int) (fun _ _ => rfl)) pe_int (fun _ _ => rfl)) (pa_cons (pv 5) pa_nil))) (pg_sub (pv 3) (pe_un un_neg pe_int) set_list))) (pss_one (ps_expr (pe_bm PySem.F.plainAttrs_list PySem.F.slot_list_append PySem.F.type_list_append mt_append (pv 3) (pa_cons (pe_tup (pa_cons (pv 4) (pa_cons (pv 5) pa_nil))) pa_nil)))))))
    (pss_one (ps_ret (pv 3))))), ?_⟩
  have hl : x.harm.length ≤ 61 := harm_len ok.n ok.g ok.g2 ok.h
  refine l_new (LB.start sb hv rfl) fun p σ1 H1 f1 fr nb A1 S1 => ?_
  refine l_forG (ds := x.harm.map rowD) (us := [4, 5, 6]) S1 (ei_list (ed_call (ea_consD (ed_var rfl) (ea_consD (ed_var rfl) (ea_consD (ed_var rfl) ea_nilD))) (sp_of x ok)))
    (fun i δ' D' H' => δ' = [.dat (di x.n), .dat (wD x.g x.h x.e), .dat (.tuple (x.ws.map di)), .raw (.ref p), .un, .un, .un] ∧ Fw z0 D H D' H' ∧ Acc K D' H' p ((litM (x.harm.take i)).map ivD))
    (fun i δ' D' H' D2 H2 ⟨e, f, a⟩ f2 => ⟨e, f.trans f2, a.fw f2 nb⟩) ⟨rfl, f1, A1⟩ ?_ ?_
  · rintro i d δ' Db D' H' σ' hi L _ exb ⟨rfl, f, A⟩
    rw [List.getElem?_map] at hi
    obtain ⟨r, hr', rfl⟩ := Option.map_eq_some_iff.mp hi
    refine ⟨_, eg_tup (egs_cons eg_name (egs_cons eg_name (egs_cons eg_name egs_nil))) rfl, fun σ2 S2 => ?_⟩
    refine lit_turn (r := r) S2 A nb ?_ ((et_trD (d := .list ((litM (x.harm.take i)).map ivD)) (ed_var rfl) trivial).is (by rw [truD, List.isEmpty_map])) fun D2 H2 up ex A2 S3 => ⟨_, D2, ((S3.forget 4).forget 5).forget 6, exb.trans ex, rfl, up _ _ f fr, ?_⟩
    · have := litM_len (x.harm.take i)
      rw [List.length_take] at this
      omega
    · rw [snoc_of hr', litM_snoc]
      exact A2
  · rintro δ' D' H' σ' L _ ⟨rfl, f, A⟩
    rw [List.length_map, List.take_length] at A
    obtain ⟨D2, fg, dg⟩ := A.give f fr nb
    exact e_retL (i := 3) L rfl (q _ _ _ fg dg)
end
end Nr
namespace Nr
open PySem PySem.Spec PyProof.Rows L2 HotX
section
variable {prog : Program} {w : World} {A : Around} {E : Value → Shared → Prop} {s : Shared} {x1 : Addr}
/-- a walk's end while an exception is handled: what is left when StopIteration has been made and thrown -/
theorem hot_stop {α : Type} {Q : α → Shared → Prop} (hh : A.handled = some (.ref x1)) {o1 : Obj} {vs1 : Array Value} (g1 : s.heap.get? x1 = some o1) (d1 : o1.data = .fields vs1) (c1 : vs1[2]? = some .none)
    (hE : ∀ h' e, (∀ b o, s.heap.get? b = some o → h'.get? b = some o) → (∃ o, h'.get? e = some o ∧ o.cls = .type "StopIteration") → E (.ref e) { s with heap := h' }) :
    wpAny (model prog w) A (newExc (.type "StopIteration") [] >>= fun v => (raiseNew v : Sem α)) Q E s := by
  refine wpAny_bind ?_; simp only [newExc, newTuple]
  refine wpAny_bind (wpAny_newObj_type ?_ (by size_fits)); refine wpAny_bind (m := firstArgMember _ _) (wpAny_of_eq (a := Value.none) (by first | rfl | (simp only [firstArgMember]; rfl)) ?_)
  refine wpAny_newObj_type ?_ (by size_fits); refine raiseNew_hot ⟨hh, o1, vs1, Heap.get?_push_of_some _ (Heap.get?_push_of_some _ g1), d1, c1⟩ (Nat.ne_of_lt (Heap.lt_size (Heap.get?_push_of_some _ g1))) (Heap.get?_push_size _ rfl) rfl (by first | (simp; done) | (simp; omega) | (simp only [Array.size_append]; simp; omega)) ?_
  refine hE _ _ (fun b o e => ?_) ⟨_, Heap.get?_update_self _ (Heap.get?_push_size _ rfl) rfl, rfl⟩
  rw [Heap.get?_update_other _ _ (Nat.ne_of_gt (Heap.lt_size (Heap.get?_push_of_some _ e)))]; exact Heap.get?_push_of_some _ (Heap.get?_push_of_some _ e)
theorem hot_nextOf {it l : Addr} {i : Nat} {items : Array Value} {Q : Value → Shared → Prop} (hot : HotAt A x1 s.heap) (ne : x1 ≠ it) (hit : s.heap.IsListIter it l i) (hl : s.heap.IsList l items) (hx : items[i]? = none)
    (hE : ∀ h' e, Heap.ExtBut it s.heap h' → (∃ o, h'.get? e = some o ∧ o.cls = .type "StopIteration") → E (.ref e) { s with heap := h' }) : wpAny (model prog w) A (Builtin.SmallTypes.nextOf (.ref it)) Q E s := by
  obtain ⟨o, ho, hc, hd⟩ := id hit; obtain ⟨ol, hol, _, nl, hdl⟩ := hl; obtain ⟨hh, o1, vs1, g1, d1, c1⟩ := hot
  unfold Builtin.SmallTypes.nextOf; refine wpAny_bind (wpAny_callSpecial?_slot (name := Str.ofString "__next__") hit.typeIs slot_listiter_next (wpAny_call_entry slot_listiter_next hit.typeIs entry_listiter_next ?_ (args_listiter_next _)))
  show wpAny _ _ (field (.ref it) 0 >>= _) _ _ s; refine wpAny_bind (wpAny_field ho hd (x := .ref l) rfl ?_)
  show wpAny _ _ (if (Value.ref l == Value.none) = true then _ else _) _ _ s; rw [if_neg (show ¬ ((Value.ref l == Value.none) = true) from Bool.false_ne_true)]
  show wpAny _ _ (field (.ref it) 1 >>= _) _ _ s; refine wpAny_bind (wpAny_field ho hd (x := .int i 0) rfl ?_)
  show wpAny _ _ (seqItems? (.ref l) >>= _) _ _ s; refine wpAny_bind (wpAny_seqItems hol hdl ?_); simp only [Int.toNat_natCast, hx]
  refine wpAny_bind (wpAny_rule (wpAny_bind (wpAny_setField ho hd (by simp) ?_)))
  refine hot_stop (A := A.in1) hh (s := { s with heap := _ }) (show (s.heap.update it _).get? x1 = some o1 by rw [Heap.get?_update_other _ _ (Ne.symm ne)]; exact g1) d1 c1 fun h' e k he => ?_
  refine hE h' e (fun b o hb q => k b o ?_) he
  show (s.heap.update it _).get? b = some o
  rw [Heap.get?_update_other _ _ (Ne.symm hb)]
  exact q
theorem hot_zip_end {z TI TO i1 i2 l1 l2 : Addr} {k1 k2 : Nat} {xs ys : Array Value} {a b : Value} {Q : Option Value → Shared → Prop} (hot : HotAt A x1 s.heap) (nz : x1 ≠ z) (n1 : x1 ≠ i1) (D : ZipApart z TI TO i1 i2 l1 l2)
    (hz : IsZip s.heap z TI TO .none) (hTI : IsPair s.heap TI (.ref i1) (.ref i2)) (h1 : s.heap.IsListIter i1 l1 k1) (hl1 : s.heap.IsList l1 xs) (hx : xs[k1]? = none)
    (hQ : ∀ h', (∀ c o, c ≠ z → c ≠ i1 → s.heap.get? c = some o → h'.get? c = some o) → Q none { s with heap := h' }) : wpAny (model prog w) A (pyNext (.ref z)) Q E s := by
  have hT : s.TypeIs (.ref z) "zip" := ⟨_, hz, rfl⟩
  unfold pyNext; refine wpAny_bind (wpAny_attempt (wpAny_callSpecial?_slot (name := Str.ofString "__next__") hT F.slot_zip_next (wpAny_call_entry F.slot_zip_next hT F.entry_zip_next ?_ (F.args_zip_next_1 _))))
  show wpAny _ _ (field (.ref z) 2 >>= _) _ _ _; refine wpAny_bind (wpAny_field hz rfl (x := .bool false) rfl ?_)
  show wpAny _ _ (field (.ref z) 3 >>= _) _ _ _; refine wpAny_bind (wpAny_field hz rfl (x := .ref TI) rfl ?_)
  refine wpAny_bind (wpAny_seqItems hTI rfl ?_); show wpAny _ _ (Builtin.SmallTypes.ownedTupleIsFree (.ref z) >>= _) _ _ _
  refine wpAny_bind ?_; unfold Builtin.SmallTypes.ownedTupleIsFree; refine wpAny_bind (wpAny_field hz rfl (x := .none) rfl (wpAny_pure ?_)); simp only [if_true]
  refine wpAny_bind (wpAny_rule ?_); refine wpAny_bind (wpAny_field hz rfl (x := .ref TO) rfl ?_); refine wpAny_bind (wpAny_setField_rec hz (by simp) fun hA hzA sA => ?_)
  have hzA' : IsZip hA z TI TO .ellipsis := hzA
  refine wpAny_bind ?_; simp only [List.zipIdx_cons, List.zipIdx_nil, List.forIn_cons, List.forIn_nil]; refine wpAny_bind (wpAny_bind (wpAny_onRaise ?_))
  show wpAny _ _ (Builtin.SmallTypes.nextOf (.ref i1) >>= _) _ _ _
  obtain ⟨hh, o1, vs1, g1, d1, c1⟩ := hot
  refine wpAny_bind (hot_nextOf (A := A.in1) (s := { s with heap := hA }) ⟨hh, o1, vs1, sA.extBut _ _ nz g1, d1, c1⟩ n1 (h1.extBut sA.extBut D.i1z) (hl1.extBut sA.extBut D.l1z) hx fun hB e sB he => ?_)
  obtain ⟨oe, hoe, hce⟩ := he
  have hzB : IsZip hB z TI TO .ellipsis := sB _ _ D.i1z.symm hzA'
  have hez : e ≠ z := fun y => by subst y; rw [hzB] at hoe; cases hoe; simp at hce
  refine wpAny_setField_rec hzB (by simp) fun hC _ sC => ?_
  refine wpAny_bind (wpAny_isInstance (T := "StopIteration") (b := true) ⟨oe, sC.extBut _ _ hez hoe, hce⟩ isSubtype_stop ?_)
  exact wpAny_pure (hQ _ fun c o cz ci q => sC.extBut _ _ cz (sB _ _ ci (sA.extBut _ _ cz q)))
theorem hot_tup_end {it t : Addr} {i : Nat} {items : Array Value} {Q : Option Value → Shared → Prop} (hot : HotAt A x1 s.heap) (ne : x1 ≠ it) (hit : IsTupIter s.heap it t i) (ht : IsTup s.heap t items) (hx : items[i]? = none)
    (hQ : ∀ h', Heap.ExtBut it s.heap h' → Q none { s with heap := h' }) : wpAny (model prog w) A (pyNext (.ref it)) Q E s := by
  obtain ⟨o, ho, hc, hd⟩ := id hit; obtain ⟨ol, hol, _, nl, hdl⟩ := ht; obtain ⟨hh, o1, vs1, g1, d1, c1⟩ := hot
  unfold pyNext; refine wpAny_bind (wpAny_attempt (wpAny_callSpecial?_slot (name := Str.ofString "__next__") hit.typeIs slot_tupleiter_next (wpAny_call_entry slot_tupleiter_next hit.typeIs entry_tupleiter_next ?_ (args_tupleiter_next _))))
  show wpAny _ _ (field (.ref it) 0 >>= _) _ _ s; refine wpAny_bind (wpAny_field ho hd (x := .ref t) rfl ?_)
  show wpAny _ _ (if (Value.ref t == Value.none) = true then _ else _) _ _ s; rw [if_neg (show ¬ ((Value.ref t == Value.none) = true) from Bool.false_ne_true)]
  show wpAny _ _ (field (.ref it) 1 >>= _) _ _ s; refine wpAny_bind (wpAny_field ho hd (x := .int i 0) rfl ?_)
  show wpAny _ _ (seqItems? (.ref t) >>= _) _ _ s; refine wpAny_bind (wpAny_seqItems hol hdl ?_); simp only [Int.toNat_natCast, hx]
  refine wpAny_bind (wpAny_rule (wpAny_bind (wpAny_setField ho hd (by simp) ?_)))
  refine hot_stop (A := A.in1) hh (s := { s with heap := _ }) (show (s.heap.update it _).get? x1 = some o1 by rw [Heap.get?_update_other _ _ (Ne.symm ne)]; exact g1) d1 c1 fun h' e k he => ?_
  obtain ⟨oe, hoe, hce⟩ := he
  refine wpAny_bind (wpAny_isInstance (T := "StopIteration") (b := true) ⟨oe, hoe, hce⟩ isSubtype_stop ?_)
  refine wpAny_pure (hQ h' fun b o hb q => k b o ?_)
  show (s.heap.update it _).get? b = some o
  rw [Heap.get?_update_other _ _ (Ne.symm hb)]
  exact q
/-- a, b = a tuple, while an exception is handled -/
theorem hot_unpack {env : Env} {elts : List Expr} {kx : Nat} {pos : Pos} {t : Addr} {items : Array Value} {Q : Unit → Shared → Prop} (hot : HotAt A x1 s.heap) (ht : IsTup s.heap t items) (hn : (assignEach elts env).length = items.size) (hstar : (assignEach elts env).findIdx? (·.1) = none)
    (h : ∀ h', Heap.ExtBut s.heap.objs.size s.heap h' → wpAny (model prog w) A (assignInOrder ((assignEach elts env).map (·.2)) items.toList) Q E { s with heap := h' }) : wpAny (model prog w) A (assign (.Tuple elts kx pos) env (.ref t)) Q E s := by
  obtain ⟨hh, o1, vs1, g1, d1, c1⟩ := hot
  have hlt : t ≠ s.heap.objs.size := by obtain ⟨o, ho, _⟩ := ht; exact Nat.ne_of_lt (Heap.lt_size ho)
  have hx1 : x1 ≠ s.heap.objs.size := Nat.ne_of_lt (Heap.lt_size g1)
  rw [assign_Tuple]; refine wpAny_bind (wpAny_standAt ?_); unfold unpack; rw [hn, hstar]; refine wpAny_bind (wpAny_holding ?_); unfold unpackItems notIterableAtAll
  refine wpAny_bind (wpAny_bind (wpAny_specialOf ht.typeIs slot_tuple_iter.lookup (wpAny_pure ?_))); simp only [Bool.false_eq_true, if_false]
  refine wpAny_bind (wpAny_holding (iter_tuple ht ?_)); refine wpAny_bind (wpAny_holding (draw_tuple hlt items.size 0 _ _ ⟨_, Heap.get?_push_size _ rfl, rfl, rfl⟩ (ht.push _) (by omega) fun hA hitA sA => ?_))
  rw [show List.take items.size (List.drop 0 items.toList) = items.toList by rw [List.drop_zero]; exact List.take_of_length_le (by simp), if_neg (by simp)]
  have htA : IsTup hA t items := (ht.push _).extBut sA.extBut hlt
  refine wpAny_bind (wpAny_holding (hot_tup_end (s := { s with heap := hA }) ⟨hh, o1, vs1, sA.extBut _ _ hx1 (Heap.get?_push_of_some _ g1), d1, c1⟩ hx1 hitA htA (by simp) fun hB sB => ?_))
  simp only [Option.isSome_none, Bool.false_eq_true, if_false]
  exact wpAny_pure (h hB fun b o hb q => sB b o hb (sA.extBut b o hb (Heap.get?_push_of_some _ q)))
end
end Nr
namespace Nr
open PySem PySem.Spec PyProof.Rows L2 HotX
/-- the exception that is handled is pinned -/
abbrev HotB (X : Cx) : Prop := L2H.HotC X
section
variable {X : Cx} {pins : List (Addr × Obj)} {σ : L2.St} {H : Hp} {s : Shared}
theorem hotB_at (c : HotB X) (I : Inv X pins σ H s) : ∃ x1, HotAt X.A x1 s.heap ∧ ∀ b, FpOk X pins H b → x1 ≠ b := by
  obtain ⟨p, ⟨hh, vs, e1, c1⟩, hp⟩ := c
  exact ⟨p.1, ⟨hh, p.2, vs, (I.pin p (List.mem_append_left _ hp)).1, e1, c1⟩, fun b f => f.2.2.2.2.2 p (List.mem_append_left _ hp)⟩
/-- a, b = .. -/
theorem pg_tupB {es : List Expr} {kx : Nat} {pos : Pos} {t : TGs} {n : Nat} (hc : HotB X) (h : PGs X es t) (hn : (assignEach es X.env).length = n := by rfl) (hst : (assignEach es X.env).findIdx? (·.1) = none := by rfl) : PG X (.Tuple es kx pos) (gTup X.K n t) := by
  refine ⟨fun pins s σ H v u Q I r hw => ?_⟩
  obtain ⟨a, xs, ea, hq, hl, hw⟩ := hw
  subst ea; cases r
  obtain ⟨its, rv, ht, hz⟩ := I.tuple hq
  obtain ⟨x1, hot, _⟩ := hotB_at hc I
  refine hot_unpack hot ht (by simp [hn, ← hl, rv.length]) hst fun h' hx => ?_
  exact h.run pins _ σ H xs _ Q (I.kept (t' := s.toks) fun b o e => hx b o (Nat.ne_of_lt (Heap.lt_size e)) e) (by simpa using rv) hw
/-- a walk's turns, in such a context -/
structure TurnB (P : Program) (w : World) (K : PySem.W.Frag) (tg : Expr) (J : It) (fp : List Addr) (it : Addr) (tn : Nat → Heap → Prop) : Prop where
  ob : ∀ i h, tn i h → ∀ c ∈ fp, ∃ o, h.get? c = some o ∧ ∀ v, o.data ≠ .cell v
  kp : ∀ i h h', tn i h → (∀ c ∈ fp, ∀ o, h.get? c = some o → h'.get? c = some o) → tn i h'
  go : ∀ (Y : Cx), Y.prog = P → Y.w = w → Y.K = K → HotB Y → ∀ (i : Nat) (pins : List (Addr × Obj)) (s : Shared) (σ : L2.St) (H : Hp) (E : Value → Shared → Prop), Inv Y pins σ H s → (∀ c ∈ fp, FpOk Y pins H c) → tn i s.heap → J.go i H →
    wpAny (model P w) Y.A (pyNext (.ref it)) (fun r s1 => ∃ u, r = some u ∧ wpAny (model P w) Y.A (letOwnedTupleGo tg (.ref it) u) (fun _ s2 => ∃ x H', Inv Y pins σ H' s2 ∧ RelV x u ∧ J.yld i H x H' ∧ tn (i + 1) s2.heap ∧ ∀ c ∈ fp, H' c = none) E s1) E s
  no : ∀ (Y : Cx), Y.prog = P → Y.w = w → Y.K = K → HotB Y → ∀ (i : Nat) (pins : List (Addr × Obj)) (s : Shared) (σ : L2.St) (H : Hp) (E : Value → Shared → Prop), Inv Y pins σ H s → (∀ c ∈ fp, FpOk Y pins H c) → tn i s.heap → J.stop i H → wpAny (model P w) Y.A (pyNext (.ref it)) (fun r s1 => r = none ∧ Inv Y pins σ H s1) E s
  me : ∀ (A : Around) (i : Nat) (s : Shared) (Q : Value → Shared → Prop) (E : Value → Shared → Prop), tn i s.heap → Q (.ref it) s → wpAny (model P w) A (pyIter (.ref it)) Q E s
/-- zip of two lists, the first no longer than the second -/
def Itz1 (K : PySem.W.Frag) (a b : Addr) : It := { Itz K a b with stop := fun i H => ∃ xs : List V, SqL K H a xs ∧ xs.length ≤ i }
def ZipSt (a b z TI TO i1 i2 : Addr) (i : Nat) (h : Heap) : Prop := IsZip h z TI TO .none ∧ IsPair h TI (.ref i1) (.ref i2) ∧ (∃ x y, IsPair h TO x y) ∧ h.IsListIter i1 a i ∧ h.IsListIter i2 b i
theorem five_cases {c z TI TO i1 i2 : Addr} (h : c ∈ [z, TI, TO, i1, i2]) : c = z ∨ c = TI ∨ c = TO ∨ c = i1 ∨ c = i2 := by simpa using h
theorem turnB_zip {P : Program} {w : World} {K : PySem.W.Frag} {elts : List Expr} {kk : Nat} {tpos : Pos} {a b z TI TO i1 i2 : Addr} (D : ZipApart z TI TO i1 i2 a b) : TurnB P w K (.Tuple elts kk tpos) (Itz1 K a b) [z, TI, TO, i1, i2] z (ZipSt a b z TI TO i1 i2) where
  ob := fun i h st c hc => by
    obtain ⟨hz, hTI, ⟨x, y, hTO⟩, ⟨o1, e1, _, d1⟩, ⟨o2, e2, _, d2⟩⟩ := st
    rcases five_cases hc with rfl | rfl | rfl | rfl | rfl
    · exact ⟨_, hz, fun v q => nomatch q⟩
    · exact ⟨_, hTI, fun v q => nomatch q⟩
    · exact ⟨_, hTO, fun v q => nomatch q⟩
    · exact ⟨o1, e1, fun v q => by rw [d1] at q; cases q⟩
    · exact ⟨o2, e2, fun v q => by rw [d2] at q; cases q⟩
  kp := fun i h h' ⟨hz, hTI, ⟨x, y, hTO⟩, h1, h2⟩ k => ⟨k z (by simp) _ hz, k TI (by simp) _ hTI, ⟨x, y, k TO (by simp) _ hTO⟩, h1.at fun o q => k i1 (by simp) o q, h2.at fun o q => k i2 (by simp) o q⟩
  go := by
    intro Y hP hw hK _ i pins s σ H E I hf st hgo
    subst hP hw hK
    obtain ⟨hz, hTI, ⟨x0, y0, hTO⟩, h1, h2⟩ := st
    obtain ⟨xs, ys, x, y, qx, qy, hx, hy⟩ := hgo
    obtain ⟨its, rv, px, _⟩ := I.list qx
    obtain ⟨jts, rw', py, _⟩ := I.list qy
    obtain ⟨u, hu, ru⟩ := rv.get hx
    obtain ⟨v, hv, rv'⟩ := rw'.get hy
    have zl : z < s.heap.objs.size := Heap.lt_size hz
    refine wpAny_pyNext_zip_item D hz hTI hTO h1 h2 px.isList py.isList (x := u) (y := v) (by simpa using hu) (by simpa using hv) fun hA zA TOA h1A h2A hT _ hk => ?_
    refine ⟨_, rfl, wpAny_letOwnedTupleGo_zip (s := { s with heap := hA }) zA fun hB zB sb => ?_⟩
    have up : ∀ c o, c ∉ [z, TI, TO, i1, i2] → s.heap.get? c = some o → hB.get? c = some o := fun c o hb q => by
      simp only [List.mem_cons, List.not_mem_nil, or_false, not_or] at hb
      exact (sb.2 c hb.1).trans (hk c o hb.1 hb.2.2.1 hb.2.2.2.1 hb.2.2.2.2 q)
    have tT : hB.get? s.heap.objs.size = some { cls := .type "tuple", data := .seq #[u, v] } := (sb.2 _ (Nat.ne_of_gt zl)).trans hT
    have J := I.turnedNew (T := s.heap.objs.size) (ob := .tup [x, y]) (t' := s.toks) (ch := [z, TI, TO, i1, i2]) up hf (Nat.le_refl _) ⟨by show 2 ≤ sizeLine; decide, [u, v], .cons ru (.cons rv' .nil), ⟨_, tT, rfl, _, rfl⟩⟩
    refine ⟨.ref s.heap.objs.size, _, J, rfl, ⟨_, x, y, rfl, I.hok.fresh (Nat.le_refl _), rfl, fun l hl => by rw [I.list_inj hl qx]; exact hx, fun l hl => by rw [I.list_inj hl qy]; exact hy⟩, ⟨zB, (sb.2 _ D.TIz).trans (hk _ _ D.TIz D.TITO D.TIi1 D.TIi2 hTI), ⟨u, v, (sb.2 _ D.TOz).trans TOA⟩, h1A.at fun o q => (sb.2 _ D.i1z).trans q, h2A.at fun o q => (sb.2 _ D.i2z).trans q⟩, fun c hc => ?_⟩
    have lt : c < s.heap.objs.size := by
      rcases five_cases hc with rfl | rfl | rfl | rfl | rfl
      · exact zl
      · exact Heap.lt_size hTI
      · exact Heap.lt_size hTO
      · obtain ⟨_, e1, _⟩ := h1; exact Heap.lt_size e1
      · obtain ⟨_, e2, _⟩ := h2; exact Heap.lt_size e2
    rw [upd_ne (Nat.ne_of_lt lt)]
    exact (hf c hc).1
  no := by
    intro Y hP hw hK hc i pins s σ H E I hf st hst
    subst hP hw hK
    obtain ⟨hz, hTI, ⟨x0, y0, hTO⟩, h1, h2⟩ := st
    obtain ⟨xs, qx, hend⟩ := hst
    obtain ⟨its, rv, px, _⟩ := I.list qx
    have l1 := rv.length
    obtain ⟨x1, hot, ne⟩ := hotB_at hc I
    refine hot_zip_end (b := y0) (a := x0) (k2 := i) (ys := #[]) hot (ne z (hf z (by simp))) (ne i1 (hf i1 (by simp))) D hz hTI h1 px.isList (by simp; omega) fun h' hk => ⟨rfl, I.turnedL (t' := s.toks) (ch := [z, TI, TO, i1, i2]) (fun c o hb q => ?_) hf⟩
    simp only [List.mem_cons, List.not_mem_nil, or_false, not_or] at hb
    exact hk c o hb.1 hb.2.2.2.1 q
  me := fun A i s Q E st h => wpAny_pyIter_zip st.1 h
def iZip1 (K : PySem.W.Frag) (ta : TA) : TI := fun σ H R => ta σ H fun vs H1 => ∃ a b xs ys, vs = [.ref a, .ref b] ∧ SqL K H1 a xs ∧ SqL K H1 b ys ∧ R (Itz1 K a b) H1
/-- an iterator has come -/
def PIEB (X : Cx) (pins : List (Addr × Obj)) (σ : L2.St) (tg : Expr) (R : It → Hp → Prop) (itv : Value) (s2 : Shared) : Prop :=
  ∃ (it : Addr) (fp : List Addr) (tn : Nat → Heap → Prop) (J : It) (H' : Hp), itv = .ref it ∧ Inv X pins σ H' s2 ∧ TurnB X.prog X.w X.K tg J fp it tn ∧ tn 0 s2.heap ∧ (∀ c ∈ fp, FpOk X pins H' c) ∧ R J H'
def PIB (X : Cx) (tg iter : Expr) (wi : TI) : Prop := ∀ (pins : List (Addr × Obj)) (s : Shared) (σ : L2.St) (H : Hp) (R : It → Hp → Prop), Inv X pins σ H s → wi σ H R →
  wpAny (model X.prog X.w) X.A (eval iter X.env) (fun v s1 => wpAny (model X.prog X.w) X.A (pyIter v) (PIEB X pins σ tg R) X.xe s1) X.xe s
theorem piB_zip {e e2 : Expr} {ta : TA} {p pos tpos : Pos} {elts : List Expr} {kk : Nat} (hg : Gl X "zip") (hm : X.mg "zip" = none) (ha : PA X [e, e2] ta)
    (hs : starEach [e, e2] X.env = (false, eval e X.env) :: starEach [e2] X.env := by rfl) (hpl : (backTo pos (starEach [e2] X.env)).any (·.1) = false := by rfl) : PIB X (.Tuple elts kk tpos) (.Call (.Name "zip" p) [e, e2] [] pos) (iZip1 X.K ta) := by
  intro pins s σ H R I h
  refine Call_ (ld_blt I hg hm PyProof.Rows.boot_zip (PyProof.Rows.callWith_type1 (thn (ha.run pos pins s σ H _ I h) fun us s1 hh => ?_) hs hpl))
  obtain ⟨vs, H1, J, r1, a, b, xs, ys, ev, qx, qy, q⟩ := hh
  subst ev
  cases r1 with
  | cons ra rr =>
  cases rr with
  | cons rb rr =>
  cases rr; cases ra; cases rb
  obtain ⟨its, _, px, _⟩ := J.list qx
  obtain ⟨jts, _, py, _⟩ := J.list qy
  refine call_zip_2 px.isList py.isList fun h' hz hTI hTO h1 h2 hsz hk => wpAny_pyIter_zip hz ?_
  refine ⟨s1.heap.objs.size + 4, [s1.heap.objs.size + 4, s1.heap.objs.size + 2, s1.heap.objs.size + 3, s1.heap.objs.size, s1.heap.objs.size + 1], _, _, H1, rfl, J.kept (t' := s1.toks) hk, turnB_zip (PySem.W.ktu_apart s1.heap.objs.size a b px.lt py.lt), ⟨hz, hTI, ⟨_, _, hTO⟩, h1, h2⟩, fun c hc => ?_, q⟩
  have le : s1.heap.objs.size ≤ c := by rcases five_cases hc with rfl | rfl | rfl | rfl | rfl <;> omega
  exact J.fpOk le (J.hok.fresh le)
end
end Nr
namespace Nr
open PySem PySem.Spec PyProof.Rows L2 HotX
/-- a comprehension's block where pins stay -/
abbrev _root_.L2.Cx.blkP (X : Cx) (s : Shared) (H : Hp) (scope : Scope) (ce : Env) (fp : List Addr) : Cx := { X.blk s H scope ce fp with pn := X.pn }
section
variable {X : Cx}
theorem inv_blkP {pins : List (Addr × Obj)} {σ σ' : L2.St} {H : Hp} {s s' : Shared} {scope : Scope} {ce : Env} {fp : List Addr} (I : Inv X pins σ H s) (k : ∀ b o, s.heap.get? b = some o → s'.heap.get? b = some o) (hL : ce.locals = s.heap.objs.size) (J : Inv (X.blk s H scope ce fp) [] σ' H s') : Inv (X.blkP s H scope ce fp) [] σ' H s' :=
  ⟨⟨J.ok.mod, J.ok.kind, J.ok.glob, J.ok.blt, J.ok.above, J.ok.inj, J.ok.has, J.ok.cab, J.ok.hd, J.ok.frames, J.ok.stk, J.ok.exf, J.ok.bs, J.ok.bsz, J.ok.noex, J.ok.exfs, J.ok.funs, J.ok.frf⟩, J.os, J.bare, J.base, J.loc, J.cell, J.free, J.freeC, fun p hp => by
    have hp : p ∈ X.pn ++ [] := hp
    rw [List.append_nil] at hp
    have z := I.pin p (List.mem_append_left _ hp)
    exact ⟨k _ _ z.1, z.2.1, fun e => by have e : p.1 = ce.locals := e; rw [hL] at e; exact absurd (Heap.lt_size z.1) (by rw [e]; exact Nat.lt_irrefl _), fun hm => (List.mem_cons.mp (I.stkSub p.1 hm)).elim z.2.2.1 z.2.2.2.1, z.2.2.2.2⟩, J.hok, J.len⟩
/-- a list comprehension while an exception is handled -/
theorem pe_lcB {elt tg iter : Expr} {ifs : List Expr} {scope : Scope} {own : List (Str × Nat)} {pos : Pos} {wi : TI} {g : TG} {tt : TT} {te : TE} (hot : HotB X) (hN : X.N.Nodup) (hi : PIB X tg iter wi) (ok : BlkOk X.N X.env.scope scope own)
    (hg : ∀ (s : Shared) (H : Hp) (L : Addr) (cl : List (Str × Addr)) (fp : List Addr), PG (X.blkP s H scope (compEnvC scope cl L X.env) fp) tg g)
    (ht : ∀ (s : Shared) (H : Hp) (L : Addr) (cl : List (Str × Addr)) (fp : List Addr), PTs (X.blkP s H scope (compEnvC scope cl L X.env) fp) ifs tt)
    (he : ∀ (s : Shared) (H : Hp) (L : Addr) (cl : List (Str × Addr)) (fp : List Addr), PE (X.blkP s H scope (compEnvC scope cl L X.env) fp) elt te) (hs : ∀ x, foldedSetIterable iter X.env x = pure x := by intro _; rfl) :
    PE X (.ListComp elt [⟨tg, iter, ifs, 0⟩] scope pos) (tLc wi g tt te (own.map (·.2))) := by
  refine ⟨fun pins s σ H Q I h => ?_⟩
  rw [eval_ListComp]
  have fr : ∀ y ∈ scope.names, y.2 = .free → ∃ c, X.env.cells.lookup y.1 = some c := fun y hy e => (ok.free y hy e).elim (fun k => I.ok.has _ (.inl k)) fun k => I.ok.has _ (.inr k)
  refine wpAny_comprehension_free (use := none) rfl hs (closure_ok fr) ok.kind (fun y hy e => by rw [ok.uniq y hy, e]) (thn (hi pins s σ H _ I h) fun xv s1 hx => thn hx fun itv s2 h2 => ?_)
  obtain ⟨it, fp, tn, J, H2, ei, I2, T, st2, f2, q⟩ := h2
  subst ei
  refine wpAny_newObj_type (newEnv_comp ?_) (by show 0 ≤ sizeLine; decide)
  obtain ⟨L, hL⟩ : ∃ L, s2.heap.objs.size = L := ⟨_, rfl⟩
  rw [hL]
  have hLn : H2 L = none := I2.hok.fresh (Nat.le_of_eq hL)
  obtain ⟨W, ⟨m0, w0⟩, turn⟩ := q L hLn
  obtain ⟨s3, hs3⟩ : ∃ s3 : Shared, ({ s2 with heap := s2.heap.push { cls := .type "list", data := .seq ([] : List Value).toArray } } : Shared) = s3 := ⟨_, rfl⟩
  have h3 : s3.heap = s2.heap.push { cls := .type "list", data := .seq ([] : List Value).toArray } := by rw [← hs3]
  obtain ⟨H3, hH3⟩ : ∃ H3, upd H2 L (.lst []) = H3 := ⟨_, rfl⟩
  have I3 : Inv X pins σ H3 s3 := by
    rw [← hs3, ← hH3]
    refine I2.laid (t' := s2.toks) (fun c o e => Heap.get?_push_of_some _ e) (Nat.le_of_eq hL) ⟨Nat.zero_le _, [], 0, .nil, ?_⟩
    rw [← hL]
    exact Heap.get?_push_size _ rfl
  have f3 : ∀ c ∈ fp, FpOk X pins H3 c ∧ c < s3.heap.objs.size := fun c hc => by
    obtain ⟨o, e, _⟩ := T.ob _ _ st2 c hc
    have lt := Heap.lt_size e
    refine ⟨⟨?_, (f2 c hc).2⟩, by rw [h3, Heap.size_push]; exact Nat.lt_succ_of_lt lt⟩
    rw [← hH3, upd_ne (by rw [← hL]; exact Nat.ne_of_lt lt)]
    exact (f2 c hc).1
  have st3 : tn 0 s3.heap := T.kp _ _ _ st2 fun c _ o e => by rw [h3]; exact Heap.get?_push_of_some _ e
  have I4 := block_start I3 ok hN f3
  have w0 : W 0 m0 H3 := by rw [← hH3]; exact w0
  rw [hs3]
  obtain ⟨cl, hcl⟩ : ∃ cl, cellsFrom (s3.heap.objs.size + 1) scope.names (cloFrom X.env.cells scope.names []) = cl := ⟨_, rfl⟩
  rw [hcl] at I4
  have pg := hg s3 H3 s3.heap.objs.size cl fp
  have pt := ht s3 H3 s3.heap.objs.size cl fp
  have pe := he s3 H3 s3.heap.objs.size cl fp
  obtain ⟨ce, hce⟩ : ∃ ce, compEnvC scope cl s3.heap.objs.size X.env = ce := ⟨_, rfl⟩
  rw [hce] at I4 pg pt pe
  have cL : ce.locals = s3.heap.objs.size := by rw [← hce]; rfl
  obtain ⟨s4, hs4⟩ : ∃ s4 : Shared, ({ s3 with heap := pushCells (s3.heap.push { cls := .type "dict", data := .dict #[] }) scope.names } : Shared) = s4 := ⟨_, rfl⟩
  rw [hs4] at I4
  have I4 := inv_blkP I3 (fun c o e => by rw [← hs4]; exact pushCells_keeps _ _ _ _ (Heap.get?_push_of_some _ e)) cL I4
  show codeAny _ _ (.compStart (.ListComp elt [⟨tg, iter, ifs, 0⟩] scope pos) 0 (.ref it) (.ref L) (compEnvC scope (cellsFrom (s3.heap.objs.size + 1) scope.names (cloFrom X.env.cells scope.names [])) s3.heap.objs.size X.env)) (compPost (model X.prog X.w) X.A X.xe none (EP X pins σ Q) (.ref L) s3.heap.objs.size) { s3 with heap := pushCells (s3.heap.push { cls := .type "dict", data := .dict #[] }) scope.names }
  rw [hcl, hce, hs4]
  have st4 : tn 0 s4.heap := T.kp _ _ _ st3 fun c _ o e => by rw [← hs4]; exact pushCells_keeps _ _ _ _ (Heap.get?_push_of_some _ e)
  have stat : ∀ {σ' : L2.St} {H' : Hp} {s' : Shared}, Inv (X.blkP s3 H3 scope ce fp) [] σ' H' s' → (∀ c ∈ fp, H' c = none) → ∀ c ∈ fp, FpOk (X.blkP s3 H3 scope ce fp) [] H' c := fun {σ' H' s'} I' hn c hc =>
    ⟨hn c hc, (I'.ok.exf c hc).1, I'.ok.exfs c hc, .inl hc, fun x d e => (I'.ok.exf c hc).2 x d e, fun p hp => (f3 c hc).1.2.2.2.2.2 p (List.mem_append_left _ (by have hp : p ∈ X.pn ++ [] := hp; rwa [List.append_nil] at hp))⟩
  have loop : codeAny (model X.prog X.w) X.A (.compLoop (.ListComp elt [⟨tg, iter, ifs, 0⟩] scope pos) 0 (.ref it) (.ref L) ce) (compPost (model X.prog X.w) X.A X.xe none (EP X pins σ Q) (.ref L) s3.heap.objs.size) s4 := by
    refine compLoop_any (fun n s' => ∃ i H', Inv (X.blkP s3 H3 scope ce fp) [] (wipe σ (own.map (·.2))) H' s' ∧ tn i s'.heap ∧ (∀ c ∈ fp, H' c = none) ∧ W i n H') ?_ m0 ⟨0, H3, I4, st4, fun c hc => (f3 c hc).1.1, w0⟩
    rintro n s5 ⟨i, H5, I5, st5, n5, w5⟩
    have hot5 : HotB (X.blkP s3 H3 scope ce fp) := hot
    rcases turn i n H5 w5 with ⟨stop, qq⟩ | ⟨go, Nx, hNx, step⟩
    · refine thnF (T.no (X.blkP s3 H3 scope ce fp) rfl rfl rfl hot5 i [] s5 _ H5 (fun _ _ => False) I5 (stat I5 n5) st5 stop) fun r s6 ⟨hr, I6⟩ => ?_
      subst hr
      have I7 : Inv X pins σ H5 s6 := I3.call' (ch := fp) I6.os I6.base I6.hok I6.bare fun c hc => ⟨(f3 c hc).1.2.2.2.1, (f3 c hc).1.2.1, (f3 c hc).1.2.2.2.2.1, (f3 c hc).1.2.2.2.2.2⟩
      have nC : H5 s3.heap.objs.size = none := by have z : H5 ce.locals = none := I6.free; rwa [cL] at z
      obtain ⟨m, hn, _⟩ := I6.loc
      have hn : s6.heap.Ns ce.locals m := hn
      rw [cL] at hn
      obtain ⟨g0, g1, g2, g3, g4, g5⟩ := I3.fpOk (H' := H5) (Nat.le_refl _) nC
      exact ⟨m, hn, fun h'' sb => ⟨.ref L, H5, I7.turned (t' := s6.toks) (fun c o hc e => (sb.2 c hc).trans e) g0 g1 g3 g4 g5, rfl, qq⟩⟩
    · refine thnF (T.go (X.blkP s3 H3 scope ce fp) rfl rfl rfl hot5 i [] s5 _ H5 (fun _ _ => False) I5 (stat I5 n5) st5 go) fun r s6 ⟨u, hr, h6⟩ => ?_
      subst hr
      refine thnF h6 fun _ s7 ⟨x, H7, I7, r7, y7, st7, n7⟩ => ?_
      refine thnF (pg.run _ s7 _ H7 x u _ (I7.pinned (stat I7 n7) (T.ob _ _ st7)) r7 (step x H7 y7)) fun _ s8 ⟨σ8, H8, I8, hw8, q8⟩ => ?_
      refine thnF (pt.run _ s8 σ8 H8 _ I8 q8) fun b s9 ⟨H9, I9, q9⟩ => ?_
      have fin : ∀ {s' : Shared} {H' : Hp}, Inv (X.blkP s3 H3 scope ce fp) ([] ++ pinsAt fp s7.heap) σ8 H' s' → Nx H' → ∃ m, m < n ∧ ∃ i H', Inv (X.blkP s3 H3 scope ce fp) [] (wipe σ (own.map (·.2))) H' s' ∧ tn i s'.heap ∧ (∀ c ∈ fp, H' c = none) ∧ W i m H' := fun {s' H'} I' nx => by
        obtain ⟨m', hm, w'⟩ := hNx H' nx
        have pin' : ∀ c ∈ fp, ∀ o, s7.heap.get? c = some o → s'.heap.get? c = some o ∧ H' c = none := fun c hc o e => have z := I'.pin (c, o) (List.mem_append_right _ (List.mem_append_right _ (mem_pinsAt hc e))); ⟨z.1, z.2.1⟩
        have hl : (wipe σ (own.map (·.2))).length = σ8.length := by rw [← hw8, wipe_length]
        refine ⟨m', hm, i + 1, H', (I'.unpinned (pins := [])).weak hl (fun j v e => by rw [← hw8] at e; exact (wipe_some e).1), T.kp _ _ _ st7 fun c hc o e => (pin' c hc o e).1, fun c hc => ?_, w'⟩
        obtain ⟨o, e, _⟩ := T.ob _ _ st7 c hc
        exact (pin' c hc o e).2
      cases b with
      | false => simp only [Bool.false_eq_true, if_false] at q9 ⊢; exact fin I9 q9
      | true =>
        simp only [if_true] at q9 ⊢
        exact thnF (pe.run _ s9 σ8 H9 _ I9 q9) fun z s10 ⟨yv, H10, I10, r10, acc, hD10, hz10, nx⟩ => app_ok (X := X.blkP s3 H3 scope ce fp) I10 hD10 hz10 r10 fun s11 I11 => fin I11 nx
  exact codeAny_compStart_list loop (T.me X.A 0 _ _ _ st4 loop)
end
end Nr
namespace Nr
open PySem PySem.Spec PyProof.Rows L2 Evl
/-- isinstance(e, c), e an exception that stands in the ground -/
def rIsB (K : PySem.W.Frag) (base : Heap) : List V → Hp → VK → Prop := fun xs H Q => ∃ (a : Addr) (oe : Obj) (D : Addr) (c : V) (cv : Value) (b : Bool), xs = [.ref a, c] ∧ base.get? a = some oe ∧ Zc (.ref D) none oe ∧ (∃ vs, oe.data = .fields vs) ∧ ExcC K D ∧ ClsV c cv ∧ PySem.W.kitOne K (.ref D) cv = some b ∧ Q (.bl b) H
theorem call_isB {X : Cx} : CallR X (.builtin "isinstance") (rIsB X.K X.base) := by
  intro pins s σ H xs us Q I r h
  obtain ⟨a, oe, D, c, cv, b, rfl, hb, hz, ⟨fs, hf⟩, C, k, e, q⟩ := h
  cases r with
  | cons rx rr =>
  cases rr with
  | cons rt rr =>
  cases rr; cases rx
  have ec := k.eq rt
  subst ec
  have J : PySem.W.InstAt s.heap a oe D none := by
    have hget := I.bk _ _ hb
    obtain ⟨oc, od, oda, osl⟩ := oe
    obtain ⟨g1, g2⟩ := hz
    dsimp only at g1 g2 hf
    subst g1 g2 hf
    exact ⟨hget, rfl, rfl, trivial⟩
  exact PySem.W.kia_one (PySem.W.handS_kitx_exc C.hg C.hk C.hs C.hd C.ha C.hn C.ht C.hm) I.kIn J e (fun z => nomatch z) fun tk => ⟨.bl b, H, I.kept (t' := tk) fun _ _ z => z, rfl, q⟩
/-- the five kinds of refusal -/
structure Kinds (K : PySem.W.Frag) (mg : Str → Option Value) (RE : Addr) (D : Nat → Addr) (W : Nat → Str) : Prop where
  g : ∀ i, i < 5 → mg (W i) = some (.ref (D i))
  x : ∀ i, i < 5 → PySem.W.excIn K (D i) [.type "ValueError", .type "Exception", .type "BaseException", .type "object"] "ValueError.__new__" = true
  k : ∀ i, i < 5 → PySem.W.keepIn K (.ref (D i)) = true
  t : ∀ i, i < 5 → PySem.W.typeIn K (.ref (D i)) = some (.type "type")
  e : ∀ i, i < 5 → ExcC K (D i)
  m : ∀ i, i < 5 → PySem.W.exmOne K (.ref (D i)) (.ref RE) = some true
  o : ∀ i j, i < 5 → j < 5 → PySem.W.kitOne K (.ref (D i)) (.ref (D j)) = some (decide (i = j))
def kindW (i : Nat) : Str := (["NoAngle", "NoStrip", "NoWinding", "NotWound", "NothingLeft"] : List Str).getD i ""
section
variable {K : PySem.W.Frag} {c : Md} {δ : List Sl} {tr : TA} {ds es : List PyData}
theorem ei_zip1 (h : EA K c tr δ [.list ds, .list es]) (le : ds.length ≤ es.length) : EI K c (iZip1 K tr) δ ((ds.zip es).map fun p => .tuple [p.1, p.2]) := fun σ D H s e R k =>
  h σ D H s e _ fun vs D1 H1 f1 d1 => by
    cases d1 with
    | cons h1 h2 =>
    cases h2 with
    | cons h2 h3 =>
    cases h3
    obtain ⟨p, xs, rfl, hp, ha⟩ := dq_lst h1
    obtain ⟨p2, ys, rfl, hp2, hb⟩ := dq_lst h2
    refine ⟨p, p2, xs, ys, rfl, sq_of (f1.sb.ex _ _ hp), sq_of (f1.sb.ex _ _ hp2), k _ D1 H1 f1 ⟨fun H' e' => ⟨xs, sq_of (e' _ _ hp), ?_⟩, fun i H' lt e' => ?_, fun i d D' H' x H2 hi e' s' y => ?_⟩⟩
    · rw [dqa_len ha, List.length_map, List.length_zip]; omega
    · rw [List.length_map, List.length_zip] at lt
      have l1 : i < xs.length := by rw [dqa_len ha]; omega
      have l2 : i < ys.length := by rw [dqa_len hb]; omega
      exact ⟨xs, ys, xs[i], ys[i], sq_of (e' _ _ hp), sq_of (e' _ _ hp2), List.getElem?_eq_getElem l1, List.getElem?_eq_getElem l2⟩
    · obtain ⟨t, u, u2, rfl, ht, rfl, y, y2⟩ := y
      rw [List.getElem?_map] at hi
      obtain ⟨j, hj, rfl⟩ := Option.map_eq_some_iff.mp hi
      obtain ⟨j1, j2⟩ := List.getElem?_zip_eq_some.mp hj
      obtain ⟨v, h1, h2⟩ := dqa_get ha j1
      obtain ⟨v2, h1', h2'⟩ := dqa_get hb j2
      have e1 := y xs (sq_of (s'.ex _ _ (e' _ _ hp)))
      rw [h1] at e1
      have e1 := Option.some.inj e1
      subst e1
      have e2 := y2 ys (sq_of (s'.ex _ _ (e' _ _ hp2)))
      rw [h1'] at e2
      have e2 := Option.some.inj e2
      subst e2
      have f := Fw.alloc (o := .tup [v, v2]) s' ht trivial
      exact ⟨_, f, .tup (st_of upd_same) (.cons (dq_ex (e'.trans f.dx) _ _ h2) (.cons (dq_ex (e'.trans f.dx) _ _ h2') .nil))⟩
theorem sb_none {H : Hp} : Sb z0 (fun _ => none) H := ⟨fun _ _ h => (by cases h), fun _ _ h => (by cases h), fun _ z => (by cases z), fun _ z => (by cases z)⟩
end
section
variable {P : Program} {w : World} {K : PySem.W.Frag} {mg : Str → Option Value} {base : Heap}
abbrev sKind : Stmt := topS 44 /- _law_kind -/
abbrev nKind : List Str := ["e", "some", "words", "word", "is_it"]
theorem scKind : FnScope nKind ["e"] (defScope sKind) := ⟨rfl, rfl, rfl, by decide +kernel, rfl, by decide +kernel, by decide +kernel⟩
def spKind (K : PySem.W.Frag) (base : Heap) (D : Nat → Addr) : Sp := fun vs H Q _ => ∃ (a : Addr) (oe : Obj) (i : Nat), vs = [.ref a] ∧ i < 5 ∧ base.get? a = some oe ∧ Zc (.ref (D i)) none oe ∧ (∃ fs, oe.data = .fields fs) ∧ ∀ H2, Ex H H2 → Q (.str (kindW i)) H2
theorem ok_Kind {f RE : Addr} {fd : FuncData} {D : Nat → Addr} (F : Fun K "_law_kind" "_law_kind" sKind f fd) (KD : Kinds K mg RE D kindW) (m_isinstance : mg "isinstance" = none) (m_zip : mg "zip" = none) : L2H.FnH P w K mg base CX0 1 f fd ["e"] (spKind K base D) := by
  obtain ⟨oc, od, kV, doc, pm, an, cdv, ct, osl, rfl, lk, hcd⟩ := F.ex
  refine L2H.fn_ofH (k := 0) lk hcd scKind (fun vs H Q E h => ?_) (fun A outer s H vs Q E p hot hr h => ?_)
  · obtain ⟨_, _, _, rfl, _⟩ := h
    rfl
  obtain ⟨a, oe, n, rfl, hn, hb, hz, hf, q⟩ := h
  have nd := scKind.nd
  have hotX : HotB (L2H.cxH CX0 P w K mg base nKind "_law_kind" (defScope sKind) f cdv A outer s H E p) := ⟨p, hot, List.mem_singleton.mpr rfl⟩
  have g0 := KD.g 0 (by decide)
  have g1 := KD.g 1 (by decide)
  have g2 := KD.g 2 (by decide)
  have g3 := KD.g 3 (by decide)
  have g4 := KD.g 4 (by decide)
  refine ⟨_, pss_cons (ps_set (i := 1) nd rfl (.inl rfl) (pe_lst (pa_cons (pe_callB call_isB (by rfl) m_isinstance boot_isinstance (pa_cons (pv 0) (pa_cons (pe_glob (v := .ref (D 0)) (by rfl) g0 rfl) pa_nil))) (pa_cons (pe_callB call_isB (by rfl) m_isinstance boot_isinstance (pa_cons (pv 0) (pa_cons (pe_glob (v := .ref (D 1)) (by rfl) g1 rfl) pa_nil))) (pa_cons (pe_callB call_isB (by rfl) m_isinstance boot_isinstance (pa_cons (pv 0) (pa_cons (pe_glob (v := .ref (D 2)) (by rfl) g2 rfl) pa_nil))) (pa_cons (pe_callB call_isB (by rfl) m_isinstance boot_isinstance (pa_cons (pv 0) (pa_cons (pe_glob (v := .ref (D 3)) (by rfl) g3 rfl) pa_nil))) pa_nil))))))
    (pss_cons (ps_set (i := 2) nd rfl (.inl rfl) (pe_lst (pa_cons pe_str (pa_cons pe_str (pa_cons pe_str (pa_cons pe_str (pa_cons pe_str pa_nil)))))))
    (pss_one (ps_ret (pe_join pe_str (pe_lcB (own := [("word", 3), ("is_it", 4)]) (g := gTup K 2 (gCons (gName 3) (gCons (gName 4) gNil))) hotX nd (piB_zip (by rfl) m_zip (pa_cons (pv 2) (pa_cons (pe_op op_cat (pv 1) (pe_lst (pa_cons (pe_callB call_isB (by rfl) m_isinstance boot_isinstance (pa_cons (pv 0) (pa_cons (pe_glob (v := .ref (D 4)) (by rfl) g4 rfl) pa_nil))) pa_nil))) pa_nil)))
      (blkOk_by (N := nKind) (sc := defScope sKind) (by decide +kernel)) (fun _ _ _ _ _ => pg_tupB hotX (pgs_cons (pg_name (i := 3) nd rfl (.inl rfl)) (pgs_cons (pg_name (i := 4) nd rfl (.inl rfl)) pgs_nil))) (fun _ _ _ _ _ => pts_one (pt_val (pv 4))) (fun _ _ _ _ _ => pv 3)))))), ?_⟩
  have S : LB K z0 [.raw (.ref a), .un, .un, .un, .un] (fun _ => none) H (L2.start nKind [.ref a]) := LB.startB (N := nKind) (ss := [.raw (.ref a)]) sb_none (.cons rfl .nil) rfl
  have isd : ∀ (i : Nat) (hi : i < 5) (δ : List Sl), δ[0]? = some (.raw (.ref a)) → ED K z0 (tCB (rIsB K base) (tCons (tVar 0) (tCons (tC (.ref (D i))) tNil))) δ (.bool (decide (n = i))) := fun i hi δ h0 σ D' H s e Q q =>
    ⟨.ref a, e.raw h0, a, oe, D n, .ref (D i), .ref (D i), _, rfl, hb, hz, hf, KD.e n hn, .own _, KD.o n i hn hi, q _ D' H (Fw.refl s) (.bl _)⟩
  refine l_asg S (ed_lst (ea_consD (isd 0 (by decide) _ rfl) (ea_consD (isd 1 (by decide) _ rfl) (ea_consD (isd 2 (by decide) _ rfl) (ea_consD (isd 3 (by decide) _ rfl) ea_nilD))))) fun σ1 D1 H1 f1 S1 => ?_
  refine l_asg S1 (ed_lst (ea_consD ed_str (ea_consD ed_str (ea_consD ed_str (ea_consD ed_str (ea_consD ed_str ea_nilD)))))) fun σ2 D2 H2 f2 S2 => ?_
  have lc : ED K z0 (tLc (iZip1 K (tCons (tVar 2) (tCons (tOp rCat (tVar 1) (tLst (tCons (tCB (rIsB K base) (tCons (tVar 0) (tCons (tC (.ref (D 4))) tNil))) tNil))) tNil))) (gTup K 2 (gCons (gName 3) (gCons (gName 4) gNil))) (tB (tVar 4)) (tVar 3) [3, 4])
      [.raw (.ref a), .dat (.list [.bool (decide (n = 0)), .bool (decide (n = 1)), .bool (decide (n = 2)), .bool (decide (n = 3))]), .dat (.list [.str "NoAngle", .str "NoStrip", .str "NoWinding", .str "NotWound", .str "NothingLeft"]), .un, .un]
      (.list (((List.range 5).filter fun i => decide (n = i)).map fun i => .str (kindW i))) :=
    ed_lc (L := List.range 5) (enc := fun i => .tuple [.str (kindW i), .bool (decide (n = i))]) (fun i => decide (n = i)) (fun i => .str (kindW i)) ((ei_zip1 (ea_consD (ed_var rfl) (ea_consD (ed_op (ed_var rfl) (ed_lst (ea_consD (isd 4 (by decide) _ rfl) ea_nilD)) (r_catL (by show 5 ≤ 100000; decide))) ea_nilD)) (by show 5 ≤ 5; decide)).is rfl)
      (fun i hi => eg_tup (egs_cons eg_name (egs_cons eg_name egs_nil)) rfl) (fun i hi => et_BD (ed_var rfl)) (fun i hi _ => ed_var rfl) (by decide) (by decide)
  have hl : ((List.range 5).filter fun i => decide (n = i)) = [n] := by
    rcases (show n = 0 ∨ n = 1 ∨ n = 2 ∨ n = 3 ∨ n = 4 by omega) with rfl | rfl | rfl | rfl | rfl <;> rfl
  refine ⟨⟨_, rfl⟩, ?_⟩
  refine (lc.is (z := .list [.str (kindW n)]) (by rw [hl]; rfl)) σ2 D2 H2 S2.sb S2.se _ fun v D3 H3 f3 dv => ?_
  obtain ⟨pl, xs, rfl, hp, hx⟩ := dq_lst dv
  cases hx with
  | cons hx0 hx =>
  cases hx
  cases hx0
  refine ⟨" ", pl, [kindW n], rfl, rfl, .inl (sq_of (f3.sb.ex _ _ hp)), ?_, ?_⟩
  · rcases (show n = 0 ∨ n = 1 ∨ n = 2 ∨ n = 3 ∨ n = 4 by omega) with rfl | rfl | rfl | rfl | rfl <;> decide +kernel
  · have e : Txt.join " " [kindW n] = kindW n := by
      rcases (show n = 0 ∨ n = 1 ∨ n = 2 ∨ n = 3 ∨ n = 4 by omega) with rfl | rfl | rfl | rfl | rfl <;> decide +kernel
    rw [e]
    exact q H3 ((f1.trans (f2.trans f3)).hx.ex)
end
end Nr
namespace Nr
open PySem PySem.Spec PyProof.Rows L2 Evl
/-- a heap of some of the places -/
theorem some_of (h : Heap) (p : Addr → Bool) : ∃ G : Heap, G.objs.size = h.objs.size ∧ (∀ b o, p b = true → h.get? b = some o → G.get? b = some o) ∧ ∀ b o, G.get? b = some o → p b = true ∧ h.get? b = some o := by
  obtain ⟨l, hl⟩ : ∃ l : List Addr, l = (List.range h.objs.size).filter fun b => !p b := ⟨_, rfl⟩
  refine ⟨PySem.W.hideAll h l, PySem.W.hideAll_size _ _, fun b o hb e => PySem.W.hideAll_get l e fun hm => ?_, fun b o e => ?_⟩
  · rw [hl, List.mem_filter] at hm
    rw [hb] at hm
    cases hm.2
  · have z := PySem.W.of_hideAll l e
    refine ⟨?_, z⟩
    cases hp : p b with
    | true => rfl
    | false =>
      have : b ∈ l := by rw [hl, List.mem_filter]; exact ⟨List.mem_range.mpr (Heap.lt_size z), by rw [hp]; rfl⟩
      rw [PySem.W.hideAll_none l this] at e
      cases e
section
variable {X : Cx} {f a : Addr} {fd : FuncData} {D : Nat → Addr} {oe : Obj} {cls : Value} {d : Option Addr} {pn : List (Addr × Obj)} {e : Expr} {t : TA} {p pos : Pos} {x : Str}
def tKind (D : Nat → Addr) (a : Addr) (cls : Value) (d : Option Addr) (t : TA) : TE := fun σ H Q => t σ H fun vs H1 => vs = [.ref a] ∧ ∃ i, i < 5 ∧ cls = .ref (D i) ∧ d = none ∧ ∀ H2, Ex H1 H2 → Q (.str (kindW i)) H2
/-- _law_kind(e) in the suite that holds e -/
theorem pe_kind (F : ∀ B : Heap, L2H.FnH X.prog X.w X.K X.mg B CX0 1 f fd ["e"] (spKind X.K B D)) (hr : Room 1 X.A) (hz : L2N.Zn cls d oe) (hf : ∃ vs, oe.data = .fields vs) (hm : X.mg x = some (.ref f)) (hk : PySem.W.keepIn X.K (.ref f) = true) (hb : Binds X.K fd ["e"] [])
    (ha : PA (X.suite a ((a, oe) :: pn)) [e] t) (hg : Gl (X.suite a ((a, oe) :: pn)) x := by rfl) (hdb : (x == ("__debug__" : Str)) = false := by decide)
    (he : starEach (e :: []) X.env = (false, eval e X.env) :: starEach [] X.env := by rfl) (hpl : (backTo pos (starEach [] X.env)).any (·.1) = false := by rfl) :
    PE (X.suite a ((a, oe) :: pn)) (.Call (.Name x p) [e] [] pos) (tKind D a cls d t) := by
  refine ⟨fun pins s σ H Q I h => ?_⟩
  refine wpAny_Call_Name_kw (ld_glob I hg hm ?_ hdb)
  refine PySem.W.callWith_K (h₀ := X.base) I.ok.mod.kin hk (thn (ha.run pos pins s σ H _ I h) fun us s1 hh => ?_) he hpl
  obtain ⟨vs, H1, I1, r, ev, i, hi, ec, ed, q⟩ := hh
  subst ev ec ed
  refine ⟨I1.kIn, ?_⟩
  have pin := I1.pin (a, oe) (List.mem_append_left _ List.mem_cons_self)
  obtain ⟨B, hB, b1, b2⟩ := some_of s1.heap fun b => (X.base.get? b).isSome || b == a
  have up : ∀ b o, X.base.get? b = some o → B.get? b = some o := fun b o e => b1 b o (by rw [e]; rfl) (I1.bk b o e)
  have e0 := I1.env0
  have nst : a ∉ frs (X.suite a ((a, oe) :: pn)).stack := fun hm => (List.mem_cons.mp (I1.stkSub a hm)).elim pin.2.2.1 pin.2.2.2.1
  have e1 : Env0 X.prog X.w X.K X.mg B (X.suite a ((a, oe) :: pn)).A (X.suite a ((a, oe) :: pn)).stack s1 H1 := by
    refine ⟨e0.frames, ⟨e0.mod.kin.keeps up, e0.mod.glob.keeps up, ?_, e0.mod.nolimit.keeps up⟩, fun b o e => ?_, by rw [hB]; exact Nat.le_refl _, funFrames_none e0.funs fun L hL => ?_, e0.frf, e0.hok, e0.bare⟩
    · obtain ⟨mb, hn, hx⟩ := e0.mod.blt
      exact ⟨mb, hn.keeps up, hx⟩
    · obtain ⟨z1, z2⟩ := b2 b o e
      refine ⟨z2, ?_⟩
      rw [Bool.or_eq_true] at z1
      rcases z1 with z1 | z1
      · obtain ⟨o', z⟩ := Option.isSome_iff_exists.mp z1
        exact (I1.bs b o' z).2
      · rw [beq_iff_eq.mp z1]
        exact pin.2.1
    · cases e : B.get? L with
      | none => rfl
      | some o =>
        exfalso
        obtain ⟨z1, z2⟩ := b2 L o e
        rw [Bool.or_eq_true] at z1
        rcases z1 with z1 | z1
        · obtain ⟨o', z⟩ := Option.isSome_iff_exists.mp z1
          have := (e0.funs.mem hL).1
          rw [z] at this
          cases this
        · rw [beq_iff_eq.mp z1] at hL
          exact nst hL
  have ba : B.get? a = some oe := b1 a oe (by simp) pin.1
  obtain ⟨fs, hfs⟩ := hf
  have hot : L2H.Hot1 (X.suite a ((a, oe) :: pn)).A (a, oe) := ⟨rfl, fs, hfs, hz.2.2 fs hfs⟩
  have hpin : L2H.PinOk (X.suite a ((a, oe) :: pn)).stack H1 s1 (a, oe) := ⟨pin.1, pin.2.1, nst, pin.2.2.2.2⟩
  have hl : us.length = (["e"] : List Str).length := by rw [← r.length]; rfl
  have bb := hb s1 us I1.kIn (by rw [List.append_nil]; exact hl)
  rw [List.append_nil] at bb
  refine wpAny_call (codeAny_mono ((F B).run (X.suite a ((a, oe) :: pn)).A (X.suite a ((a, oe) :: pn)).stack s1 H1 ⟨us, []⟩ us [.ref a] Q (fun _ _ _ => False) (a, oe) ⟨hr.dp, hr.un⟩ hot hpin e1 bb r ⟨a, oe, i, rfl, hi, ba, hz.zc, ⟨fs, hfs⟩, q⟩) fun r s' hq => ?_)
  cases r with
  | error e => exact (show False from hq).elim
  | ok fl =>
    cases fl with
    | ret u => exact I1.after hq
    | next => exact False.elim hq
    | brk => exact False.elim hq
    | cont => exact False.elim hq
end
/-- a def that may raise -/
theorem Fun.okN {P : Program} {w : World} {K : PySem.W.Frag} {mg : Str → Option Value} {base : Heap} {x qual : Str} {st : Stmt} {f : Addr} {fd : FuncData} {N ps : List Str} {k : Nat} {sp : Sp} (F : Fun K x qual st f fd) (S : FnScope N ps (defScope st)) (len : ∀ vs H Q E, sp vs H Q E → vs.length = ps.length)
    (hbody : ∀ (cdv : Value) (A : Around) (outer : List Env) (s : Shared) (H : Hp) (vs : List V) (Q : VK) (E : XK), Room k (A.deeper (envOfC qual (defScope st) s.heap.objs.size f cdv)) → sp vs H Q E →
      ∃ t, PSs (cxOf (L2N.CX P w) P w K mg base N qual (defScope st) f cdv A outer s H E) (defBody st) t ∧ t { nx := fun _ H' => Q .non H', rt := Q } (L2.start N vs) H) : FnOk P w K mg base (L2N.CX P w) (k + 1) f fd ps sp := by
  obtain ⟨oc, od, kV, doc, pm, an, cdv, ct, osl, rfl, lk, hcd⟩ := F.ex
  exact fn_of lk hcd S len fun A outer s H vs Q E hr hsp => hbody cdv A outer s H vs Q E hr hsp
end Nr
namespace Nr
open PySem PySem.Spec PyProof.Rows L2 Evl
def fracD : PyData → Bool
  | .tuple [.int i, .int j] => decide (1 ≤ j) && decide (Nat.gcd (i % j).toNat j.toNat = 1)
  | _ => false
def angD : PyData → Bool
  | .tuple [.int i, .int j] => fracD (.tuple [.int i, .int j]) && (decide (0 ≤ i) && decide (i < j))
  | _ => false
theorem frac_no {d : PyData} (h : ∀ i j, d ≠ .tuple [.int i, .int j]) : fracD d = false := by
  unfold fracD
  split
  · rename_i i j
    exact absurd rfl (h i j)
  · rfl
theorem ang_no {d : PyData} (h : ∀ i j, d ≠ .tuple [.int i, .int j]) : angD d = false := by
  unfold angD
  split
  · rename_i i j
    exact absurd rfl (h i j)
  · rfl
section
variable {P : Program} {w : World} {K : PySem.W.Frag} {mg : Str → Option Value} {base : Heap}
def spGcdZ : Sp := fun vs H Q _ => ∃ (i : Int) (b : Nat), vs = [.int i, .int b] ∧ 1 ≤ b ∧ RetV (.int (Nat.gcd (i % b).toNat b : Nat)) H Q
theorem ok_gcdZ {f : Addr} {fd : FuncData} {k : Nat} (F : Fun K "common_divisor" "common_divisor" sGcd f fd) : FnOk P w K mg base CX0 (k + 1) f fd ["first", "second"] spGcdZ := by
  refine F.ok scGcd (fun vs H Q E h => ?_) (fun cdv A outer s H vs Q E hr h => ?_)
  · obtain ⟨a, b, rfl, _⟩ := h
    rfl
  obtain ⟨i, b, rfl, hb, q⟩ := h
  refine ⟨_, pss_cons (ps_while PassesOwn.never (pt_cmpR op_ne (pv 1) pe_int (nomark _))
    (pss_one (ps_par (i := 0) (j := 1) (by rfl) scGcd.nd rfl rfl (by decide) rfl rfl (pa_cons (pv 1) (pa_cons (pe_op op_mod (pv 0) (pv 1)) pa_nil)) (by rfl))))
    (pss_one (ps_ret (pv 0))), ?_⟩
  refine q_while (fun m σ' H' => (∃ (c : Int) (d : Nat), σ' = [some (.int c), some (.int d)] ∧ Nat.gcd (c % d).toNat d = Nat.gcd (i % b).toNat b ∧ (d = 0 → 0 ≤ c ∧ c.toNat = Nat.gcd (i % b).toNat b) ∧ m = d ∧ Ex H H')) b ⟨i, b, rfl, rfl, fun z => by omega, rfl, Ex.refl H⟩ ?_
  rintro m σ' H' ⟨c, d, rfl, hg, h0, rfl, hx⟩
  refine ⟨_, et_test (ev_op (ev_var rfl) ev_c (rv_ne rfl)), fun hb' H1 e1 => ?_, fun hb' H1 e1 => ?_⟩
  · have hd : m ≠ 0 := by
      rintro rfl
      simp at hb'
    refine ⟨fun σ2 H2 => ∃ (c : Int) (d : Nat), σ2 = [some (.int c), some (.int d)] ∧ Nat.gcd (c % d).toNat d = Nat.gcd (i % b).toNat b ∧ (d = 0 → 0 ≤ c ∧ c.toNat = Nat.gcd (i % b).toNat b) ∧ d < m ∧ Ex H H2, ?_, ?_⟩
    · rintro σ2 H2 ⟨c2, d2, rfl, g2, z2, l2, x2⟩
      exact ⟨d2, l2, c2, d2, rfl, g2, z2, rfl, x2⟩
    · have hm0 : (0 : Int) < (m : Int) := by omega
      have n1 := Int.emod_nonneg c (by omega : (m : Int) ≠ 0)
      have n2 := Int.emod_lt_of_pos c hm0
      obtain ⟨r, hr⟩ : ∃ r : Nat, c % (m : Int) = r := ⟨(c % (m : Int)).toNat, by omega⟩
      have hr' : (c % (m : Int)).toNat = r := by omega
      refine ⟨.int m, rfl, .int c, rfl, .int m, rfl, c, m, rfl, rfl, hm0, .int m, .int (c % (m : Int)), rfl, m, r, by rw [hr]; rfl, ?_, fun z => ⟨by omega, ?_⟩, by omega, hx.trans e1⟩
      · rw [← hg, hr']
        have : ((m : Int) % (r : Int)).toNat = m % r := by
          rw [← Int.natCast_emod]
          rfl
        rw [this, ← Nat.gcd_rec, Nat.gcd_comm]
      · rw [← hg, hr', z, Nat.gcd_zero_left]
        rfl
  · have hd : m = 0 := by
      simp at hb'
      omega
    subst hd
    obtain ⟨z1, z2⟩ := h0 rfl
    refine ⟨.int c, rfl, ?_⟩
    have : c = ((Nat.gcd (i % b).toNat b : Nat) : Int) := by omega
    rw [this]
    exact q H1 (hx.trans e1)
theorem sd_gcdZ {c : Md} {i : Int} {b : Nat} (hb : 1 ≤ b) : SpD K c spGcdZ [.int i, di b] (di (Nat.gcd (i % b).toNat b)) := fun vs D H s hv Q q E => by
  cases hv with
  | cons h1 hv =>
  cases hv with
  | cons h2 hv =>
  cases hv
  exact ⟨i, b, by rw [dq_int h1, dq_int h2], hb, fun H2 e => q _ D H2 (Fw.ofEx s e) (.int _)⟩
def spFracZ (K : PySem.W.Frag) : Sp := spF K (fun d : PyData => [d]) (fun _ => True) fun d => .bool (fracD d)
theorem ok_FracZ {f : Addr} {fd : FuncData} (F : Fun K "is_fraction" "is_fraction" sIsFrac f fd) (m_len : mg "len" = none) (m_isinstance : mg "isinstance" = none) (m_tuple : mg "tuple" = none)
    {f0 : Addr} {fd0 : FuncData} (C_common_divisor : Can P w K mg base "common_divisor" 1 f0 fd0 ["first", "second"] spGcdZ) {f1 : Addr} {fd1 : FuncData} (C_is_whole : Can P w K mg base "is_whole" 1 f1 fd1 ["thing"] (spIsWhole K)) : FnOk P w K mg base CX0 2 f fd ["thing"] (spFracZ K) := by
  refine F.ok scIsFrac (fun vs H Q E h => spF_len h fun _ => rfl) (fun cdv A outer s H vs Q E hr h => ?_)
  obtain ⟨d, D, sb', hv, _, q⟩ := h
  have nd := scIsFrac.nd
  refine ⟨_, (pss_cons (ps_if (PW.pt (pw_or (pt_not (pt_val (pe_callB call_isi (by rfl) m_isinstance boot_isinstance (pa_cons (pv 0) (pa_cons (pe_bltn (v := .ty "tuple") (by rfl) m_tuple PyProof.Rows.boot_tuple rfl) pa_nil))))) (pw_or1 (pt_cmpR op_ne (pe_callB call_len_seq (by rfl) m_len PySem.boot_len (pa_cons (pv 0) pa_nil)) pe_int (nomark _))))) (pss_one (ps_ret pe_bl)) pss_nil)
    (pss_cons (ps_asg (pv 0) (pg_tup rfl (pgs_cons (pg_name (i := 1) nd rfl (.inl rfl)) (pgs_cons (pg_name (i := 2) nd rfl (.inl rfl)) pgs_nil))))
    (pss_one (ps_ret (pe_and (pcall C_is_whole hr (pa_cons (pv 1) pa_nil)) (pe_and (pcall C_is_whole hr (pa_cons (pv 2) pa_nil)) (pe_and (pe_cmpR op_ge (pv 2) pe_int (nomark _)) (pe_one (pe_cmpR op_eq (pcall C_common_divisor hr (pa_cons (pv 1) (pa_cons (pv 2) pa_nil))) pe_int (nomark _)))))))))), RD.go sb' hv rfl ?_ q⟩
  by_cases hd : ∃ x y, d = .tuple [x, y]
  · obtain ⟨x, y, rfl⟩ := hd
    refine rd_when (p := false) ((et_orD (et_notD (et_BD (ed_isi (ed_var rfl) (kit_tup _)))) (fun _ => et_testD (ed_op (ed_cb (ea_consD (ed_var rfl) ea_nilD) b_lenT) ed_int r_neI))).is rfl) (fun z => by cases z) fun _ => ?_
    refine rd_asgG (ed_var rfl) (eg_tup (egs_cons eg_name (egs_cons eg_name egs_nil)) rfl) ?_
    by_cases hx : ∃ i, x = .int i
    · obtain ⟨i, rfl⟩ := hx
      by_cases hy : ∃ j, y = .int j
      · obtain ⟨j, rfl⟩ := hy
        by_cases hj : 1 ≤ j
        · obtain ⟨b, rfl⟩ : ∃ b : Nat, j = b := ⟨j.toNat, by omega⟩
          refine (rd_ret (ed_andV (p := true) (ed_call (ea_consD (ed_var rfl) ea_nilD) (sd_whole _)) (fun _ => ed_andV (p := true) (ed_call (ea_consD (ed_var rfl) ea_nilD) (sd_whole _)) (fun _ => ed_andV (ed_op (ed_var rfl) ed_int r_I0b) (fun _ => ed_op (ed_call (ea_consD (ed_var rfl) (ea_consD (ed_var rfl) ea_nilD)) (sd_gcdZ (by omega))) ed_int r_eqI))))).is ?_
          show PyData.bool (true && (true && (decide ((1 : Int) ≤ (b : Int)) && decide (((Nat.gcd (i % (b : Int)).toNat b : Nat) : Int) = 1)))) = .bool (decide ((1 : Int) ≤ (b : Int)) && decide (Nat.gcd (i % (b : Int)).toNat (b : Int).toNat = 1))
          rw [Bool.true_and, Bool.true_and]
          congr 2
          rw [decide_eq_decide, Int.toNat_natCast]
          omega
        · refine (rd_ret (ed_andV (p := true) (ed_call (ea_consD (ed_var rfl) ea_nilD) (sd_whole _)) (fun _ => ed_andV (p := true) (ed_call (ea_consD (ed_var rfl) ea_nilD) (sd_whole _)) (fun _ => ed_andV (p := false) (q := false) ((ed_op (ed_var rfl) ed_int r_I0b).is (by congr 1; exact decide_eq_false hj)) (fun z => by cases z))))).is ?_
          show PyData.bool false = .bool (decide (1 ≤ j) && decide (Nat.gcd (i % j).toNat j.toNat = 1))
          rw [decide_eq_false hj]
          rfl
      · have hw : wholeD y = false := by
          cases y with
          | int j => exact absurd ⟨j, rfl⟩ hy
          | _ => rfl
        refine (rd_ret (ed_andV (p := true) (ed_call (ea_consD (ed_var rfl) ea_nilD) (sd_whole _)) (fun _ => ed_andV (p := false) (q := false) ((ed_call (ea_consD (ed_var rfl) ea_nilD) (sd_whole _)).is (by rw [hw])) (fun z => by cases z)))).is ?_
        show PyData.bool false = .bool (fracD (.tuple [.int i, y]))
        rw [frac_no fun i' j e => by cases e; exact hy ⟨j, rfl⟩]
    · have hw : wholeD x = false := by
        cases x with
        | int j => exact absurd ⟨j, rfl⟩ hx
        | _ => rfl
      refine (rd_ret (ed_andV (p := false) (q := false) ((ed_call (ea_consD (ed_var rfl) ea_nilD) (sd_whole _)).is (by rw [hw])) (fun z => by cases z))).is ?_
      show PyData.bool false = .bool (fracD (.tuple [x, y]))
      rw [frac_no fun i j e => by cases e; exact hx ⟨i, rfl⟩]
  · have hf : fracD d = false := frac_no fun i j e => hd ⟨_, _, e⟩
    refine RD.is (d := .bool false) ?_ (by show PyData.bool false = .bool (fracD d); rw [hf])
    refine rd_when (p := true) ?_ (fun _ => rd_ret ed_bl) (fun z => by cases z)
    cases d with
    | tuple ds =>
      refine (et_orD (et_notD (et_BD (ed_isi (ed_var rfl) (kit_tup _)))) (fun _ => et_testD (ed_op (ed_cb (ea_consD (ed_var rfl) ea_nilD) b_lenT) ed_int r_neI))).is ?_
      have : ds.length ≠ 2 := fun z => by
        match ds, z, hd with
        | [x, y], _, hd => exact hd ⟨x, y, rfl⟩
      show (false || !decide ((ds.length : Int) = 2)) = true
      rw [decide_eq_false (by omega)]
      rfl
    | _ => exact (et_orD (q := false) (et_notD (et_BD (ed_isi (ed_var rfl) (kit_tup _)))) (fun z => by cases z)).is rfl
def spAngZ (K : PySem.W.Frag) : Sp := spF K (fun d : PyData => [d]) (fun _ => True) fun d => .bool (angD d)
theorem ok_AngZ {f : Addr} {fd : FuncData} (F : Fun K "is_angle" "is_angle" sIsAng f fd) {f0 : Addr} {fd0 : FuncData} (C_is_fraction : Can P w K mg base "is_fraction" 2 f0 fd0 ["thing"] (spFracZ K)) : FnOk P w K mg base CX0 3 f fd ["thing"] (spAngZ K) := by
  refine F.ok scIsAng (fun vs H Q E h => spF_len h fun _ => rfl) (fun cdv A outer s H vs Q E hr h => ?_)
  obtain ⟨d, D, sb', hv, _, q⟩ := h
  have nd := scIsAng.nd
  refine ⟨_, (pss_one (ps_ret (pe_and (pcall C_is_fraction hr (pa_cons (pv 0) pa_nil)) (pe_one (pe_chain op_le op_lt pe_int (pe_ix ix_tup (pv 0) pe_int (fun _ _ => rfl)) (pe_ix ix_tup (pv 0) pe_int (fun _ _ => rfl))))))), RD.go sb' hv rfl ?_ q⟩
  by_cases hd : ∃ i j, d = .tuple [.int i, .int j]
  · obtain ⟨i, j, rfl⟩ := hd
    exact (rd_ret (ed_andV (ed_call (ea_consD (ed_var rfl) ea_nilD) (sp_of (PyData.tuple [.int i, .int j]) trivial)) (fun _ => ed_chain ed_int (ed_op (ed_var rfl) ed_int (r_ixT (d := .int i) (i := 0) rfl)) r_I0b (fun _ => ed_op (ed_var rfl) ed_int (r_ixT (d := .int j) (i := 1) rfl)) (fun _ => r_I0b)))).is rfl
  · have hf : fracD d = false := frac_no fun i j e => hd ⟨i, j, e⟩
    have ha : angD d = false := ang_no fun i j e => hd ⟨i, j, e⟩
    refine RD.is (d := .bool false) ?_ (by show PyData.bool false = .bool (angD d); rw [ha])
    exact (rd_ret (ed_andV (p := false) (q := false) ((ed_call (ea_consD (ed_var rfl) ea_nilD) (sp_of d trivial)).is (by show PyData.bool (fracD d) = _; rw [hf])) (fun z => by cases z))).is rfl
end
end Nr
namespace Nr
open PySem PySem.Spec PyProof.Rows L2 Evl
/-! a roll with its past -/
abbrev Pst := Option (Nat × Nat × Nat) × List Nat × Nat
def pstD (p : Pst) : PyData := .tuple [wOpt p.1, tupN p.2.1, di p.2.2]
structure RH where
  n : Nat
  now : Pst
  past : List Pst
def RH.rows (s : RH) : List Pst := s.past ++ [s.now]
def RollH (K : PySem.W.Frag) (C : Addr) (D H : Hp) (a l : Addr) (s : RH) : Prop := D a = none ∧ D l = none ∧ a ≠ l ∧ ∃ dx v1 v2 v3 v4 xs, H a = some (.ins C dx (fsR v1 v2 v3 v4 (.ref l))) ∧ H l = some (.lst xs) ∧ DqAll K D xs (s.past.map pstD) ∧ Dq K D v1 (di s.n) ∧ Dq K D v2 (wOpt s.now.1) ∧ Dq K D v3 (tupN s.now.2.1) ∧ Dq K D v4 (di s.now.2.2)
/-- what may be called and raise -/
structure CanN (P : Program) (w : World) (K : PySem.W.Frag) (mg : Str → Option Value) (base : Heap) (C : Addr) (m : Str) (k : Nat) (f : Addr) (fd : FuncData) (ps : List Str) (sp : Sp) : Prop where
  ok : FnOk P w K mg base (L2N.CX P w) k f fd ps sp
  me : Meth K C m f
  bd : Binds K fd ps []
section
variable {X : Cx} {C f : Addr} {m : Str} {k j : Nat} {fd : FuncData} {ps : List Str} {sp : Sp} {o e : Expr} {es : List Expr} {ta : TE} {t : TA} {apos pos : Pos} {E : XK} {W : L2.St → XK}
theorem pmN0 {pl : Sem Bool} (M : CanN X.prog X.w X.K X.mg X.base C m k f fd ps sp) (c : Cls X.K C) (hr : Room j X.A) (hx : Passes (L2N.CX X.prog X.w) X E) (he : PE X o ta) (hk : k ≤ j := by decide)
    (ht : eval (.Call (.Attribute o m apos) [] [] pos) X.env = (do
      let ov ← eval o X.env
      standAt apos.atName
      let (f, first) ← holding [ov] (getMethod ov m pl)
      callWith pos f first (backTo pos (starEach [] X.env)) (backToKw pos (keywordEach [] X.env))) := by rfl) : PE X (.Call (.Attribute o m apos) [] [] pos) (tMeth C m sp [] E ta tNil) :=
  pe_meth0 (pl := pl) he c M.me M.ok (hr.mono hk) M.bd .nil hx ht
/-- in a try's body: o.m() -/
def tMethS (C : Addr) (m : Str) (sp : Sp) (E : L2.St → XK) (ta : TE) (t : TA) : TE := fun σ H Q => ta σ H fun x H1 => ∃ a dx fs, x = .ref a ∧ H1 a = some (.ins C dx fs) ∧ fs.lookup m = none ∧ t σ H1 fun vs H2 => sp (x :: vs) H2 Q (E σ)
theorem pmS0 {pl : Sem Bool} (M : CanN X.prog X.w X.K X.mg X.base C m k f fd ps sp) (c : Cls X.K C) (hr : Room j X.A) (hx : ∀ σ, PassesAt (L2N.CX X.prog X.w) X σ (W σ)) (he : PE X o ta) (hk : k ≤ j := by decide)
    (ht : eval (.Call (.Attribute o m apos) [] [] pos) X.env = (do
      let ov ← eval o X.env
      standAt apos.atName
      let (f, first) ← holding [ov] (getMethod ov m pl)
      callWith pos f first (backTo pos (starEach [] X.env)) (backToKw pos (keywordEach [] X.env))) := by rfl) : PE X (.Call (.Attribute o m apos) [] [] pos) (tMethS C m sp W ta tNil) := by
  refine ⟨fun pins s σ H Q I h => ?_⟩
  refine PySem.W.methodCall_KW (pl := pl) (thn (he.run pins s σ H _ I h) fun u s1 hh => ?_) ht
  obtain ⟨x, H1, I1, rx, a, dx, fs, ex, ea, l, q⟩ := hh
  subst ex
  obtain rfl : u = Value.ref a := rx
  refine getmeth_ok I1 ea c M.me l ?_
  refine PySem.W.callWith_K0 (first := [.ref a]) I1.kIn M.me.kp ?_
  exact run_fnS (us := [.ref a]) (vs := [.ref a]) M.ok (hr.mono hk) M.bd (hx σ) I1 (.cons rfl .nil) q
theorem pmS {pl : Sem Bool} (M : CanN X.prog X.w X.K X.mg X.base C m k f fd ps sp) (c : Cls X.K C) (hr : Room j X.A) (hx : ∀ σ, PassesAt (L2N.CX X.prog X.w) X σ (W σ)) (he : PE X o ta) (ha : PA X (e :: es) t) (hk : k ≤ j := by decide)
    (hst : starEach (e :: es) X.env = (false, eval e X.env) :: starEach es X.env := by rfl) (hpl : (backTo pos (starEach es X.env)).any (·.1) = false := by rfl)
    (ht : eval (.Call (.Attribute o m apos) (e :: es) [] pos) X.env = (do
      let ov ← eval o X.env
      standAt apos.atName
      let (f, first) ← holding [ov] (getMethod ov m pl)
      callWith pos f first (backTo pos (starEach (e :: es) X.env)) (backToKw pos (keywordEach [] X.env))) := by rfl) : PE X (.Call (.Attribute o m apos) (e :: es) [] pos) (tMethS C m sp W ta t) := by
  refine ⟨fun pins s σ H Q I h => ?_⟩
  refine PySem.W.methodCall_KW (pl := pl) (thn (he.run pins s σ H _ I h) fun u s1 hh => ?_) ht
  obtain ⟨x, H1, I1, rx, a, dx, fs, ex, ea, l, q⟩ := hh
  subst ex
  obtain rfl : u = Value.ref a := rx
  refine getmeth_ok I1 ea c M.me l ?_
  refine PySem.W.callWith_K (first := [.ref a]) (h₀ := X.base) I.ok.mod.kin M.me.kp (thn (ha.run pos pins s1 σ H1 _ I1 q) fun us s2 hh => ?_) hst hpl
  obtain ⟨vs, H2, I2, r, q2⟩ := hh
  exact ⟨I2.kIn, run_fnS (us := .ref a :: us) (vs := .ref a :: vs) M.ok (hr.mono hk) M.bd (hx σ) I2 (.cons rfl r) q2⟩
/-- o.f as a target -/
def gFld (K : PySem.W.Frag) (ta : TE) (f : Str) : TG := fun v σ H Q => ta σ H fun x H1 => ∃ a C dx fs, x = .ref a ∧ H1 a = some (.ins C dx fs) ∧ Cls K C ∧ NoAttr K C f ∧ fs.length < 1000 ∧ Q σ (upd H1 a (.ins C dx (putF f v fs)))
theorem pg_fld {n : Str} (ha : PE X o ta) : PG X (.Attribute o n apos) (gFld X.K ta n) := by
  refine ⟨fun pins s σ H v u Q I r h => PySem.W.kas_attr (thn (ha.run pins s σ H _ I h) fun ov s2 hh => ?_)⟩
  obtain ⟨x, H2, I2, rx, a, C, dx, fs, ex, ea, c, n, l, q⟩ := hh
  subst ex
  obtain rfl : ov = Value.ref a := rx
  exact setattr_ok I2 ea c n l r fun s3 I3 => ⟨σ, _, I3, q⟩
end
section
variable {K : PySem.W.Frag} {C a l : Addr} {ps qs : List Addr} {D H D1 H1 D2 H2 : Hp} {s s' : RH}
theorem RollH.chs (R : RollH K C D H a l s) (f : ChS z0 ps D H D2 H2) (ha : a ∉ ps) (hl : l ∉ ps) : RollH K C D2 H2 a l s := by
  obtain ⟨n1, n2, ne, dx, v1, v2, v3, v4, xs, h1, h2, hp, d1, d2, d3, d4⟩ := R
  exact ⟨f.new _ _ h1 n1 trivial, f.new _ _ h2 n2 trivial, ne, dx, v1, v2, v3, v4, xs, f.hx _ _ ha h1 (.inl rfl) (fun z => by cases z), f.hx _ _ hl h2 (.inl rfl) (fun z => by cases z), dqa_ex f.dx _ _ hp, dq_ex f.dx _ _ d1, dq_ex f.dx _ _ d2, dq_ex f.dx _ _ d3, dq_ex f.dx _ _ d4⟩
theorem RollH.fw (R : RollH K C D H a l s) (f : Fw z0 D H D2 H2) : RollH K C D2 H2 a l s := R.chs (ps := []) (ChS.of f) (by simp) (by simp)
theorem ChS.twoH (R : RollH K C D2 H2 a l s) (f : ChS z0 [a, l] D H D1 H1) (g : ChS z0 [a, l] D1 H1 D2 H2) : ChS z0 [a, l] D H D2 H2 := f.trans g fun b hb o _ _ _ => by
  rcases List.mem_cons.mp hb with rfl | hb
  · exact R.1
  · rw [List.mem_singleton.mp hb]; exact R.2.1
/-- what a method does: what it tells, or the kind of its refusal, and what the roll is then -/
def spDo (K : PySem.W.Frag) (C : Addr) (KD : Nat → Addr) {α : Type} (A : α → List PyData) (Pre : RH → α → Prop) (Post : RH → α → RH) (F : RH → α → PyData ⊕ Nat) : Sp := fun vs H Q E => ∃ (a l : Addr) (s : RH) (x : α) (D : Hp), Sb z0 D H ∧ AS K D vs (.raw (.ref a) :: (A x).map .dat) ∧ RollH K C D H a l s ∧ Pre s x ∧
  (∀ d, F s x = .inl d → ∀ v D2 H2, ChS z0 [a, l] D H D2 H2 → RollH K C D2 H2 a l (Post s x) → Dq K D2 v d → Q v H2) ∧ (∀ i, F s x = .inr i → ∀ D2 H2, ChS z0 [a, l] D H D2 H2 → RollH K C D2 H2 a l (Post s x) → E (.ref (KD i)) none H2)
theorem spDo_len {KD : Nat → Addr} {α : Type} {A : α → List PyData} {Pre : RH → α → Prop} {Post : RH → α → RH} {F : RH → α → PyData ⊕ Nat} {vs : List V} {H : Hp} {Q : VK} {E : XK} {k : Nat} (h : spDo K C KD A Pre Post F vs H Q E) (hk : ∀ x, (A x).length + 1 = k) : vs.length = k := by
  obtain ⟨_, _, _, x, D, _, hv, _⟩ := h
  rw [as_len hv, List.length_cons, List.length_map, hk]
end
section
variable {K : PySem.W.Frag} {C a l : Addr} {δ : List Sl} {D H : Hp} {σ : L2.St} {En : Ends} {tz : TS} {i : Nat} {s : RH} {tv : TE}
theorem h_setW {w' : Option (Nat × Nat × Nat)} (RC : RCls K C) (S : LB K z0 δ D H σ) (hi : δ[i]? = some (.raw (.ref a))) (R : RollH K C D H a l s) (h : ∀ Q : VK, (∀ y D1 H1, Fw z0 D H D1 H1 → Dq K D1 y (wOpt w') → Q y H1) → tv σ H Q)
    (k : ∀ D2 H2, ChS z0 [a, l] D H D2 H2 → RollH K C D2 H2 a l { s with now := (w', s.now.2) } → LB K z0 δ D2 H2 σ → En.nx σ H2) : sFld K (tVar i) tv "wound" En σ H := h _ fun y D1 H1 f1 dy => by
  obtain ⟨n1, n2, ne, dx, v1, v2, v3, v4, xs, h1, h2, hp, d1, d2, d3, d4⟩ := R.fw f1
  have ch := Ch.of (o := .ins C dx (fsR v1 y v3 v4 (.ref l))) (Fw.refl f1.sb) n1 h1 trivial (fun z => by cases z)
  have R2 : RollH K C D1 (upd H1 a (.ins C dx (fsR v1 y v3 v4 (.ref l)))) a l { s with now := (w', s.now.2) } := ⟨n1, n2, ne, dx, v1, y, v3, v4, xs, upd_same, by rw [upd_ne (Ne.symm ne)]; exact h2, hp, d1, dy, d3, d4⟩
  refine ⟨.ref a, S.se.raw hi, a, C, dx, _, rfl, h1, RC.cls, RC.wound, (show 5 < 1000 by decide), ?_⟩
  rw [pf_wound]
  exact k _ _ (ChS.twoH R2 (ChS.of f1) (ChS.ch ch List.mem_cons_self)) R2 ((S.fw f1).ch ch)
theorem h_setP {hs' : List Nat} (RC : RCls K C) (S : LB K z0 δ D H σ) (hi : δ[i]? = some (.raw (.ref a))) (R : RollH K C D H a l s) (h : ∀ Q : VK, (∀ y D1 H1, Fw z0 D H D1 H1 → Dq K D1 y (tupN hs') → Q y H1) → tv σ H Q)
    (k : ∀ D2 H2, ChS z0 [a, l] D H D2 H2 → RollH K C D2 H2 a l { s with now := (s.now.1, hs', s.now.2.2) } → LB K z0 δ D2 H2 σ → tz En σ H2) : tSeq (sFld K (tVar i) tv "pierced") tz En σ H := h _ fun y D1 H1 f1 dy => by
  obtain ⟨n1, n2, ne, dx, v1, v2, v3, v4, xs, h1, h2, hp, d1, d2, d3, d4⟩ := R.fw f1
  have ch := Ch.of (o := .ins C dx (fsR v1 v2 y v4 (.ref l))) (Fw.refl f1.sb) n1 h1 trivial (fun z => by cases z)
  have R2 : RollH K C D1 (upd H1 a (.ins C dx (fsR v1 v2 y v4 (.ref l)))) a l { s with now := (s.now.1, hs', s.now.2.2) } := ⟨n1, n2, ne, dx, v1, v2, y, v4, xs, upd_same, by rw [upd_ne (Ne.symm ne)]; exact h2, hp, d1, d2, dy, d4⟩
  refine ⟨.ref a, S.se.raw hi, a, C, dx, _, rfl, h1, RC.cls, RC.pierced, (show 5 < 1000 by decide), ?_⟩
  rw [pf_pierced]
  exact k _ _ (ChS.twoH R2 (ChS.of f1) (ChS.ch ch List.mem_cons_self)) R2 ((S.fw f1).ch ch)
theorem h_augT (RC : RCls K C) (S : LB K z0 δ D H σ) (hi : δ[i]? = some (.raw (.ref a))) (R : RollH K C D H a l s)
    (k : ∀ D2 H2, ChS z0 [a, l] D H D2 H2 → RollH K C D2 H2 a l { s with now := (s.now.1, s.now.2.1, s.now.2.2 + 1) } → LB K z0 δ D2 H2 σ → tz En σ H2) : tSeq (sFldAug K (tVar i) (tC (.int 1)) rAdd "times") tz En σ H := by
  obtain ⟨n1, n2, ne, dx, v1, v2, v3, v4, xs, h1, h2, hp, d1, d2, d3, d4⟩ := R
  have ch := Ch.of (o := .ins C dx (fsR v1 v2 v3 (.int ((s.now.2.2 + 1 : Nat) : Int)) (.ref l))) (Fw.refl S.sb) n1 h1 trivial (fun z => by cases z)
  have R2 : RollH K C D (upd H a (.ins C dx (fsR v1 v2 v3 (.int ((s.now.2.2 + 1 : Nat) : Int)) (.ref l)))) a l { s with now := (s.now.1, s.now.2.1, s.now.2.2 + 1) } := ⟨n1, n2, ne, dx, v1, v2, v3, _, xs, upd_same, by rw [upd_ne (Ne.symm ne)]; exact h2, hp, d1, d2, d3, .int _⟩
  refine ⟨.ref a, S.se.raw hi, a, C, dx, _, v4, rfl, h1, RC.cls, RC.times, lk_times, ?_⟩
  have e4 := dq_int d4
  subst e4
  refine ⟨(s.now.2.2 : Int), 1, rfl, rfl, dx, _, h1, (show 5 < 1000 by decide), ?_⟩
  rw [pf_times, show ((s.now.2.2 : Int) + 1) = ((s.now.2.2 + 1 : Nat) : Int) by omega]
  exact k _ _ (ChS.ch ch List.mem_cons_self) R2 (S.ch ch)
theorem h_appR (RC : RCls K C) (S : LB K z0 δ D H σ) (hi : σ[i]? = some (some (.ref a))) (R : RollH K C D H a l s) (hp900 : s.past.length < 900)
    (k : ∀ D2 H2, ChS z0 [a, l] D H D2 H2 → RollH K C D2 H2 a l { s with past := s.past ++ [s.now] } → En.nx σ H2) :
    tDrop (tBM K "list" rAppend (tFld K (tVar i) "past") (tCons (tTup (tCons (tFld K (tVar i) "wound") (tCons (tFld K (tVar i) "pierced") (tCons (tFld K (tVar i) "times") tNil)))) tNil)) En σ H := by
  obtain ⟨n1, n2, ne, dx, v1, v2, v3, v4, xs, h1, h2, hp, d1, d2, d3, d4⟩ := R
  refine ⟨.ref a, hi, a, C, dx, _, .ref l, rfl, h1, RC.cls, RC.past, lk_past, Or.inl ⟨rfl, xs, sq_of h2⟩, .ref a, hi, a, C, dx, _, v2, rfl, h1, RC.cls, RC.wound, lk_wound, .ref a, hi, a, C, dx, _, v3, rfl, h1, RC.cls, RC.pierced, lk_pierced, .ref a, hi, a, C, dx, _, v4, rfl, h1, RC.cls, RC.times, lk_times, ?_⟩
  refine ⟨(by show 3 ≤ sizeLine; decide), fun t ht => ?_⟩
  have f := Fw.alloc (o := .tup [v2, v3, v4]) S.sb ht trivial
  have nb : ∀ q : Addr, z0.bag ≠ some q := fun q z => by cases z
  have h1' := f.keep h1 trivial (nb a)
  have h2' := f.keep h2 trivial (nb l)
  have n1' := f.off h1 n1 trivial
  have n2' := f.off h2 n2 trivial
  have hl := dqa_len hp
  rw [List.length_map] at hl
  refine ⟨l, xs, .ref t, rfl, rfl, h2', sz_lt (by omega), ?_⟩
  have ch := Ch.of (o := .lst (xs ++ [.ref t])) (Fw.refl f.sb) n2' h2' trivial (nb l)
  have R2 : RollH K C (upd D t (.tup [v2, v3, v4])) (upd (upd H t (.tup [v2, v3, v4])) l (.lst (xs ++ [.ref t]))) a l { s with past := s.past ++ [s.now] } := ⟨n1', n2', ne, dx, v1, v2, v3, v4, _, by rw [upd_ne ne]; exact h1', upd_same, by
      show DqAll K _ _ ((s.past ++ [s.now]).map pstD)
      rw [List.map_append]
      exact dqa_append (dqa_ex f.dx _ _ hp) (.cons (.tup (st_of upd_same) (.cons (dq_ex f.dx _ _ d2) (.cons (dq_ex f.dx _ _ d3) (.cons (dq_ex f.dx _ _ d4) .nil)))) .nil), dq_ex f.dx _ _ d1, dq_ex f.dx _ _ d2, dq_ex f.dx _ _ d3, dq_ex f.dx _ _ d4⟩
  exact k _ _ (ChS.twoH R2 (ChS.of f) (ChS.ch ch (List.mem_cons_of_mem _ List.mem_cons_self))) R2
end
end Nr
namespace Nr
open PySem PySem.Spec PyProof.Rows L2 Evl
def triOk (w : Nat × Nat × Nat) : Prop := 4 ≤ w.1 ∧ w.1 ≤ 16 ∧ w.2.1 ≤ 8 ∧ w.2.2 ≤ 1
theorem win_ok {w : Nat × Nat × Nat} (h : triOk w) : isWinD (wD w.1 w.2.1 w.2.2) = true := by
  obtain ⟨h1, h2, h3, h4⟩ := h
  show ((decide ((4 : Int) ≤ (w.1 : Int)) && decide ((w.1 : Int) ≤ 16)) && ((decide ((0 : Int) ≤ (w.2.1 : Int)) && decide ((w.2.1 : Int) ≤ 8)) && (decide ((0 : Int) ≤ (w.2.2 : Int)) && decide ((w.2.2 : Int) ≤ 1)))) = true
  rw [decide_eq_true (show (4 : Int) ≤ (w.1 : Int) by omega), decide_eq_true (show (w.1 : Int) ≤ 16 by omega), decide_eq_true (show (0 : Int) ≤ (w.2.1 : Int) by omega), decide_eq_true (show (w.2.1 : Int) ≤ 8 by omega), decide_eq_true (show (0 : Int) ≤ (w.2.2 : Int) by omega), decide_eq_true (show (w.2.2 : Int) ≤ 1 by omega)]
  rfl
abbrev noA : Unit → List PyData := fun _ => []
def spHRem (K : PySem.W.Frag) (C : Addr) (D : Nat → Addr) : Sp := spDo K C D noA (fun s _ => s.past.length < 900) (fun s _ => { s with past := s.rows }) fun _ _ => .inl .none
def spHNeed (K : PySem.W.Frag) (C : Addr) (D : Nat → Addr) : Sp := spDo K C D noA (fun _ _ => True) (fun s _ => s) fun s _ => if s.now.1 = none then .inr 3 else .inl .none
/-- what is handed to wind -/
def wArg : PyData ⊕ (Nat × Nat × Nat) → PyData
  | .inl d => d
  | .inr w => wD w.1 w.2.1 w.2.2
def wPre : PyData ⊕ (Nat × Nat × Nat) → Prop
  | .inl d => isWinD d = false
  | .inr w => triOk w
def wPost (s : RH) : PyData ⊕ (Nat × Nat × Nat) → RH
  | .inl _ => s
  | .inr w => { s with now := (some w, s.now.2), past := s.rows }
def wOut : PyData ⊕ (Nat × Nat × Nat) → PyData ⊕ Nat
  | .inl _ => .inr 2
  | .inr _ => .inl .none
def spHWind (K : PySem.W.Frag) (C : Addr) (D : Nat → Addr) : Sp := spDo K C D (fun x => [wArg x]) (fun s x => s.past.length < 900 ∧ wPre x) wPost fun _ x => wOut x
def freshH (s : RH) (w : Nat × Nat × Nat) (q : Nat × Nat) : List Nat := (pricksM s.n w.1 w.2.1 w.2.2 q.1 q.2).filter fun y => !s.now.2.1.contains y
def pArg : PyData ⊕ (Nat × Nat) → PyData
  | .inl d => d
  | .inr q => td q
def pPre (s : RH) : PyData ⊕ (Nat × Nat) → Prop
  | .inl d => angD d = false
  | .inr q => s.past.length < 900 ∧ s.n ≤ 24 ∧ s.now.2.1.length ≤ 24 ∧ (∀ w, s.now.1 = some w → triOk w) ∧ q.1 < q.2 ∧ q.2 < 2 ^ 30 ∧ Nat.gcd q.1 q.2 = 1
def pPost (s : RH) : PyData ⊕ (Nat × Nat) → RH
  | .inl _ => s
  | .inr q => match s.now.1 with
    | none => s
    | some w => { s with now := (some w, srt (s.now.2.1 ++ freshH s w q), s.now.2.2 + 1), past := s.rows }
def pOut (s : RH) : PyData ⊕ (Nat × Nat) → PyData ⊕ Nat
  | .inl _ => .inr 0
  | .inr q => match s.now.1 with
    | none => .inr 3
    | some w => .inl (tupN (freshH s w q))
def spHPrick (K : PySem.W.Frag) (C : Addr) (D : Nat → Addr) : Sp := spDo K C D (fun x => [pArg x]) pPre pPost pOut
def bPost (s : RH) : RH := match s.past.getLast? with
  | none => s
  | some p => { s with now := p, past := s.past.dropLast }
def spHBack (K : PySem.W.Frag) (C : Addr) (D : Nat → Addr) : Sp := spDo K C D noA (fun _ _ => True) (fun s _ => bPost s) fun s _ => match s.past.getLast? with | none => .inr 4 | some _ => .inl .none
def spHWinding (K : PySem.W.Frag) (C : Addr) (D : Nat → Addr) : Sp := spDo K C D noA (fun _ _ => True) (fun s _ => s) fun s _ => .inl (wOpt s.now.1)
def spHHoles (K : PySem.W.Frag) (C : Addr) (D : Nat → Addr) : Sp := spDo K C D noA (fun _ _ => True) (fun s _ => s) fun s _ => .inl (tupN s.now.2.1)
def spHPricks (K : PySem.W.Frag) (C : Addr) (D : Nat → Addr) : Sp := spDo K C D noA (fun _ _ => True) (fun s _ => s) fun s _ => .inl (di s.now.2.2)
def spHLen (K : PySem.W.Frag) (C : Addr) (D : Nat → Addr) : Sp := spDo K C D noA (fun _ _ => True) (fun s _ => s) fun s _ => .inl (di s.now.2.1.length)
def lOut (s : RH) : PyData ⊕ Nat := match s.now.1 with
  | none => .inr 3
  | some w => .inl (.list ((litM (Wz.harm ⟨s.n, w.1, w.2.1, w.2.2, s.now.2.1⟩)).map ivD))
def spHLight (K : PySem.W.Frag) (C : Addr) (D : Nat → Addr) : Sp := spDo K C D noA (fun s _ => s.n ≤ 24 ∧ s.now.2.1.length ≤ 100 ∧ ∀ w, s.now.1 = some w → triOk w) (fun s _ => s) fun s _ => lOut s
section
variable {P : Program} {w : World} {K : PySem.W.Frag} {mg : Str → Option Value} {base : Heap}
abbrev sRRem : Stmt := clsB (topS 33 /- Roll -/) 1
abbrev nRRem : List Str := ["self"]
theorem scRRem : FnScope nRRem ["self"] (defScope sRRem) := ⟨rfl, rfl, rfl, by decide +kernel, rfl, by decide +kernel, by decide +kernel⟩
theorem ok_RRem {f : Addr} {fd : FuncData} {C : Addr} (RC : RCls K C) {D : Nat → Addr} (F : Fun K "remember" "Roll.remember" sRRem f fd) :
    FnOk P w K mg base CX0 1 f fd ["self"] (spHRem K C D) := by
  refine F.ok scRRem (fun vs H Q E h => spDo_len h fun _ => rfl) (fun cdv A outer s H vs Q E hr h => ?_)
  obtain ⟨a, l, st, _, D', sb, hv, R, hp, q, _⟩ := h
  have nd := scRRem.nd
  refine ⟨_, (pss_one (ps_expr (pe_bm PySem.F.plainAttrs_list PySem.F.slot_list_append PySem.F.type_list_append mt_append (pe_fld (pv 0) (by rfl)) (pa_cons (pe_tup (pa_cons (pe_fld (pv 0) (by rfl)) (pa_cons (pe_fld (pv 0) (by rfl)) (pa_cons (pe_fld (pv 0) (by rfl)) pa_nil)))) pa_nil)))), ?_⟩
  have S := LB.startB (N := nRRem) sb hv rfl
  exact h_appR RC S (S.se.raw (i := 0) rfl) R hp fun D2 H2 ch R2 => q _ rfl .non D2 H2 ch R2 .non
abbrev sRNeed : Stmt := clsB (topS 33 /- Roll -/) 2
abbrev nRNeed : List Str := ["self"]
theorem scRNeed : FnScope nRNeed ["self"] (defScope sRNeed) := ⟨rfl, rfl, rfl, by decide +kernel, rfl, by decide +kernel, by decide +kernel⟩
theorem ok_RNeed {f : Addr} {fd : FuncData} {C : Addr} (RC : RCls K C) (F : Fun K "need_winding" "Roll.need_winding" sRNeed f fd) {RE : Addr} {D : Nat → Addr} (KD : Kinds K mg RE D kindW) :
    FnOk P w K mg base (L2N.CX P w) 1 f fd ["self"] (spHNeed K C D) := by
  refine Fun.okN F scRNeed (fun vs H Q E h => spDo_len h fun _ => rfl) (fun cdv A outer s H vs Q E hr h => ?_)
  obtain ⟨a, l, st, _, D', sb, hv, R, _, q, qe⟩ := h
  have nd := scRNeed.nd
  refine ⟨_, (pss_one (ps_if (pt_cmpR op_isN (pe_fld (pv 0) (by rfl)) pe_non (nomark _)) (pss_one (L2N.ps_raise rfl (L2N.takes_of rfl rfl rfl rfl) (L2N.pmk_own PySem.F.excBase_ValueError (KD.x 3 (by decide)) (KD.g 3 (by decide)) (KD.k 3 (by decide)) (raises_own (KD.e 3 (by decide)).hs (KD.t 3 (by decide))) rfl))) pss_nil)), ?_⟩
  have S := LB.startB (N := nRNeed) sb hv rfl
  have R0 := R
  obtain ⟨n1, n2, ne, dx, v1, v2, v3, v4, xs, h1, h2, hp', d1, d2, d3, d4⟩ := R
  refine ⟨.ref a, S.se.raw (i := 0) rfl, a, C, dx, _, v2, rfl, h1, RC.cls, RC.wound, lk_wound, ?_⟩
  cases hw : st.now.1 with
  | none =>
    rw [hw] at d2
    cases d2
    refine ⟨rfl, true, by rw [decide_eq_true rfl], ?_⟩
    dsimp only
    rw [if_pos rfl]
    exact qe 3 (by dsimp only; rw [if_pos hw]) D' H (ChS.of (Fw.refl sb)) R0
  | some w3 =>
    rw [hw] at d2
    have hv2 : v2 ≠ .non := fun z => by subst z; cases d2
    refine ⟨rfl, false, by rw [decide_eq_false hv2], ?_⟩
    dsimp only
    rw [if_neg (by decide)]
    exact q .none (by dsimp only; rw [if_neg (by rw [hw]; intro z; cases z)]) .non D' H (ChS.of (Fw.refl sb)) R0 .non
abbrev sRWinding : Stmt := clsB (topS 33 /- Roll -/) 6
abbrev nRWinding : List Str := ["self"]
theorem scRWinding : FnScope nRWinding ["self"] (defScope sRWinding) := ⟨rfl, rfl, rfl, by decide +kernel, rfl, by decide +kernel, by decide +kernel⟩
theorem ok_RWinding {f : Addr} {fd : FuncData} {C : Addr} (RC : RCls K C) {D : Nat → Addr} (F : Fun K "winding" "Roll.winding" sRWinding f fd) :
    FnOk P w K mg base CX0 1 f fd ["self"] (spHWinding K C D) := by
  refine F.ok scRWinding (fun vs H Q E h => spDo_len h fun _ => rfl) (fun cdv A outer s H vs Q E hr h => ?_)
  obtain ⟨a, l, st, _, D', sb, hv, R, _, q, _⟩ := h
  have nd := scRWinding.nd
  refine ⟨_, (pss_one (ps_ret (pe_fld (pv 0) (by rfl)))), ?_⟩
  have S := LB.startB (N := nRWinding) sb hv rfl
  obtain ⟨n1, n2, ne, dx, v1, v2, v3, v4, xs, h1, h2, hp', d1, d2, d3, d4⟩ := id R
  exact ⟨.ref a, S.se.raw (i := 0) rfl, a, C, dx, _, v2, rfl, h1, RC.cls, RC.wound, lk_wound, q _ rfl v2 D' H (ChS.of (Fw.refl sb)) R d2⟩
abbrev sRHoles : Stmt := clsB (topS 33 /- Roll -/) 7
abbrev nRHoles : List Str := ["self"]
theorem scRHoles : FnScope nRHoles ["self"] (defScope sRHoles) := ⟨rfl, rfl, rfl, by decide +kernel, rfl, by decide +kernel, by decide +kernel⟩
theorem ok_RHoles {f : Addr} {fd : FuncData} {C : Addr} (RC : RCls K C) {D : Nat → Addr} (F : Fun K "holes" "Roll.holes" sRHoles f fd) :
    FnOk P w K mg base CX0 1 f fd ["self"] (spHHoles K C D) := by
  refine F.ok scRHoles (fun vs H Q E h => spDo_len h fun _ => rfl) (fun cdv A outer s H vs Q E hr h => ?_)
  obtain ⟨a, l, st, _, D', sb, hv, R, _, q, _⟩ := h
  have nd := scRHoles.nd
  refine ⟨_, (pss_one (ps_ret (pe_fld (pv 0) (by rfl)))), ?_⟩
  have S := LB.startB (N := nRHoles) sb hv rfl
  obtain ⟨n1, n2, ne, dx, v1, v2, v3, v4, xs, h1, h2, hp', d1, d2, d3, d4⟩ := id R
  exact ⟨.ref a, S.se.raw (i := 0) rfl, a, C, dx, _, v3, rfl, h1, RC.cls, RC.pierced, lk_pierced, q _ rfl v3 D' H (ChS.of (Fw.refl sb)) R d3⟩
abbrev sRPricks : Stmt := clsB (topS 33 /- Roll -/) 9
abbrev nRPricks : List Str := ["self"]
theorem scRPricks : FnScope nRPricks ["self"] (defScope sRPricks) := ⟨rfl, rfl, rfl, by decide +kernel, rfl, by decide +kernel, by decide +kernel⟩
theorem ok_RPricks {f : Addr} {fd : FuncData} {C : Addr} (RC : RCls K C) {D : Nat → Addr} (F : Fun K "pricks" "Roll.pricks" sRPricks f fd) :
    FnOk P w K mg base CX0 1 f fd ["self"] (spHPricks K C D) := by
  refine F.ok scRPricks (fun vs H Q E h => spDo_len h fun _ => rfl) (fun cdv A outer s H vs Q E hr h => ?_)
  obtain ⟨a, l, st, _, D', sb, hv, R, _, q, _⟩ := h
  have nd := scRPricks.nd
  refine ⟨_, (pss_one (ps_ret (pe_fld (pv 0) (by rfl)))), ?_⟩
  have S := LB.startB (N := nRPricks) sb hv rfl
  obtain ⟨n1, n2, ne, dx, v1, v2, v3, v4, xs, h1, h2, hp', d1, d2, d3, d4⟩ := id R
  exact ⟨.ref a, S.se.raw (i := 0) rfl, a, C, dx, _, v4, rfl, h1, RC.cls, RC.times, lk_times, q _ rfl v4 D' H (ChS.of (Fw.refl sb)) R d4⟩
abbrev sRLen : Stmt := clsB (topS 33 /- Roll -/) 10
abbrev nRLen : List Str := ["self"]
theorem scRLen : FnScope nRLen ["self"] (defScope sRLen) := ⟨rfl, rfl, rfl, by decide +kernel, rfl, by decide +kernel, by decide +kernel⟩
theorem ok_RLen {f : Addr} {fd : FuncData} {C : Addr} (RC : RCls K C) {D : Nat → Addr} (F : Fun K "__len__" "Roll.__len__" sRLen f fd) (m_len : mg "len" = none) :
    FnOk P w K mg base CX0 1 f fd ["self"] (spHLen K C D) := by
  refine F.ok scRLen (fun vs H Q E h => spDo_len h fun _ => rfl) (fun cdv A outer s H vs Q E hr h => ?_)
  obtain ⟨a, l, st, _, D', sb, hv, R, _, q, _⟩ := h
  have nd := scRLen.nd
  refine ⟨_, (pss_one (ps_ret (pe_callB call_len_seq (by rfl) m_len PySem.boot_len (pa_cons (pe_fld (pv 0) (by rfl)) pa_nil)))), ?_⟩
  have S := LB.startB (N := nRLen) sb hv rfl
  obtain ⟨n1, n2, ne, dx, v1, v2, v3, v4, xs, h1, h2, hp', d1, d2, d3, d4⟩ := id R
  refine ⟨.ref a, S.se.raw (i := 0) rfl, a, C, dx, _, v3, rfl, h1, RC.cls, RC.pierced, lk_pierced, ?_⟩
  refine b_lenT [v3] D' H sb (.cons d3 .nil) _ fun v D2 H2 f dv => ?_
  rw [List.length_map] at dv
  exact q _ rfl v D2 H2 (ChS.of f) (R.fw f) dv
end
end Nr
namespace Nr
open PySem PySem.Spec PyProof.Rows L2 Evl
section
variable {K : PySem.W.Frag} {C a l : Addr} {δ : List Sl} {D H : Hp} {σ : L2.St} {s : RH}
/-- the cells that have no hole yet -/
theorem lc_fresh {Q : VK} {E : XK} {w3 : Nat × Nat × Nat} {q : Nat × Nat} (RC : RCls K C) (S : LB K z0 δ D H σ) (h0 : δ[0]? = some (.raw (.ref a))) (h1 : δ[1]? = some (.dat (td q))) (h3 : 3 < δ.length) (R : RollH K C D H a l s) (hw : s.now.1 = some w3) (ok : triOk w3) (hn : s.n ≤ 24) (hq : 0 < q.2) (hq2 : q.2 < 2 ^ 200)
    (k : ∀ v D2 H2, Fw z0 D H D2 H2 → Dq K D2 v (.list ((freshH s w3 q).map di)) → Q v H2) :
    tLc (iList K (tCall (spPricked K) [] E (tCons (tFld K (tVar 0) "many") (tCons (tFld K (tVar 0) "wound") (tCons (tVar 1) tNil))))) (gName 3) (tTest (tOp (rIn K true) (tVar 3) (tFld K (tVar 0) "pierced"))) (tVar 3) [3] σ H Q := by
  have nbz : ∀ q : Addr, z0.bag ≠ some q := fun q z => by cases z
  have Rr := R
  obtain ⟨n1, n2, ne, dx, v1, v2, v3, v4, xs, ha, hl, hp', d1, d2, d3, d4⟩ := R
  rw [hw] at d2
  obtain ⟨va, hva, da⟩ := S.se.get h1
  obtain ⟨g1, g2, g3, g4⟩ := ok
  refine ⟨.ref a, S.se.raw h0, a, C, dx, _, v1, rfl, ha, RC.cls, RC.many, lk_many, .ref a, S.se.raw h0, a, C, dx, _, v2, rfl, ha, RC.cls, RC.wound, lk_wound, va, hva, ?_⟩
  refine sd_pricked (K := K) (c := z0) (n := s.n) (g := w3.1) (h := w3.2.1) (e := w3.2.2) (t := q.1) (b := q.2) (by omega) (by omega) (by omega) (by omega) hq hq2 [v1, v2, va] D H S.sb (.cons d1 (.cons d2 (.cons da .nil))) _ (fun u D1 H1 f1 du => ?_) E
  obtain ⟨la, rfl, hla⟩ := dq_intl du
  have hpl := pricks_len s.n w3.1 w3.2.1 w3.2.2 q.1 q.2
  refine ⟨la, rfl, ⟨_, sq_of (f1.sb.ex _ _ hla)⟩, ?_⟩
  have wk : Wk K z0 (Itl K la) D1 ((pricksM s.n w3.1 w3.2.1 w3.2.2 q.1 q.2).map di) := wk_list hla (vis_dqa _)
  unfold freshH at k
  generalize pricksM s.n w3.1 w3.2.1 w3.2.2 q.1 q.2 = L at *
  have Rf := Rr.fw f1
  intro p hp
  refine ⟨fun i m H' => m + i = L.length ∧ ∃ (D' : Hp) (xs : List V), Fw z0 D1 H1 D' H' ∧ D' p = none ∧ H' p = some (.lst xs) ∧ DqAll K D' xs (((L.take i).filter fun y => !s.now.2.1.contains y).map di), ⟨L.length, rfl, D1, [], Fw.made f1.sb hp, f1.sb.free hp, upd_same, .nil⟩, fun i m H' hw' => ?_⟩
  obtain ⟨em, D', xs', fw, nD, hpx, hd⟩ := hw'
  by_cases lt : i < L.length
  · refine .inr ⟨wk.go i H' (by rw [List.length_map]; exact lt) (fw.dx.trans fw.sb.ex), (fun H2 => ∃ (D' : Hp) (xs : List V), Fw z0 D1 H1 D' H2 ∧ D' p = none ∧ H2 p = some (.lst xs) ∧ DqAll K D' xs (((L.take (i + 1)).filter fun y => !s.now.2.1.contains y).map di)), fun H2 h2 => ⟨m - 1, by omega, by omega, h2⟩, fun x H2 hy => ?_⟩
    have hLi : L[i]? = some L[i] := List.getElem?_eq_getElem lt
    obtain ⟨D2, fy, dx'⟩ := wk.yld i (di L[i]) D' H' x H2 (by rw [List.getElem?_map, hLi]; rfl) fw.dx fw.sb hy
    have ex := dq_int dx'
    subst ex
    have se2 : SE K D2 (wipe σ [3]) (wipeD δ [3]) := (S.se.ex ((f1.trans fw).trans fy).dx).wipe [3]
    have se3 : SE K D2 ((wipe σ [3]).set 3 (some (vi L[i]))) ((wipeD δ [3]).set 3 (.dat (di L[i]))) := SE.set (x := some (vi L[i])) (s := .dat (di L[i])) (.int _) 3 se2
    have k0 : ((wipeD δ [3]).set 3 (.dat (di L[i])))[0]? = some (.raw (.ref a)) := by
      rw [List.getElem?_set_ne (by decide)]
      show (δ.set 3 .un)[0]? = _
      rw [List.getElem?_set_ne (by decide)]
      exact h0
    have k3 : ((wipeD δ [3]).set 3 (.dat (di L[i])))[3]? = some (.dat (di L[i])) := by
      rw [List.getElem?_set_self (by show 3 < (δ.set 3 .un).length; rw [List.length_set]; exact h3)]
    refine ⟨?_, ?_⟩
    · refine wipe_same (by rw [List.length_set, wipe_length]) fun j hj => ?_
      rw [List.getElem?_set_ne (fun z => hj (by rw [← z]; exact List.mem_singleton.mpr rfl)), wipe_out hj]
    · obtain ⟨vx, hvx, dvx⟩ := se3.get k3
      have ex2 := dq_int dvx
      subst ex2
      obtain ⟨_, _, _, dx2, u1, u2, u3, u4, us, hA, _, _, _, _, e3, _⟩ := (Rf.fw fw).fw fy
      refine ⟨_, hvx, .ref a, se3.raw k0, a, C, dx2, _, u3, rfl, hA, RC.cls, RC.pierced, lk_pierced, ?_⟩
      refine r_niT (n := L[i]) (l := s.now.2.1) _ u3 D2 H2 fy.sb (.int _) e3 _ fun b D3 H3 f3 db => ⟨_, dq_bool db, ?_⟩
      have ftk : (L.take (i + 1)).filter (fun y => !s.now.2.1.contains y) = (L.take i).filter (fun y => !s.now.2.1.contains y) ++ [L[i]].filter fun y => !s.now.2.1.contains y := by
        rw [List.take_add_one, hLi, List.filter_append]; rfl
      have fa := fw.trans (fy.trans f3)
      have np3 : D3 p = none := (fy.trans f3).off hpx nD trivial
      have hp3 : H3 p = some (.lst xs') := (fy.trans f3).keep hpx trivial (nbz p)
      cases hf : !s.now.2.1.contains L[i] with
      | true =>
        dsimp only
        rw [if_pos rfl]
        refine ⟨_, hvx, xs', hp3, ?_, D3, xs' ++ [vi L[i]], fa.mut (.none hp) np3 hp3 trivial (nbz p), np3, upd_same, ?_⟩
        · have l1 := dqa_len hd
          have l2 := List.length_filter_le (fun y => !s.now.2.1.contains y) (L.take i)
          rw [List.length_map] at l1
          rw [List.length_take] at l2
          exact sz_lt (by omega)
        · rw [ftk, List.filter_cons, if_pos hf, List.map_append]
          exact dqa_append (dqa_ex (fy.trans f3).dx _ _ hd) (.cons (.int _) .nil)
      | false =>
        dsimp only
        rw [if_neg (by decide)]
        refine ⟨D3, xs', fa, np3, hp3, ?_⟩
        rw [ftk, List.filter_cons, if_neg (by rw [hf]; decide), List.filter_nil, List.append_nil]
        exact dqa_ex (fy.trans f3).dx _ _ hd
  · have ei : i = L.length := by omega
    subst ei
    have st := wk.stop H' (fw.dx.trans fw.sb.ex)
    rw [List.length_map] at st
    rw [List.take_length] at hd
    have fg := fw.give (.none hp) nD hpx (nbz p)
    exact .inl ⟨st, k _ _ _ (f1.trans fg) (.lst upd_same (dqa_ex (Ex.new nD) _ _ hd))⟩
theorem l_fresh {En : Ends} {tz : TS} {E : XK} {w3 : Nat × Nat × Nat} {q : Nat × Nat} (RC : RCls K C) (S : LB K z0 δ D H σ) (h0 : δ[0]? = some (.raw (.ref a))) (h1 : δ[1]? = some (.dat (td q))) (h3 : 3 < δ.length) (R : RollH K C D H a l s) (hw : s.now.1 = some w3) (ok : triOk w3) (hn : s.n ≤ 24) (hq : 0 < q.2) (hq2 : q.2 < 2 ^ 200)
    (k : ∀ σ2 D2 H2, Fw z0 D H D2 H2 → LB K z0 (δ.set 2 (.dat (.list ((freshH s w3 q).map di)))) D2 H2 σ2 → tz En σ2 H2) :
    tSeq (tAsg (tLc (iList K (tCall (spPricked K) [] E (tCons (tFld K (tVar 0) "many") (tCons (tFld K (tVar 0) "wound") (tCons (tVar 1) tNil))))) (gName 3) (tTest (tOp (rIn K true) (tVar 3) (tFld K (tVar 0) "pierced"))) (tVar 3) [3]) (gName 2)) tz En σ H :=
  lc_fresh (E := E) RC S h0 h1 h3 R hw ok hn hq hq2 fun v D2 H2 f d => k _ D2 H2 f ((S.fw f).dat d)
end
section
variable {n g h e : Nat}
theorem pricks_made {t b : Nat} (hb : 0 < b) (hg : 2 ≤ g) : pricksM n g h e t b = madeM n g h e [(t, b)] := by
  unfold madeM
  rw [List.flatMap_cons, List.flatMap_nil, List.append_nil, sortU_id (pricks_sorted hb hg)]
end
structure RTy (K : PySem.W.Frag) (C : Addr) : Prop where
  ty : PySem.W.kitOne K (.ref C) (.ref C) = some true
  ha : PySem.W.findIn K (.ref C) "__class__" = some (some (.builtin "object.__class__"))
  hn : PySem.W.specialIn K (.builtin "object.__class__") "__get__" = some (some (.builtin "getset_descriptor.__get__"))
  htk : PySem.W.takesIn K (.builtin "object.__class__") = some true
  hm : PySem.W.mroIn K C (.type "object") = some true
theorem sh_wOpt (o : Option (Nat × Nat × Nat)) : SeqAt.shaped (wOpt o) = true := by
  cases o with
  | none => rfl
  | some w => exact (shp_tuple (f := di) (fun n : Nat => shp_int 0 (n : Int)) [w.1, w.2.1, w.2.2]).ok (by decide)

theorem dqa_snoc {K : PySem.W.Frag} {D : Hp} {d : PyData} : ∀ {ds : List PyData} {xs : List V}, DqAll K D xs (ds ++ [d]) → ∃ xs0 y, xs = xs0 ++ [y] ∧ DqAll K D xs0 ds ∧ Dq K D y d
  | [], xs, h => by
    cases h with
    | cons h1 h2 =>
    cases h2
    exact ⟨[], _, rfl, .nil, h1⟩
  | e :: ds, xs, h => by
    cases h with
    | cons h1 h2 =>
    obtain ⟨xs0, y, rfl, g1, g2⟩ := dqa_snoc h2
    exact ⟨_ :: xs0, y, rfl, .cons h1 g1, g2⟩
theorem ang_td {q : Nat × Nat} (h : q.1 < q.2) (g : Nat.gcd q.1 q.2 = 1) : angD (td q) = true := by
  show (decide ((1 : Int) ≤ (q.2 : Int)) && decide (Nat.gcd ((q.1 : Int) % (q.2 : Int)).toNat (q.2 : Int).toNat = 1) && (decide ((0 : Int) ≤ (q.1 : Int)) && decide ((q.1 : Int) < (q.2 : Int)))) = true
  rw [decide_eq_true (show (1 : Int) ≤ (q.2 : Int) by omega), decide_eq_true (show (0 : Int) ≤ (q.1 : Int) by omega), decide_eq_true (show (q.1 : Int) < (q.2 : Int) by omega)]
  have e : ((q.1 : Int) % (q.2 : Int)).toNat = q.1 := by
    rw [Int.emod_eq_of_lt (by omega) (by omega)]
    rfl
  rw [e, Int.toNat_natCast, decide_eq_true g]
  rfl
theorem p_none {s : RH} {q : Nat × Nat} (h : s.now.1 = none) : pPost s (.inr q) = s ∧ pOut s (.inr q) = .inr 3 := by
  unfold pPost pOut
  rw [h]
  exact ⟨rfl, rfl⟩
theorem p_some {s : RH} {q : Nat × Nat} {w : Nat × Nat × Nat} (h : s.now.1 = some w) : pPost s (.inr q) = { s with now := (some w, srt (s.now.2.1 ++ freshH s w q), s.now.2.2 + 1), past := s.rows } ∧ pOut s (.inr q) = .inl (tupN (freshH s w q)) := by
  unfold pPost pOut
  rw [h]
  exact ⟨rfl, rfl⟩
theorem l_none {s : RH} (h : s.now.1 = none) : lOut s = .inr 3 := by unfold lOut; rw [h]
theorem l_some {s : RH} {w : Nat × Nat × Nat} (h : s.now.1 = some w) : lOut s = .inl (.list ((litM (Wz.harm ⟨s.n, w.1, w.2.1, w.2.2, s.now.2.1⟩)).map ivD)) := by unfold lOut; rw [h]
def eqH (s s2 : RH) : Bool := decide (s.n = s2.n) && (PyData.eqv (wOpt s.now.1) (wOpt s2.now.1) && (decide (s.now.2.1 = s2.now.2.1) && decide (s.now.2.2 = s2.now.2.2)))
/-- roll == what is a roll or a number -/
def spHEq (K : PySem.W.Frag) (C : Addr) : Sp := fun vs H Q _ => ∃ (a l : Addr) (s : RH) (y : V) (D : Hp), vs = [.ref a, y] ∧ Sb z0 D H ∧ RollH K C D H a l s ∧ ((∃ (b m : Addr) (s2 : RH), y = .ref b ∧ RollH K C D H b m s2 ∧ ∀ D2 H2, Fw z0 D H D2 H2 → Q (.bl (eqH s s2)) H2) ∨ (∃ n : Nat, y = .int n ∧ PySem.W.kitOne K (.type "int") (.ref C) = some false ∧ ∀ D2 H2, Fw z0 D H D2 H2 → Q (.bl false) H2))
/-- Roll(d) -/
def spHInit (K : PySem.W.Frag) (C : Addr) (KD : Nat → Addr) : Sp := fun vs H Q E => ∃ (x dx : Addr) (d : PyData) (v : V) (D : Hp), vs = [.ref x, v] ∧ Sb z0 D H ∧ H x = some (.ins C dx []) ∧ D x = none ∧ Dq K D v d ∧
  ((∃ n : Nat, d = di n ∧ 1 ≤ n ∧ n ≤ 24 ∧ ∀ l D2 H2, H l = none → ChS z0 [x] D H D2 H2 → RollH K C D2 H2 x l ⟨n, (none, [], 0), []⟩ → Q .non H2) ∨ (inB 1 24 d = false ∧ ∀ D2 H2, Fw z0 D H D2 H2 → E (.ref (KD 1)) none H2))
section
variable {P : Program} {w : World} {K : PySem.W.Frag} {mg : Str → Option Value} {base : Heap}
abbrev sRWind : Stmt := clsB (topS 33 /- Roll -/) 3
abbrev nRWind : List Str := ["self", "winding", "girth", "growth", "end"]
theorem scRWind : FnScope nRWind ["self", "winding"] (defScope sRWind) := ⟨rfl, rfl, rfl, by decide +kernel, rfl, by decide +kernel, by decide +kernel⟩
theorem ok_RWind {f : Addr} {fd : FuncData} {C : Addr} (RC : RCls K C) (F : Fun K "wind" "Roll.wind" sRWind f fd) {RE : Addr} {D : Nat → Addr} (KD : Kinds K mg RE D kindW)
    {f0 : Addr} {fd0 : FuncData} (C_is_winding : Can P w K mg base "is_winding" 3 f0 fd0 ["thing"] (spIsWin K))
    {fm0 : Addr} {fdm0 : FuncData} (M_remember : CanM P w K mg base C "remember" 1 fm0 fdm0 ["self"] (spHRem K C D)) :
    FnOk P w K mg base (L2N.CX P w) 4 f fd ["self", "winding"] (spHWind K C D) := by
  refine Fun.okN F scRWind (fun vs H Q E h => spDo_len h fun _ => rfl) (fun cdv A outer s H vs Q E hr h => ?_)
  obtain ⟨a, l, st, x, D', sb, hv, R, ⟨hp, hw⟩, q, qe⟩ := h
  have nd := scRWind.nd
  refine ⟨_, (pss_cons (ps_if (pt_not (pt_val (pcall C_is_winding hr (pa_cons (pv 1) pa_nil)))) (pss_one (L2N.ps_raise rfl (L2N.takes_of rfl rfl rfl rfl) (L2N.pmk_own PySem.F.excBase_ValueError (KD.x 2 (by decide)) (KD.g 2 (by decide)) (KD.k 2 (by decide)) (raises_own (KD.e 2 (by decide)).hs (KD.t 2 (by decide))) rfl))) pss_nil)
    (pss_cons (ps_expr (pmeth0 M_remember RC.cls hr (pv 0)))
    (pss_cons (ps_asg (pv 1) (pg_tup rfl (pgs_cons (pg_name (i := 2) nd rfl (.inl rfl)) (pgs_cons (pg_name (i := 3) nd rfl (.inl rfl)) (pgs_cons (pg_name (i := 4) nd rfl (.inl rfl)) pgs_nil)))))
    (pss_one (ps_fld (pv 0) (pe_tup (pa_cons (pv 2) (pa_cons (pv 3) (pa_cons (pv 4) pa_nil)))) (by rfl)))))), ?_⟩
  have S : LB K z0 [.raw (.ref a), .dat (wArg x), .un, .un, .un] D' H (L2.start nRWind vs) := LB.startB (N := nRWind) sb hv rfl
  cases x with
  | inl d =>
    have hw : isWinD d = false := hw
    refine l_when (q := true) S ((et_notD (et_BD (ed_call (ea_consD (ed_var (d := d) rfl) ea_nilD) sd_isWinR))).is (by rw [hw]; rfl)) (fun _ D1 H1 f1 S1 => ?_) (fun z => by cases z)
    exact qe 2 rfl D1 H1 (ChS.of f1) (R.fw f1)
  | inr w3 =>
  have hw : triOk w3 := hw
  have S : LB K z0 [.raw (.ref a), .dat (wD w3.1 w3.2.1 w3.2.2), .un, .un, .un] D' H (L2.start nRWind vs) := S
  refine l_no S ((et_notD (et_BD (ed_call (ea_consD (ed_var rfl) ea_nilD) sd_isWinR))).is (by rw [win_ok hw]; rfl)) fun D1 H1 f1 S1 => ?_
  have R1 := R.fw f1
  obtain ⟨n1, n2, ne, dx, v1, v2, v3, v4, xs, h1, h2, hp', d1, d2, d3, d4⟩ := id R1
  refine ⟨.ref a, S1.se.raw (i := 0) rfl, a, dx, _, rfl, h1, lk_no (by decide), ?_⟩
  refine ⟨a, l, st, (), D1, S1.sb, .cons rfl .nil, R1, hp, fun dd ed v D2 H2 ch2 R2 _ => ?_, fun i e => by cases e⟩
  have S2 : LB K z0 [.raw (.ref a), .dat (wD w3.1 w3.2.1 w3.2.2), .un, .un, .un] D2 H2 _ := ⟨ch2.sb, S1.se.ex ch2.dx⟩
  refine l_asgG (us := [2, 3, 4]) S2 (ed_var (d := wD w3.1 w3.2.1 w3.2.2) rfl) (eg_tup (egs_cons eg_name (egs_cons eg_name (egs_cons eg_name egs_nil))) rfl) fun σ3 D3 H3 f3 S3 => ?_
  have R3 := R2.fw f3
  refine h_setW (i := 0) (w' := some w3) RC S3 rfl R3 (fun Q' k => (ed_tup (ds := [di w3.1, di w3.2.1, di w3.2.2]) (ea_consD (ed_var rfl) (ea_consD (ed_var rfl) (ea_consD (ed_var rfl) ea_nilD))) (show 3 ≤ 100000 by decide)) σ3 D3 H3 S3.sb S3.se Q' k) fun D4 H4 ch4 R4 S4 => ?_
  exact q .none rfl .non D4 H4 (ChS.twoH R4 (ChS.twoH R3 (ChS.twoH R2 (ChS.of f1) ch2) (ChS.of f3)) ch4) R4 .non
abbrev sRPrick : Stmt := clsB (topS 33 /- Roll -/) 4
abbrev nRPrick : List Str := ["self", "angle", "fresh", "cell"]
theorem scRPrick : FnScope nRPrick ["self", "angle"] (defScope sRPrick) := ⟨rfl, rfl, rfl, by decide +kernel, rfl, by decide +kernel, by decide +kernel⟩
theorem ok_RPrick {f : Addr} {fd : FuncData} {C : Addr} (RC : RCls K C) (F : Fun K "prick" "Roll.prick" sRPrick f fd) {RE : Addr} {D : Nat → Addr} (KD : Kinds K mg RE D kindW) (m_tuple : mg "tuple" = none) (m_sorted : mg "sorted" = none) (m_list : mg "list" = none)
    {f0 : Addr} {fd0 : FuncData} (C_is_angle : Can P w K mg base "is_angle" 3 f0 fd0 ["thing"] (spAngZ K))
    {f1 : Addr} {fd1 : FuncData} (C_pricked : Can P w K mg base "pricked" 2 f1 fd1 ["many", "winding", "angle"] (spPricked K))
    {fm0 : Addr} {fdm0 : FuncData} (M_need_winding : CanN P w K mg base C "need_winding" 1 fm0 fdm0 ["self"] (spHNeed K C D))
    {fm1 : Addr} {fdm1 : FuncData} (M_remember : CanM P w K mg base C "remember" 1 fm1 fdm1 ["self"] (spHRem K C D)) :
    FnOk P w K mg base (L2N.CX P w) 4 f fd ["self", "angle"] (spHPrick K C D) := by
  refine Fun.okN F scRPrick (fun vs H Q E h => spDo_len h fun _ => rfl) (fun cdv A outer s H vs Q E hr h => ?_)
  obtain ⟨a, l, st, x, D', sb, hv, R, hpre, q, qe⟩ := h
  have nd := scRPrick.nd
  have h200 : (2 : Nat) ^ 30 ≤ 2 ^ 200 := Nat.pow_le_pow_right (by decide) (by decide)
  refine ⟨_, (pss_cons (ps_if (pt_not (pt_val (pcall C_is_angle hr (pa_cons (pv 1) pa_nil)))) (pss_one (L2N.ps_raise rfl (L2N.takes_of rfl rfl rfl rfl) (L2N.pmk_own PySem.F.excBase_ValueError (KD.x 0 (by decide)) (KD.g 0 (by decide)) (KD.k 0 (by decide)) (raises_own (KD.e 0 (by decide)).hs (KD.t 0 (by decide))) rfl))) pss_nil)
    (pss_cons (ps_expr (pmN0 M_need_winding RC.cls hr (L2N.passes_call (L2N.takes_of rfl rfl rfl rfl) fun _ _ _ _ h => h) (pv 0)))
    (pss_cons (ps_setLc (i := 2) (own := [("cell", 3)]) (g := (gName 3)) (by rfl) nd rfl rfl (sw_true rfl rfl rfl (by decide +kernel)) (pi_list (pcall C_pricked hr (pa_cons (pe_fld (pv 0) (by rfl)) (pa_cons (pe_fld (pv 0) (by rfl)) (pa_cons (pv 1) pa_nil))))) (blkOk_by (N := nRPrick) (sc := defScope sRPrick) (by decide +kernel)) (fun _ _ _ _ _ => (pg_name (i := 3) nd rfl (.inl rfl))) (fun _ _ _ _ _ => (pts_one (pt_cmpR (show OpR _ (compareOp .NotIn) (rIn K true) from op_notIn_seq) (pv 3) (show PE _ _ (tFld K _ _) from pe_fld (pv 0) (by rfl)) rfl))) (fun _ _ _ _ _ => (pv 3)))
    (pss_cons (ps_expr (pmeth0 M_remember RC.cls hr (pv 0)))
    (pss_cons (ps_fld (pv 0) (pe_callTy call_tuple_of (by rfl) m_tuple PyProof.Rows.boot_tuple (pa_cons (pe_callB cr_sorted (by rfl) m_sorted boot_sorted (pa_cons (pe_op op_cat (pe_callTy call_list_of (by rfl) m_list boot_list (pa_cons (pe_fld (pv 0) (by rfl)) pa_nil)) (pv 2)) pa_nil)) pa_nil)) (by rfl))
    (pss_cons (ps_fldaug (pv 0) pe_int in_add)
    (pss_one (ps_ret (pe_callTy call_tuple_of (by rfl) m_tuple PyProof.Rows.boot_tuple (pa_cons (pv 2) pa_nil)))))))))), ?_⟩
  have S : LB K z0 [.raw (.ref a), .dat (pArg x), .un, .un] D' H (L2.start nRPrick vs) := LB.startB (N := nRPrick) sb hv rfl
  cases x with
  | inl d =>
    have hw : angD d = false := hpre
    refine l_when (q := true) S ((et_notD (et_BD (ed_call (ea_consD (ed_var (d := d) rfl) ea_nilD) (sp_of d trivial)))).is (by show (!angD d) = true; rw [hw]; rfl)) (fun _ D1 H1 f1 S1 => ?_) (fun z => by cases z)
    exact qe 0 rfl D1 H1 (ChS.of f1) (R.fw f1)
  | inr q2 =>
  obtain ⟨hp, hn, hhs, hok, hlt, hb, hgc⟩ := hpre
  have hlt : q2.1 < q2.2 := hlt
  have hb : q2.2 < 2 ^ 30 := hb
  have S : LB K z0 [.raw (.ref a), .dat (td q2), .un, .un] D' H (L2.start nRPrick vs) := S
  refine l_no S ((et_notD (et_BD (ed_call (ea_consD (ed_var rfl) ea_nilD) (sp_of (td q2) trivial)))).is (by show (!angD (td q2)) = false; rw [ang_td hlt hgc]; rfl)) fun D1 H1 f1 S1 => ?_
  have R1 := R.fw f1
  obtain ⟨_, _, _, dx, _, _, _, _, _, h1, _⟩ := id R1
  refine ⟨.ref a, S1.se.raw (i := 0) rfl, a, dx, _, rfl, h1, lk_no (by decide), ?_⟩
  cases hw : st.now.1 with
  | none =>
    refine ⟨a, l, st, (), D1, S1.sb, .cons rfl .nil, R1, trivial, fun dd ed => ?_, fun i ei D2 H2 ch2 R2 => ?_⟩
    · dsimp only at ed
      rw [if_pos hw] at ed
      cases ed
    · dsimp only at ei
      rw [if_pos hw] at ei
      cases ei
      refine qe 3 (p_none hw).2 D2 H2 (ChS.twoH R2 (ChS.of f1) ch2) ?_
      rw [(p_none hw).1]
      exact R2
  | some w3 =>
  have ok : triOk w3 := hok w3 hw
  have ePost := (p_some (q := q2) hw).1
  have eOut := (p_some (q := q2) hw).2
  refine ⟨a, l, st, (), D1, S1.sb, .cons rfl .nil, R1, trivial, fun dd ed v D2 H2 ch2 R2 _ => ?_, fun i ei => by dsimp only at ei; rw [if_neg (by rw [hw]; intro z; cases z)] at ei; cases ei⟩
  have S2 : LB K z0 [.raw (.ref a), .dat (td q2), .un, .un] D2 H2 _ := ⟨ch2.sb, S1.se.ex ch2.dx⟩
  -- fresh
  refine l_fresh (w3 := w3) (q := q2) RC S2 rfl rfl (show 3 < 4 by decide) R2 hw ok hn (by omega) (Nat.lt_of_lt_of_le hb h200) fun σ3 D3 H3 f3 S3 => ?_
  have R3 := R2.fw f3
  have S3 : LB K z0 [.raw (.ref a), .dat (td q2), .dat (.list ((freshH st w3 q2).map di)), .un] D3 H3 σ3 := S3
  obtain ⟨_, _, _, dx3, _, _, _, _, _, h3, _⟩ := id R3
  refine ⟨.ref a, S3.se.raw (i := 0) rfl, a, dx3, _, rfl, h3, lk_no (by decide), ?_⟩
  refine ⟨a, l, st, (), D3, S3.sb, .cons rfl .nil, R3, hp, fun dd ed v D4 H4 ch4 R4 _ => ?_, fun i e => by cases e⟩
  have S4 : LB K z0 [.raw (.ref a), .dat (td q2), .dat (.list ((freshH st w3 q2).map di)), .un] D4 H4 _ := ⟨ch4.sb, S3.se.ex ch4.dx⟩
  have hfl : (freshH st w3 q2).length ≤ 24 := by
    unfold freshH
    have h1 := List.length_filter_le (fun y => !st.now.2.1.contains y) (pricksM st.n w3.1 w3.2.1 w3.2.2 q2.1 q2.2)
    have up : (pricksM st.n w3.1 w3.2.1 w3.2.2 q2.1 q2.2).length ≤ st.n := by
      rw [pricks_made (b := q2.2) (by omega) (by have := ok.1; omega)]
      exact up_le (madeM_up _ _ _ _ _) fun y hy => by obtain ⟨b, _, m⟩ := mem_made.mp hy; exact pricks_lt m
    omega
  -- pierced
  have R4 : RollH K C D4 H4 a l { st with past := st.rows } := R4
  dsimp only
  refine h_setP (i := 0) (hs' := srt (st.now.2.1 ++ freshH st w3 q2)) RC S4 rfl R4 (fun Q' k => ?_) fun D5 H5 ch5 R5 S5 => ?_
  · obtain ⟨_, _, _, dx4, u1, u2, u3, u4, us, hA, _, _, _, _, e3, _⟩ := id R4
    refine ⟨.ref a, S4.se.raw (i := 0) rfl, a, C, dx4, _, u3, rfl, hA, RC.cls, RC.pierced, lk_pierced, ?_⟩
    have e3 : Dq K D4 u3 (.tuple (st.now.2.1.map di)) := e3
    show rListS K [u3] H4 (fun x1 Ha => tVar 2 σ3 Ha fun x2 Hb => rCat x1 x2 Hb fun x3 Hc => rSorted K [x3] Hc fun x4 Hd => rTupS K [x4] Hd Q')
    refine b_lisT [u3] D4 H4 S4.sb (.cons e3 .nil) _ fun x1 Da Ha fa dxa => ?_
    refine ed_var (i := 2) (δ := [.raw (.ref a), .dat (td q2), .dat (.list ((freshH st w3 q2).map di)), .un]) rfl _ Da Ha fa.sb (S4.se.ex fa.dx) _ fun x2 Db Hb fb dxb => ?_
    refine r_catL (by rw [List.length_map, List.length_map]; omega) x1 x2 Db Hb fb.sb (dq_ex fb.dx _ _ dxa) dxb _ fun x3 Dc Hc fc dxc => ?_
    rw [← List.map_append] at dxc
    refine b_sorted (by rw [List.length_append]; omega) [x3] Dc Hc fc.sb (.cons dxc .nil) _ fun x4 Dd Hd fd' dxd => ?_
    refine b_tupL [x4] Dd Hd fd'.sb (.cons dxd .nil) _ fun x5 De He fe dxe => ?_
    exact k x5 De He ((((fa.trans fb).trans fc).trans fd').trans fe) dxe
  refine h_augT (i := 0) RC S5 rfl R5 fun D6 H6 ch6 R6 S6 => ?_
  refine e_ret S6 (ed_cb (ea_consD (ed_var rfl) ea_nilD) b_tupL) fun v D7 H7 f7 dv => ?_
  have R7 := R6.fw f7
  refine q _ eOut v D7 H7 (ChS.twoH R7 (ChS.twoH R6 (ChS.twoH R5 (ChS.twoH R4 (ChS.twoH R3 (ChS.twoH R2 (ChS.of f1) ch2) (ChS.of f3)) ch4) ch5) ch6) (ChS.of f7)) ?_ dv
  rw [ePost]
  have e9 : ({ st with now := (some w3, srt (st.now.2.1 ++ freshH st w3 q2), st.now.2.2 + 1), past := st.rows } : RH) = { { { st with past := st.rows } with now := (st.now.1, srt (st.now.2.1 ++ freshH st w3 q2), st.now.2.2) } with now := (st.now.1, srt (st.now.2.1 ++ freshH st w3 q2), st.now.2.2 + 1) } := by rw [hw]
  rw [e9]
  exact R7
abbrev sRLight : Stmt := clsB (topS 33 /- Roll -/) 8
abbrev nRLight : List Str := ["self"]
theorem scRLight : FnScope nRLight ["self"] (defScope sRLight) := ⟨rfl, rfl, rfl, by decide +kernel, rfl, by decide +kernel, by decide +kernel⟩
theorem ok_RLight {f : Addr} {fd : FuncData} {C : Addr} (RC : RCls K C) (F : Fun K "light" "Roll.light" sRLight f fd) {RE : Addr} {D : Nat → Addr} (KD : Kinds K mg RE D kindW)
    {fx0 : Addr} {fdx0 : FuncData} (C_light_light : Can P w K mg base "light_light" 5 fx0 fdx0 ["many", "winding", "holes"] (spLight K))
    {fm0 : Addr} {fdm0 : FuncData} (M_need_winding : CanN P w K mg base C "need_winding" 1 fm0 fdm0 ["self"] (spHNeed K C D)) :
    FnOk P w K mg base (L2N.CX P w) 6 f fd ["self"] (spHLight K C D) := by
  refine Fun.okN F scRLight (fun vs H Q E h => spDo_len h fun _ => rfl) (fun cdv A outer s H vs Q E hr h => ?_)
  obtain ⟨a, l, st, _, D', sb, hv, R, ⟨hn, hhs, hok⟩, q, qe⟩ := h
  have nd := scRLight.nd
  refine ⟨_, (pss_cons (ps_expr (pmN0 M_need_winding RC.cls hr (L2N.passes_call (L2N.takes_of rfl rfl rfl rfl) fun _ _ _ _ h => h) (pv 0)))
    (pss_one (ps_ret (pcall C_light_light hr (pa_cons (pe_fld (pv 0) (by rfl)) (pa_cons (pe_fld (pv 0) (by rfl)) (pa_cons (pe_fld (pv 0) (by rfl)) pa_nil))))))), ?_⟩
  have S : LB K z0 [.raw (.ref a)] D' H (L2.start nRLight vs) := LB.startB (N := nRLight) sb hv rfl
  obtain ⟨_, _, _, dx, _, _, _, _, _, h1, _⟩ := id R
  refine ⟨.ref a, S.se.raw (i := 0) rfl, a, dx, _, rfl, h1, lk_no (by decide), ?_⟩
  cases hw : st.now.1 with
  | none =>
    refine ⟨a, l, st, (), D', sb, .cons rfl .nil, R, trivial, fun dd ed => ?_, fun i ei D2 H2 ch2 R2 => ?_⟩
    · dsimp only at ed
      rw [if_pos hw] at ed
      cases ed
    · dsimp only at ei
      rw [if_pos hw] at ei
      cases ei
      exact qe 3 (l_none hw) D2 H2 ch2 R2
  | some w3 =>
  have ok := hok w3 hw
  refine ⟨a, l, st, (), D', sb, .cons rfl .nil, R, trivial, fun dd ed v D2 H2 ch2 R2 _ => ?_, fun i ei => by dsimp only at ei; rw [if_neg (by rw [hw]; intro z; cases z)] at ei; cases ei⟩
  have S2 : LB K z0 [.raw (.ref a)] D2 H2 _ := ⟨ch2.sb, S.se.ex ch2.dx⟩
  have R20 := R2
  obtain ⟨n1, n2, ne, dx2, v1, v2, v3, v4, xs, ha, hl, hp', d1, d2, d3, d4⟩ := R2
  rw [hw] at d2
  refine ⟨.ref a, S2.se.raw (i := 0) rfl, a, C, dx2, _, v1, rfl, ha, RC.cls, RC.many, lk_many, .ref a, S2.se.raw (i := 0) rfl, a, C, dx2, _, v2, rfl, ha, RC.cls, RC.wound, lk_wound, .ref a, S2.se.raw (i := 0) rfl, a, C, dx2, _, v3, rfl, ha, RC.cls, RC.pierced, lk_pierced, ?_⟩
  refine sp_of (K := K) (c := z0) (A := Wz.args) (C := Wz.ok) (F := fun x => .list ((litM x.harm).map ivD)) (Wz.mk st.n w3.1 w3.2.1 w3.2.2 st.now.2.1) ⟨hn, ok.1, ok.2.1, ok.2.2.1, hhs⟩ [v1, v2, v3] D2 H2 ch2.sb (.cons d1 (.cons d2 (.cons d3 .nil))) _ (fun u D3 H3 f3 du => ?_) E0
  exact q _ (l_some hw) u D3 H3 (ChS.twoH (R20.fw f3) ch2 (ChS.of f3)) (R20.fw f3) du
abbrev sRBack : Stmt := clsB (topS 33 /- Roll -/) 5
abbrev nRBack : List Str := ["self"]
theorem scRBack : FnScope nRBack ["self"] (defScope sRBack) := ⟨rfl, rfl, rfl, by decide +kernel, rfl, by decide +kernel, by decide +kernel⟩
theorem ok_RBack {f : Addr} {fd : FuncData} {C : Addr} (RC : RCls K C) (F : Fun K "back" "Roll.back" sRBack f fd) {RE : Addr} {D : Nat → Addr} (KD : Kinds K mg RE D kindW) :
    FnOk P w K mg base (L2N.CX P w) 1 f fd ["self"] (spHBack K C D) := by
  refine Fun.okN F scRBack (fun vs H Q E h => spDo_len h fun _ => rfl) (fun cdv A outer s H vs Q E hr h => ?_)
  obtain ⟨a, l, st, _, D', sb, hv, R, _, q, qe⟩ := h
  have nd := scRBack.nd
  have nb : ∀ q : Addr, z0.bag ≠ some q := fun q z => by cases z
  refine ⟨_, (pss_cons (ps_if (pt_not (show PT _ _ (tTr K _) from pt_tr (pe_fld (pv 0) (by rfl)) (by intro _; rfl))) (pss_one (L2N.ps_raise rfl (L2N.takes_of rfl rfl rfl rfl) (L2N.pmk_own PySem.F.excBase_ValueError (KD.x 4 (by decide)) (KD.g 4 (by decide)) (KD.k 4 (by decide)) (raises_own (KD.e 4 (by decide)).hs (KD.t 4 (by decide))) rfl))) pss_nil)
    (pss_one (ps_asg (pe_bm0 PySem.F.plainAttrs_list PySem.F.slot_list_pop PySem.F.type_list_pop mt_pop (pe_fld (pv 0) (by rfl))) (pg_tup rfl (pgs_cons (pg_fld (pv 0)) (pgs_cons (pg_fld (pv 0)) (pgs_cons (pg_fld (pv 0)) pgs_nil))))))), ?_⟩
  have S : LB K z0 [.raw (.ref a)] D' H (L2.start nRBack vs) := LB.startB (N := nRBack) sb hv rfl
  have s0 := S.se.raw (i := 0) rfl
  obtain ⟨n1, n2, ne, dx, v1, v2, v3, v4, xs, h1, h2, hp, d1, d2, d3, d4⟩ := id R
  have hlx := dqa_len hp
  rw [List.length_map] at hlx
  cases hg : st.past.getLast? with
  | none =>
    have e0 : st.past = [] := List.getLast?_eq_none_iff.mp hg
    have ex : xs = [] := List.length_eq_zero_iff.mp (by rw [hlx, e0]; rfl)
    subst ex
    refine ⟨.ref a, s0, a, C, dx, _, .ref l, rfl, h1, RC.cls, RC.past, lk_past, ?_⟩
    refine ⟨false, .inl ⟨[], sq_of h2, rfl⟩, ?_⟩
    dsimp only
    rw [if_pos (by rfl)]
    refine qe 4 (by dsimp only; rw [hg]) D' H (ChS.of (Fw.refl sb)) ?_
    show RollH K C D' H a l (bPost st)
    unfold bPost
    rw [hg]
    exact R
  | some p =>
    obtain ⟨ys, e0⟩ := List.getLast?_eq_some_iff.mp hg
    have hp2 := hp
    rw [e0, List.map_append] at hp2
    obtain ⟨xs0, y, rfl, hp0, dy⟩ := dqa_snoc hp2
    obtain ⟨t, us, rfl, hT, hu⟩ := dq_tup dy
    cases hu with
    | cons e1 hu =>
    cases hu with
    | cons e2 hu =>
    cases hu with
    | cons e3 hu =>
    cases hu
    rename_i u1 u2 u3
    refine ⟨.ref a, s0, a, C, dx, _, .ref l, rfl, h1, RC.cls, RC.past, lk_past, ?_⟩
    refine ⟨true, .inl ⟨_, sq_of h2, by simp⟩, ?_⟩
    dsimp only
    rw [if_neg (by decide)]
    refine ⟨.ref a, s0, a, C, dx, _, .ref l, rfl, h1, RC.cls, RC.past, lk_past, Or.inl ⟨rfl, _, sq_of h2⟩, l, xs0 ++ [.ref t], .ref t, rfl, rfl, h2, by simp, ?_⟩
    rw [List.dropLast_concat]
    have ch1 := Ch.of (o := .lst xs0) (Fw.refl sb) n2 h2 trivial (nb l)
    have h1' : (upd H l (.lst xs0)) a = some (.ins C dx (fsR v1 v2 v3 v4 (.ref l))) := by rw [upd_ne ne]; exact h1
    refine ⟨t, [u1, u2, u3], rfl, ex_t ch1.sb.ex hT, rfl, u1, [u2, u3], rfl, .ref a, s0, a, C, dx, _, rfl, h1', RC.cls, RC.wound, (show 5 < 1000 by decide), ?_⟩
    rw [pf_wound]
    refine ⟨u2, [u3], rfl, .ref a, s0, a, C, dx, _, rfl, upd_same, RC.cls, RC.pierced, (show 5 < 1000 by decide), ?_⟩
    rw [pf_pierced, upd_upd]
    refine ⟨u3, [], rfl, .ref a, s0, a, C, dx, _, rfl, upd_same, RC.cls, RC.times, (show 5 < 1000 by decide), ?_⟩
    rw [pf_times, upd_upd]
    have ch2 := Ch.of (o := .ins C dx (fsR v1 u1 u2 u3 (.ref l))) (Fw.refl ch1.sb) n1 h1' trivial (nb a)
    have e9 : bPost st = { st with now := p, past := ys } := by
      unfold bPost
      rw [hg, e0, List.dropLast_concat]
    have R2 : RollH K C D' (upd (upd H l (.lst xs0)) a (.ins C dx (fsR v1 u1 u2 u3 (.ref l)))) a l { st with now := p, past := ys } := ⟨n1, n2, ne, dx, v1, u1, u2, u3, xs0, upd_same, by rw [upd_ne (Ne.symm ne)]; exact upd_same, hp0, d1, e1, e2, e3⟩
    refine ⟨rfl, q .none (by dsimp only; rw [hg]) .non D' _ (ChS.twoH R2 (ChS.ch ch1 (List.mem_cons_of_mem _ List.mem_cons_self)) (ChS.ch ch2 List.mem_cons_self)) ?_ .non⟩
    show RollH K C D' _ a l (bPost st)
    rw [e9]
    exact R2
abbrev sREq : Stmt := clsB (topS 33 /- Roll -/) 11
abbrev nREq : List Str := ["self", "other"]
theorem scREq : FnScope nREq ["self", "other"] (defScope sREq) := ⟨rfl, rfl, rfl, by decide +kernel, rfl, by decide +kernel, by decide +kernel⟩
theorem ok_REq {f : Addr} {fd : FuncData} {C : Addr} (RC : RCls K C) (F : Fun K "__eq__" "Roll.__eq__" sREq f fd) (m_isinstance : mg "isinstance" = none) (m_Roll : mg "Roll" = some (.ref C)) (TY : RTy K C) :
    FnOk P w K mg base CX0 1 f fd ["self", "other"] (spHEq K C) := by
  refine F.ok scREq (fun vs H Q E h => ?_) (fun cdv A outer s H vs Q E hr h => ?_)
  · obtain ⟨_, _, _, _, _, rfl, _⟩ := h
    rfl
  obtain ⟨a, l, s1, y, D, rfl, sb, R1, q⟩ := h
  have nd := scREq.nd
  refine ⟨_, (pss_one (ps_ret (pe_and (pe_callB call_isi (by rfl) m_isinstance boot_isinstance (pa_cons (pv 1) (pa_cons (pe_glob (v := .ref C) (by rfl) m_Roll rfl) pa_nil))) (pe_and (pe_cmpR op_eq (pe_fld (pv 0) (by rfl)) (pe_fld (pv 1) (by rfl)) (nomark _)) (pe_and (pe_cmpR (op_eqD hr.units) (pe_fld (pv 0) (by rfl)) (pe_fld (pv 1) (by rfl)) (nomark _)) (pe_and (pe_cmpR (op_eqD hr.units) (pe_fld (pv 0) (by rfl)) (pe_fld (pv 1) (by rfl)) (nomark _)) (pe_one (pe_cmpR op_eq (pe_fld (pv 0) (by rfl)) (pe_fld (pv 1) (by rfl)) (nomark _))))))))), ?_⟩
  rcases q with ⟨b, m, s2, rfl, R2, q⟩ | ⟨n, rfl, hk, q⟩
  case inr =>
    have S : LB K z0 [.raw (.ref a), .raw (.int n)] D H (L2.start nREq [.ref a, .int n]) := LB.startB (N := nREq) (ss := [.raw (.ref a), .raw (.int n)]) sb (.cons rfl (.cons rfl .nil)) rfl
    refine ⟨.int n, S.se.raw (i := 1) rfl, ?_⟩
    refine ⟨_, _, .type "int", .ref C, false, rfl, .own C, ty_of (K := K) (d := di n) (dp_ex sb.ex _ _ (dq_dp _ _ (.int _))), hk, false, rfl, ?_⟩
    rw [if_neg (by decide)]
    exact q D H (Fw.refl sb)
  have S : LB K z0 [.raw (.ref a), .raw (.ref b)] D H (L2.start nREq [.ref a, .ref b]) := LB.startB (N := nREq) (ss := [.raw (.ref a), .raw (.ref b)]) sb (.cons rfl (.cons rfl .nil)) rfl
  obtain ⟨n1, n2, ne, dx, v1, v2, v3, v4, xs, ha, hl, hp', d1, d2, d3, d4⟩ := R1
  obtain ⟨m1, m2, me, dy, u1, u2, u3, u4, ys, hb, hm, hq', e1, e2, e3, e4⟩ := R2
  have nbz : ∀ q : Addr, z0.bag ≠ some q := fun q z => by cases z
  have i1 := dq_int d1
  have j1 := dq_int e1
  have i4 := dq_int d4
  have j4 := dq_int e4
  subst i1 j1 i4 j4
  have s0 := S.se.raw (i := 0) rfl
  have t0 := S.se.raw (i := 1) rfl
  refine ⟨.ref b, t0, ?_⟩
  refine ⟨_, _, .ref C, .ref C, true, rfl, .own C, .base (.ins hb RC.cls TY.ha TY.hn TY.htk TY.hm), TY.ty, true, rfl, ?_⟩
  rw [if_pos rfl]
  refine ⟨.ref a, s0, a, C, dx, _, _, rfl, ha, RC.cls, RC.many, lk_many, .ref b, t0, b, C, dy, _, _, rfl, hb, RC.cls, RC.many, lk_many, rfl, _, rfl, ?_⟩
  have en : decide (V.int (s1.n : Int) = V.int (s2.n : Int)) = decide (s1.n = s2.n) := by
    rw [decide_eq_decide, V.int.injEq]
    omega
  have et : decide (V.int (s1.now.2.2 : Int) = V.int (s2.now.2.2 : Int)) = decide (s1.now.2.2 = s2.now.2.2) := by
    rw [decide_eq_decide, V.int.injEq]
    omega
  rw [en]
  cases c1 : decide (s1.n = s2.n) with
  | false =>
    rw [if_neg (by decide)]
    have := q D H (Fw.refl sb)
    unfold eqH at this
    rw [c1] at this
    exact this
  | true =>
  rw [if_pos rfl]
  refine ⟨.ref a, s0, a, C, dx, _, v2, rfl, ha, RC.cls, RC.wound, lk_wound, .ref b, t0, b, C, dy, _, u2, rfl, hb, RC.cls, RC.wound, lk_wound, ?_⟩
  refine ⟨_, _, dp_ex sb.ex _ _ (dq_dp _ _ d2), dp_ex sb.ex _ _ (dq_dp _ _ e2), sh_wOpt _, sh_wOpt _, _, rfl, ?_⟩
  cases c2 : PyData.eqv (wOpt s1.now.1) (wOpt s2.now.1) with
  | false =>
    rw [if_neg (by decide)]
    have := q D H (Fw.refl sb)
    unfold eqH at this
    rw [c1, c2] at this
    exact this
  | true =>
  rw [if_pos rfl]
  refine ⟨.ref a, s0, a, C, dx, _, v3, rfl, ha, RC.cls, RC.pierced, lk_pierced, .ref b, t0, b, C, dy, _, u3, rfl, hb, RC.cls, RC.pierced, lk_pierced, ?_⟩
  refine ⟨_, _, dp_ex sb.ex _ _ (dq_dp _ _ d3), dp_ex sb.ex _ _ (dq_dp _ _ e3), sh_tup _, sh_tup _, _, rfl, ?_⟩
  rw [eqv_tup]
  cases c3 : decide (s1.now.2.1 = s2.now.2.1) with
  | false =>
    rw [if_neg (by decide)]
    have := q D H (Fw.refl sb)
    unfold eqH at this
    rw [c1, c2, c3] at this
    exact this
  | true =>
  rw [if_pos rfl]
  refine ⟨.ref a, s0, a, C, dx, _, _, rfl, ha, RC.cls, RC.times, lk_times, .ref b, t0, b, C, dy, _, _, rfl, hb, RC.cls, RC.times, lk_times, rfl, ?_⟩
  rw [et]
  have := q D H (Fw.refl sb)
  unfold eqH at this
  rw [c1, c2, c3] at this
  exact this
abbrev sRInit : Stmt := clsB (topS 33 /- Roll -/) 0
abbrev nRInit : List Str := ["self", "many"]
theorem scRInit : FnScope nRInit ["self", "many"] (defScope sRInit) := ⟨rfl, rfl, rfl, by decide +kernel, rfl, by decide +kernel, by decide +kernel⟩
theorem ok_RInit {f : Addr} {fd : FuncData} {C : Addr} (RC : RCls K C) (F : Fun K "__init__" "Roll.__init__" sRInit f fd) {RE : Addr} {D : Nat → Addr} (KD : Kinds K mg RE D kindW)
    {f0 : Addr} {fd0 : FuncData} (C_is_strip : Can P w K mg base "is_strip" 3 f0 fd0 ["thing"] (spIsStrip K)) :
    FnOk P w K mg base (L2N.CX P w) 4 f fd ["self", "many"] (spHInit K C D) := by
  refine Fun.okN F scRInit (fun vs H Q E h => ?_) (fun cdv A outer s H vs Q E hr h => ?_)
  · obtain ⟨_, _, _, _, _, rfl, _⟩ := h
    rfl
  obtain ⟨x, dx, d, v, D', rfl, sb, hx, nx, dv, q⟩ := h
  have nd := scRInit.nd
  have nbz : ∀ q : Addr, z0.bag ≠ some q := fun q z => by cases z
  refine ⟨_, (pss_cons (ps_if (pt_not (pt_val (pcall C_is_strip hr (pa_cons (pv 1) pa_nil)))) (pss_one (L2N.ps_raise rfl (L2N.takes_of rfl rfl rfl rfl) (L2N.pmk_own PySem.F.excBase_ValueError (KD.x 1 (by decide)) (KD.g 1 (by decide)) (KD.k 1 (by decide)) (raises_own (KD.e 1 (by decide)).hs (KD.t 1 (by decide))) rfl))) pss_nil)
    (pss_cons (ps_fld (pv 0) (pv 1) (by rfl))
    (pss_cons (ps_fld (pv 0) pe_non (by rfl))
    (pss_cons (ps_fld (pv 0) (pe_tup pa_nil) (by rfl))
    (pss_cons (ps_fld (pv 0) pe_int (by rfl))
    (pss_one (ps_fld (pv 0) (pe_lst pa_nil) (by rfl)))))))), ?_⟩
  rcases q with ⟨n, rfl, hn1, hn2, q⟩ | ⟨hd, q⟩
  case inr =>
    have S : LB K z0 [.raw (.ref x), .dat d] D' H (L2.start nRInit [.ref x, v]) := LB.startB (N := nRInit) (ss := [.raw (.ref x), .dat d]) sb (.cons rfl (.cons dv .nil)) rfl
    refine l_when (q := true) S ((et_notD (et_BD (ed_call (ea_consD (ed_var rfl) ea_nilD) (sp_of d trivial)))).is (by show (!inB 1 24 d) = true; rw [hd]; rfl)) (fun _ D1 H1 f1 S1 => ?_) (fun z => by cases z)
    exact q D1 H1 f1
  have S : LB K z0 [.raw (.ref x), .dat (di n)] D' H (L2.start nRInit [.ref x, v]) := LB.startB (N := nRInit) (ss := [.raw (.ref x), .dat (di n)]) sb (.cons rfl (.cons dv .nil)) rfl
  refine l_no S ((et_notD (et_BD (ed_call (ea_consD (ed_var rfl) ea_nilD) (sp_of (di n) trivial)))).is ?_) fun D1 H1 f1 S1 => ?_
  · show (!(decide ((1 : Int) ≤ (n : Int)) && decide ((n : Int) ≤ 24))) = false
    rw [decide_eq_true (show (1 : Int) ≤ (n : Int) by omega), decide_eq_true (show (n : Int) ≤ 24 by omega)]
    rfl
  have hx1 := f1.keep hx trivial (nbz x)
  have nx1 := f1.off hx nx trivial
  obtain ⟨v1, hv1, dv1⟩ := S1.se.get (i := 1) rfl
  have s0 := S1.se.raw (i := 0) rfl
  have fr : Fr z0 H1 x ∨ True := .inr trivial
  -- many
  refine ⟨v1, hv1, .ref x, s0, x, C, dx, [], rfl, hx1, RC.cls, RC.many, (by decide), ?_⟩
  rw [pf_1]
  have ch1 := Ch.of (o := .ins C dx [(("many" : Str), v1)]) (Fw.refl S1.sb) nx1 hx1 trivial (nbz x)
  -- wound
  refine ⟨.ref x, s0, x, C, dx, _, rfl, upd_same, RC.cls, RC.wound, (show 1 < 1000 by decide), ?_⟩
  rw [pf_2, upd_upd]
  -- pierced
  refine ⟨Nat.zero_le _, fun t ht => ?_⟩
  have ch2 := Ch.of (o := .ins C dx [(("many" : Str), v1), (("wound" : Str), .non)]) (Fw.refl S1.sb) nx1 hx1 trivial (nbz x)
  have ft := Fw.alloc (o := .tup []) ch2.sb ht trivial
  have nxt : x ≠ t := ne_of_none (upd_same (H := H1) (a := x)) ht
  have hx3 := ft.keep (upd_same (H := H1) (a := x) (o := .ins C dx [(("many" : Str), v1), (("wound" : Str), .non)])) trivial (nbz x)
  have nx3 := ft.off (upd_same (H := H1) (a := x) (o := .ins C dx [(("many" : Str), v1), (("wound" : Str), .non)])) nx1 trivial
  refine ⟨.ref x, s0, x, C, dx, _, rfl, hx3, RC.cls, RC.pierced, (show 2 < 1000 by decide), ?_⟩
  rw [pf_3]
  -- times
  refine ⟨.ref x, s0, x, C, dx, _, rfl, upd_same, RC.cls, RC.times, (show 3 < 1000 by decide), ?_⟩
  rw [pf_4, upd_upd]
  -- past
  refine ⟨Nat.zero_le _, fun l hl => ?_⟩
  have ch4 := Ch.of (o := .ins C dx [(("many" : Str), v1), (("wound" : Str), .non), (("pierced" : Str), .ref t), (("times" : Str), .int 0)]) (Fw.refl ft.sb) nx3 hx3 trivial (nbz x)
  have fl := Fw.made (o := .lst []) ch4.sb hl
  have nxl : x ≠ l := ne_of_none (upd_same (a := x)) hl
  have hx5 := fl.keep (upd_same (a := x) (o := .ins C dx [(("many" : Str), v1), (("wound" : Str), .non), (("pierced" : Str), .ref t), (("times" : Str), .int 0)])) trivial (nbz x)
  refine ⟨.ref x, s0, x, C, dx, _, rfl, hx5, RC.cls, RC.past, (show 4 < 1000 by decide), ?_⟩
  rw [pf_5]
  have nDl : (upd D1 t (.tup [])) l = none := ch4.sb.free hl
  have ch6 := Ch.of (o := .ins C dx (fsR v1 .non (.ref t) (.int 0) (.ref l))) (Fw.refl fl.sb) nx3 hx5 trivial (nbz x)
  have hl0 : H l = none := by
    cases hz : H l with
    | none => rfl
    | some o =>
      exfalso
      have h1 := f1.hx l o hz (.inl rfl) (nbz l)
      have h2 := ch2.hx l o (Ne.symm nxl) h1 (.inl rfl) (nbz l)
      have h3 := ft.hx l o h2 (.inl rfl) (nbz l)
      have h4 := ch4.hx l o (Ne.symm nxl) h3 (.inl rfl) (nbz l)
      rw [hl] at h4
      cases h4
  have off : ∀ a ∈ [x], ∀ o, H a = some o → D' a = none → Mu o → (upd D1 t (.tup [])) a = none := fun a ha o _ _ _ => by rw [List.mem_singleton.mp ha]; exact nx3
  have off1 : ∀ a ∈ [x], ∀ o, H a = some o → D' a = none → Mu o → D1 a = none := fun a ha o _ _ _ => by rw [List.mem_singleton.mp ha]; exact nx1
  have c12 : ChS z0 [x] D' H D1 _ := (ChS.of f1).trans (ChS.ch ch2 List.mem_cons_self) off1
  have c13 := c12.trans (ChS.of ft) off
  have c14 := c13.trans (ChS.ch ch4 List.mem_cons_self) off
  have c15 := c14.trans (ChS.of fl) off
  have c16 := c15.trans (ChS.ch ch6 List.mem_cons_self) off
  refine q l _ _ hl0 c16 ⟨nx3, nDl, nxl, dx, v1, .non, .ref t, .int 0, [], upd_same, ?_, .nil, dq_ex ft.dx _ _ dv1, .non, .tup (st_of upd_same) .nil, .int 0⟩
  rw [upd_ne (Ne.symm nxl)]
  exact upd_same
end
end Nr
namespace Nr
open PySem PySem.Spec PyProof.Rows L2 Evl
theorem whole_bool (z : PyData) : (!(wholeD z || isBoolD z) || isBoolD z) = !wholeD z := by cases z <;> rfl
def angSm (d : PyData) : Prop := (∀ i j, d = .tuple [.int i, .int j] → j < 2 ^ 200)
theorem low_one {a b : Nat} (hb : 0 < b) : decide ((a / Nat.gcd a b, b / Nat.gcd a b) = (a, b)) = decide (Nat.gcd a b = 1) := by
  rw [decide_eq_decide]
  constructor
  · intro e
    have e2 : b / Nat.gcd a b = b := congrArg Prod.snd e
    rcases Nat.div_eq_self.mp e2 with z | z
    · omega
    · exact z
  · intro e
    rw [e, Nat.div_one, Nat.div_one]
section
variable {K : PySem.W.Frag} {c : Md} {δ : List Sl} {te ta tb : TE} {tt : TT} {d : PyData} {C : PyData → Prop}
theorem ED.en (h : ED K c te δ d) : EN K c te δ (· = d) := fun σ D H s e Q q => h σ D H s e _ fun v D2 H2 f dv => q v d D2 H2 f rfl dv
theorem en_if {p : Bool} (ht : ET K c tt δ p) (h1 : p = true → EN K c ta δ C) (h2 : p = false → EN K c tb δ C) : EN K c (tIf tt ta tb) δ C := fun σ D H s e Q q =>
  ht σ D H s e _ fun D1 H1 f1 => by
    cases p with
    | true => exact h1 rfl σ D1 H1 f1.sb (e.ex f1.dx) _ fun v d D2 H2 f2 hc dv => q v d D2 H2 (f1.trans f2) hc dv
    | false => exact h2 rfl σ D1 H1 f1.sb (e.ex f1.dx) _ fun v d D2 H2 f2 hc dv => q v d D2 H2 (f1.trans f2) hc dv
end
/-! deeds -/
def oddL : List PyData := [.none, .int 5, .tuple [.int 1, .int 1], .tuple [.int 2, .int 4], .tuple [.int 0, .int 2], .tuple [.int (-1), .int 3], .tuple [.bool true, .int 2], .tuple [.int 1, .bool true], .tuple [.int 1, .int 2, .int 3], .list [.int 1, .int 2], .tuple [.int 4, .int 0, .int 2], .str "a", .tuple [.int 0, .int 0], .tuple []]
theorem odd_all {Pq : PyData → Prop} (h : Pq .none ∧ Pq (.int 5) ∧ Pq (.tuple [.int 1, .int 1]) ∧ Pq (.tuple [.int 2, .int 4]) ∧ Pq (.tuple [.int 0, .int 2]) ∧ Pq (.tuple [.int (-1), .int 3]) ∧ Pq (.tuple [.bool true, .int 2]) ∧ Pq (.tuple [.int 1, .bool true]) ∧ Pq (.tuple [.int 1, .int 2, .int 3]) ∧ Pq (.list [.int 1, .int 2]) ∧ Pq (.tuple [.int 4, .int 0, .int 2]) ∧ Pq (.str "a") ∧ Pq (.tuple [.int 0, .int 0]) ∧ Pq (.tuple [])) : ∀ o ∈ oddL, Pq o := by
  intro o ho
  unfold oddL at ho
  simp only [List.mem_cons, List.not_mem_nil, or_false] at ho
  obtain ⟨h1, h2, h3, h4, h5, h6, h7, h8, h9, h10, h11, h12, h13, h14⟩ := h
  rcases ho with rfl | rfl | rfl | rfl | rfl | rfl | rfl | rfl | rfl | rfl | rfl | rfl | rfl | rfl <;> assumption
theorem odd_no : ∀ o ∈ oddL, isWinD o = false ∧ angD o = false := odd_all (by
  refine ⟨?_, ?_, ?_, ?_, ?_, ?_, ?_, ?_, ?_, ?_, ?_, ?_, ?_, ?_⟩ <;> exact ⟨by decide +kernel, by decide +kernel⟩)
theorem odd_sm : ∀ o ∈ oddL, angSm o := odd_all (by
  refine ⟨?_, ?_, ?_, ?_, ?_, ?_, ?_, ?_, ?_, ?_, ?_, ?_, ?_, ?_⟩ <;> (intro i j e; first | (cases e; decide) | cases e))
inductive Deed where
  | back
  | light
  | wind (x : PyData ⊕ (Nat × Nat × Nat))
  | prick (x : PyData ⊕ (Nat × Nat))
def deedD : Deed → PyData
  | .back => .tuple [.str "back"]
  | .light => .tuple [.str "light"]
  | .wind x => .tuple [.str "wind", wArg x]
  | .prick x => .tuple [.str "prick", pArg x]
def deedOk : Deed → Prop
  | .back => True
  | .light => True
  | .wind (.inl d) => d ∈ oddL
  | .wind (.inr w) => triOk w
  | .prick (.inl d) => d ∈ oddL
  | .prick (.inr q) => q.1 < q.2 ∧ q.2 ≤ 1000 ∧ Nat.gcd q.1 q.2 = 1
section
variable {P : Program} {w : World} {K : PySem.W.Frag} {mg : Str → Option Value} {base : Heap}
abbrev sLAng : Stmt := topS 46 /- _law_is_angle -/
abbrev nLAng : List Str := ["thing", "one"]
theorem scLAng : FnScope nLAng ["thing"] (defScope sLAng) := ⟨rfl, rfl, rfl, by decide +kernel, rfl, by decide +kernel, by decide +kernel⟩
def spLAng (K : PySem.W.Frag) : Sp := spF K (fun d : PyData => [d]) angSm fun d => .bool (angD d)
theorem ok_LAng {f : Addr} {fd : FuncData} (F : Fun K "_law_is_angle" "_law_is_angle" sLAng f fd) (m_len : mg "len" = none) (m_isinstance : mg "isinstance" = none) (m_tuple : mg "tuple" = none) (m_bool : mg "bool" = none) (m_int : mg "int" = none)
    {f0 : Addr} {fd0 : FuncData} (C__law_lowest : Can P w K mg base "_law_lowest" 1 f0 fd0 ["top", "bottom"] spLow2) :
    FnOk P w K mg base CX0 2 f fd ["thing"] (spLAng K) := by
  refine F.ok scLAng (fun vs H Q E h => spF_len h fun _ => rfl) (fun cdv A outer s H vs Q E hr h => ?_)
  obtain ⟨d, D, sb', hv, sm, q⟩ := h
  have nd := scLAng.nd
  refine ⟨_, (pss_cons (ps_if (PW.pt (pw_or (pt_not (pt_val (pe_callB call_isi (by rfl) m_isinstance boot_isinstance (pa_cons (pv 0) (pa_cons (pe_bltn (v := .ty "tuple") (by rfl) m_tuple PyProof.Rows.boot_tuple rfl) pa_nil))))) (pw_or1 (pt_cmpR op_ne (pe_callB call_len_seq (by rfl) m_len PySem.boot_len (pa_cons (pv 0) pa_nil)) pe_int (nomark _))))) (pss_one (ps_ret pe_bl)) pss_nil)
    (pss_cons (ps_if (pt_cmpR (op_neD hr.units) (pe_lc (own := [("one", 1)]) (g := (gName 1)) (by rfl) nd (pi_tup (pv 0)) (blkOk_by (N := nLAng) (sc := defScope sLAng) (by decide +kernel)) (fun _ _ _ _ _ => (pg_name (i := 1) nd rfl (.inl rfl))) (fun _ _ _ _ _ => (pts_one (PW.pt (pw_or (pt_not (pt_val (pe_callB (show CallR _ (.builtin "isinstance") (rIsi K) from call_isi) (by rfl) m_isinstance boot_isinstance (pa_cons (pv 1) (pa_cons (pe_bltn (v := .ty "int") (by rfl) m_int boot_int rfl) pa_nil))))) (pw_or1 (pt_val (pe_callB (show CallR _ (.builtin "isinstance") (rIsi K) from call_isi) (by rfl) m_isinstance boot_isinstance (pa_cons (pv 1) (pa_cons (pe_bltn (v := .ty "bool") (by rfl) m_bool boot_bool rfl) pa_nil))))))))) (fun _ _ _ _ _ => pe_int)) (pe_lst pa_nil) (nomark _)) (pss_one (ps_ret pe_bl)) pss_nil)
    (pss_one (ps_ret (pe_and (pe_chain op_le op_lt pe_int (pe_ix ix_tup (pv 0) pe_int (fun _ _ => rfl)) (pe_ix ix_tup (pv 0) pe_int (fun _ _ => rfl))) (pe_one (pe_cmpR (op_eqD hr.units) (pcall C__law_lowest hr (pa_cons (pe_ix ix_tup (pv 0) pe_int (fun _ _ => rfl)) (pa_cons (pe_ix ix_tup (pv 0) pe_int (fun _ _ => rfl)) pa_nil))) (pv 0) (nomark _)))))))), RD.go sb' hv rfl ?_ q⟩
  by_cases hd : ∃ x y, d = .tuple [x, y]
  · obtain ⟨x, y, rfl⟩ := hd
    refine rd_when (p := false) ((et_orD (et_notD (et_BD (ed_isi (ed_var rfl) (kit_tup _)))) (fun _ => et_testD (ed_op (ed_cb (ea_consD (ed_var rfl) ea_nilD) b_lenT) ed_int r_neI))).is rfl) (fun z => by cases z) fun _ => ?_
    have sh : ∀ L : List PyData, SeqAt.shaped (.list (L.map fun _ => di 1)) = true := fun L => (shp_list (f := fun _ : PyData => di 1) (fun _ => shp_int 0 _) L).ok (by decide)
    refine rd_when (p := !([x, y].filter fun z => !wholeD z).isEmpty) ((et_testD (ed_op (ed_lc (L := [x, y]) (enc := fun z => z) (fun z => !wholeD z) (fun _ => di 1) (ei_tup (ed_var rfl)) (fun z hz => eg_name) (fun z hz => (et_orD (et_notD (et_BD (ed_isi (ed_var rfl) (kit_int z)))) (fun _ => et_BD (ed_isi (ed_var rfl) (kit_bool z)))).is (whole_bool z)) (fun z hz _ => ed_int) (by decide) (by show 2 ≤ 50000; decide)) (ed_lst ea_nilD) (r_neD (sh _) (by decide)))).is (by rw [eqv_nil])) (fun hp => ?_) (fun hp => ?_)
    · refine RD.is (d := .bool false) (rd_ret ed_bl) ?_
      show PyData.bool false = .bool (angD (.tuple [x, y]))
      rw [ang_no fun i j e => ?_]
      cases e
      cases hp
    · have hx : ∃ i, x = .int i := by
        cases x with
        | int i => exact ⟨i, rfl⟩
        | _ => cases hp
      obtain ⟨i, rfl⟩ := hx
      have hy : ∃ j, y = .int j := by
        cases y with
        | int j => exact ⟨j, rfl⟩
        | _ => cases hp
      obtain ⟨j, rfl⟩ := hy
      by_cases hij : 0 ≤ i ∧ i < j
      · obtain ⟨a, rfl⟩ : ∃ a : Nat, i = a := ⟨i.toNat, by omega⟩
        obtain ⟨b, rfl⟩ : ∃ b : Nat, j = b := ⟨j.toNat, by omega⟩
        have hb : 0 < b := by omega
        have hb2 : b < 2 ^ 200 := by
          have := sm _ _ rfl
          exact_mod_cast this
        refine (rd_ret (ed_andV (ed_chain ed_int (ed_op (ed_var rfl) ed_int (r_ixT (d := di a) (i := 0) rfl)) r_I0b (fun _ => ed_op (ed_var rfl) ed_int (r_ixT (d := di b) (i := 1) rfl)) (fun _ => r_I0b)) (fun _ => ed_op (ed_call (ea_consD (ed_op (ed_var rfl) ed_int (r_ixT (d := di a) (i := 0) rfl)) (ea_consD (ed_op (ed_var rfl) ed_int (r_ixT (d := di b) (i := 1) rfl)) ea_nilD)) (sd_low2 hb hb2)) (ed_var (d := td (a, b)) rfl) (r_eqD (sh_td _) (sh_td _))))).is ?_
        show PyData.bool ((decide ((0 : Int) ≤ (a : Int)) && decide ((a : Int) < (b : Int))) && PyData.eqv (td (a / Nat.gcd a b, b / Nat.gcd a b)) (td (a, b))) = .bool (decide ((1 : Int) ≤ (b : Int)) && decide (Nat.gcd ((a : Int) % (b : Int)).toNat (b : Int).toNat = 1) && (decide ((0 : Int) ≤ (a : Int)) && decide ((a : Int) < (b : Int))))
        have e : ((a : Int) % (b : Int)).toNat = a := by
          rw [Int.emod_eq_of_lt (by omega) (by omega)]
          rfl
        rw [eqv_td, low_one hb, e, Int.toNat_natCast, decide_eq_true (show (1 : Int) ≤ (b : Int) by omega), decide_eq_true hij.1, decide_eq_true hij.2, Bool.true_and, Bool.true_and, Bool.and_true]
      · have hf : (decide ((0 : Int) ≤ i) && decide (i < j)) = false := by
          by_cases h0 : 0 ≤ i
          · rw [decide_eq_false (show ¬ i < j from fun z => hij ⟨h0, z⟩), Bool.and_false]
          · rw [decide_eq_false h0, Bool.false_and]
        refine (rd_ret (ed_andV (p := false) (q := false) ((ed_chain ed_int (ed_op (ed_var rfl) ed_int (r_ixT (d := .int i) (i := 0) rfl)) r_I0b (fun _ => ed_op (ed_var rfl) ed_int (r_ixT (d := .int j) (i := 1) rfl)) (fun _ => r_I0b)).is (by show PyData.bool (decide ((0 : Int) ≤ i) && decide (i < j)) = _; rw [hf])) (fun z => by cases z))).is ?_
        show PyData.bool false = .bool (fracD (.tuple [.int i, .int j]) && (decide (0 ≤ i) && decide (i < j)))
        rw [hf, Bool.and_false]
  · refine RD.is (d := .bool false) ?_ (by show PyData.bool false = .bool (angD d); rw [ang_no fun i j e => hd ⟨_, _, e⟩])
    refine rd_when (p := true) ?_ (fun _ => rd_ret ed_bl) (fun z => by cases z)
    cases d with
    | tuple ds =>
      refine (et_orD (et_notD (et_BD (ed_isi (ed_var rfl) (kit_tup _)))) (fun _ => et_testD (ed_op (ed_cb (ea_consD (ed_var rfl) ea_nilD) b_lenT) ed_int r_neI))).is ?_
      have : ds.length ≠ 2 := fun z => by
        match ds, z, hd with
        | [x, y], _, hd => exact hd ⟨x, y, rfl⟩
      show (false || !decide ((ds.length : Int) = 2)) = true
      rw [decide_eq_false (by omega)]
      rfl
    | _ => exact (et_orD (q := false) (et_notD (et_BD (ed_isi (ed_var rfl) (kit_tup _)))) (fun z => by cases z)).is rfl
theorem spB_len {α : Type} {A : α → List PyData} {C : α → Prop} {F : α → PyData → Prop} {vs : List V} {H : Hp} {Q : VK} {E : XK} {k : Nat} (h : spB K A C F vs H Q E) (hk : ∀ x, (A x).length + 1 = k) : vs.length = k := by
  obtain ⟨p, x, D, _, hv, _⟩ := h
  rw [as_len hv, List.length_cons, List.length_map, hk]
abbrev sADeed : Stmt := topS 48 /- _law_a_deed -/
abbrev nADeed : List Str := ["bag", "way", "odd"]
theorem scADeed : FnScope nADeed ["bag"] (defScope sADeed) := ⟨rfl, rfl, rfl, by decide +kernel, rfl, by decide +kernel, by decide +kernel⟩
def spADeed (K : PySem.W.Frag) : Sp := spB K (fun _ : Unit => []) (fun _ => True) fun _ d => ∃ x, deedOk x ∧ x ≠ .light ∧ d = deedD x
theorem ok_ADeed {f : Addr} {fd : FuncData} (F : Fun K "_law_a_deed" "_law_a_deed" sADeed f fd)
    {f0 : Addr} {fd0 : FuncData} (C__law_take : Can P w K mg base "_law_take" 1 f0 fd0 ["bag", "count"] spTake)
    {f1 : Addr} {fd1 : FuncData} (C__law_winding : Can P w K mg base "_law_winding" 3 f1 fd1 ["bag"] (spWind K))
    {f2 : Addr} {fd2 : FuncData} (C__law_angle : Can P w K mg base "_law_angle" 3 f2 fd2 ["bag"] (spAngle K))
    {f3 : Addr} {fd3 : FuncData} (C__law_of : Can P w K mg base "_law_of" 2 f3 fd3 ["bag", "some"] (spOf K)) :
    FnOk P w K mg base CX0 4 f fd ["bag"] (spADeed K) := by
  refine F.ok scADeed (fun vs H Q E h => spB_len h fun _ => rfl) (fun cdv A outer s H vs Q E hr h => ?_)
  obtain ⟨p, _, D, sb, hv, _, q⟩ := h
  have nd := scADeed.nd
  refine ⟨_, (pss_cons (ps_set (i := 1) nd rfl (.inl rfl) (pcall C__law_take hr (pa_cons (pv 0) (pa_cons pe_int pa_nil))))
    (pss_cons (ps_set (i := 2) nd rfl (.inl rfl) (pe_lst (pa_cons pe_non (pa_cons pe_int (pa_cons (pe_tup (pa_cons pe_int (pa_cons pe_int pa_nil))) (pa_cons (pe_tup (pa_cons pe_int (pa_cons pe_int pa_nil))) (pa_cons (pe_tup (pa_cons pe_int (pa_cons pe_int pa_nil))) (pa_cons (pe_tup (pa_cons (pe_un un_neg pe_int) (pa_cons pe_int pa_nil))) (pa_cons (pe_tup (pa_cons pe_bl (pa_cons pe_int pa_nil))) (pa_cons (pe_tup (pa_cons pe_int (pa_cons pe_bl pa_nil))) (pa_cons (pe_tup (pa_cons pe_int (pa_cons pe_int (pa_cons pe_int pa_nil)))) (pa_cons (pe_lst (pa_cons pe_int (pa_cons pe_int pa_nil))) (pa_cons (pe_tup (pa_cons pe_int (pa_cons pe_int (pa_cons pe_int pa_nil)))) (pa_cons pe_str pa_nil))))))))))))))
    (pss_cons (ps_set (i := 2) nd rfl (.inl rfl) (pe_op op_cat (pv 2) (pe_lst (pa_cons (pe_tup (pa_cons pe_int (pa_cons pe_int pa_nil))) (pa_cons (pe_tup pa_nil) pa_nil)))))
    (pss_cons (ps_if (pt_cmpR op_lt (pv 1) pe_int (nomark _)) (pss_one (ps_ret (pe_tup (pa_cons pe_str (pa_cons (pcall C__law_winding hr (pa_cons (pv 0) pa_nil)) pa_nil))))) pss_nil)
    (pss_cons (ps_if (pt_cmpR op_lt (pv 1) pe_int (nomark _)) (pss_one (ps_ret (pe_tup (pa_cons pe_str (pa_cons (pcall C__law_angle hr (pa_cons (pv 0) pa_nil)) pa_nil))))) pss_nil)
    (pss_one (ps_ret (pe_ifExp (pt_cmpR op_lt (pv 1) pe_int (nomark _)) (pe_tup (pa_cons (pcall C__law_of hr (pa_cons (pv 0) (pa_cons (pe_lst (pa_cons pe_str (pa_cons pe_str pa_nil))) pa_nil))) (pa_cons (pcall C__law_of hr (pa_cons (pv 0) (pa_cons (pv 2) pa_nil))) pa_nil))) (pe_tup (pa_cons pe_str pa_nil)))))))))), ?_⟩
  have S : LB K ⟨none, some p⟩ [.raw (.ref p), .un, .un] D H (L2.start nADeed vs) := LB.startB sb hv rfl
  have two : ∀ {δ : List Sl} {a b : Int}, ED K ⟨none, some p⟩ (tTup (tCons (tC (.int a)) (tCons (tC (.int b)) tNil))) δ (.tuple [.int a, .int b]) := fun {δ a b} => ed_tup (ea_consD ed_int (ea_consD ed_int ea_nilD))
  refine l_asgN S (en_call (eas_raw rfl (eas_dat ed_int eas_nil)) (sn_take rfl (n := 9) (by decide) (by decide))) fun dw σ1 D1 H1 hw f1 S1 => ?_
  obtain ⟨r, hr9, rfl⟩ := hw
  refine l_asg S1 (ed_lst (ea_consD ed_non (ea_consD ed_int (ea_consD two (ea_consD two (ea_consD two (ea_consD (ed_tup (ea_consD (ed_neg ed_int) (ea_consD ed_int ea_nilD))) (ea_consD (ed_tup (ea_consD ed_bl (ea_consD ed_int ea_nilD))) (ea_consD (ed_tup (ea_consD ed_int (ea_consD ed_bl ea_nilD))) (ea_consD (ed_tup (ea_consD ed_int (ea_consD ed_int (ea_consD ed_int ea_nilD)))) (ea_consD (ed_lst (ea_consD ed_int (ea_consD ed_int ea_nilD))) (ea_consD (ed_tup (ea_consD ed_int (ea_consD ed_int (ea_consD ed_int ea_nilD)))) (ea_consD ed_str ea_nilD))))))))))))) fun σ2 D2 H2 f2 S2 => ?_
  refine l_asg (d := .list oddL) S2 ((ed_op (ed_var rfl) (ed_lst (ea_consD two (ea_consD (ed_tup ea_nilD) ea_nilD))) (r_catL (by show 14 ≤ 100000; decide))).is rfl) fun σ3 D3 H3 f3 S3 => ?_
  have S3 : LB K ⟨none, some p⟩ [.raw (.ref p), .dat (di r), .dat (.list oddL)] D3 H3 σ3 := S3
  have f03 := (f1.trans f2).trans f3
  refine l_when (q := decide ((r : Int) < 2)) S3 (et_testD (ed_op (ed_var rfl) ed_int r_I0b)) (fun hq D4 H4 f4 S4 => ?_) (fun hq D4 H4 f4 S4 => ?_)
  · refine (en_tup2 (ED.en (d := .str "wind") ed_str) (en_call (eas_raw rfl eas_nil) (sn_wind rfl))) σ3 D4 H4 S4.sb S4.se _ fun v d D5 H5 f5 hc dv => q v d D5 H5 ((f03.trans f4).trans f5) ?_ dv
    obtain ⟨_, _, rfl, ⟨g, h, e, h1, h2, h3, h4, rfl⟩, rfl⟩ := hc
    exact ⟨.wind (.inr (g, h, e)), ⟨h1, h2, h3, h4⟩, (fun z => by cases z), rfl⟩
  refine l_when (q := decide ((r : Int) < 6)) S4 (et_testD (ed_op (ed_var rfl) ed_int r_I0b)) (fun hq2 D5 H5 f5 S5 => ?_) (fun hq2 D5 H5 f5 S5 => ?_)
  · refine (en_tup2 (ED.en (d := .str "prick") ed_str) (en_call (eas_raw rfl eas_nil) (sn_angle rfl))) σ3 D5 H5 S5.sb S5.se _ fun v d D6 H6 f6 hc dv => q v d D6 H6 (((f03.trans f4).trans f5).trans f6) ?_ dv
    obtain ⟨_, _, rfl, ⟨t, b, h1, h2, h3, rfl⟩, rfl⟩ := hc
    exact ⟨.prick (.inr (t, b)), ⟨h1, h2, h3⟩, (fun z => by cases z), rfl⟩
  refine (en_if (C := fun d => ∃ x, deedOk x ∧ x ≠ .light ∧ d = deedD x) (p := decide ((r : Int) < 8)) (et_testD (ed_op (ed_var rfl) ed_int r_I0b)) (fun _ => ?_) (fun _ => ?_)) σ3 D5 H5 S5.sb S5.se _ fun v d D6 H6 f6 hc dv => q v d D6 H6 (((f03.trans f4).trans f5).trans f6) hc dv
  · intro σ D H s e Q k
    refine (en_tup2 (en_call (eas_raw rfl (eas_dat (ed_lst (ds := [.str "wind", .str "prick"]) (ea_consD ed_str (ea_consD ed_str ea_nilD))) eas_nil)) (sn_of rfl (by simp) (by show 2 ≤ 1000; decide))) (en_call (eas_raw rfl (eas_dat (ed_var rfl) eas_nil)) (sn_of rfl (by unfold oddL; simp) (by show 14 ≤ 1000; decide)))) σ D H s e Q fun v d D2 H2 f hc dv => k v d D2 H2 f ?_ dv
    obtain ⟨d1, d2, h1, h2, rfl⟩ := hc
    rcases List.mem_cons.mp h1 with rfl | h1
    · exact ⟨.wind (.inl d2), h2, (fun z => by cases z), rfl⟩
    · rw [List.mem_singleton.mp h1]
      exact ⟨.prick (.inl d2), h2, (fun z => by cases z), rfl⟩
  · intro σ D H s e Q k
    exact (ed_tup (ds := [.str "back"]) (ea_consD ed_str ea_nilD)) σ D H s e Q fun v D2 H2 f dv => k v _ D2 H2 f ⟨.back, trivial, (fun z => by cases z), rfl⟩ dv
end
end Nr
namespace Nr
open PySem PySem.Spec PyProof.Rows L2 Evl
def dPost (s : RH) : Deed → RH
  | .back => bPost s
  | .light => s
  | .wind x => wPost s x
  | .prick x => pPost s x
def bOut (s : RH) : PyData ⊕ Nat := match s.past.getLast? with
  | none => .inr 4
  | some _ => .inl .none
def dOut (s : RH) : Deed → PyData ⊕ Nat
  | .back => bOut s
  | .light => lOut s
  | .wind x => wOut x
  | .prick x => pOut s x
def outD : PyData ⊕ Nat → PyData
  | .inl d => d
  | .inr i => .str (kindW i)
/-- what a roll keeps to -/
structure RH.ok (s : RH) : Prop where
  n : s.n ≤ 24
  hs : s.now.2.1.length ≤ 24
  w : ∀ w, s.now.1 = some w → triOk w
  p : s.past.length < 900
section
variable {K : PySem.W.Frag} {c : Md} {D H : Hp} {p : Addr} {ds : List PyData} {d : PyData}
theorem r_eqS {i j : Str} : R2D K c rEq (.str i) (.str j) (.bool (decide (i = j))) := fun x y D H s hx hy Q q => by
  cases hx
  cases hy
  refine ⟨rfl, ?_⟩
  rw [show decide (V.str i = V.str j) = decide (i = j) by rw [decide_eq_decide, V.str.injEq]]
  exact q _ D H (Fw.refl s) (.bl _)
/-- a list by what stands last in it -/
def LastAt (K : PySem.W.Frag) (D H : Hp) (p : Addr) (d : PyData) : Prop := ∃ xs0 y, SqL K H p (xs0 ++ [y]) ∧ Dq K D y d
theorem Acc.last (A : Acc K D H p (ds ++ [d])) : LastAt K D H p d := by
  obtain ⟨n, xs, h, hd⟩ := A
  obtain ⟨xs0, y, rfl, _, dy⟩ := dqa_snoc hd
  exact ⟨xs0, y, sq_of h, dy⟩
theorem at_last {Q : VK} (A : LastAt K D H p d) (k : ∀ v, Dq K D v d → Q v H) : rIxL K (.ref p) (.int (-1)) H Q := by
  obtain ⟨xs0, y, h, dy⟩ := A
  exact ⟨p, xs0 ++ [y], -1, y, rfl, rfl, h, atI_last _ _, k y dy⟩
/-- a, b, .. = rows[-1] -/
theorem l_last {δ δ2 : List Sl} {g : TG} {us : List Nat} {σ : L2.St} {En : Ends} {tz : TS} {i : Nat} (S : LB K c δ D H σ) (hi : δ[i]? = some (.raw (.ref p))) (A : LastAt K D H p d) (hg : EG K c g d δ δ2 us)
    (k : ∀ σ2, LB K c δ2 D H σ2 → tz En σ2 H) : tSeq (tAsg (tOp (rIxL K) (tVar i) (tUn (rU fun i => .int (-i)) (tC (.int 1)))) g) tz En σ H :=
  ⟨.ref p, S.se.raw hi, 1, rfl, at_last A fun v dv => hg v σ D H S.sb S.se dv _ fun σ2 e2 _ _ => k σ2 ⟨S.sb, e2⟩⟩
end
def spDue (K : PySem.W.Frag) : Sp := fun vs H Q _ => ∃ (r : Addr) (s : RH) (x : Deed) (D : Hp), Sb z0 D H ∧ AS K D vs [.dat (di s.n), .raw (.ref r), .dat (deedD x)] ∧ Acc K D H r (s.rows.map pstD) ∧ s.ok ∧ deedOk x ∧ x ≠ .light ∧
  ∀ v D2 H2, ChS z0 [r] D H D2 H2 → Acc K D2 H2 r ((dPost s x).rows.map pstD) → Dq K D2 v (outD (dOut s x)) → Q v H2
section
variable {P : Program} {w : World} {K : PySem.W.Frag} {mg : Str → Option Value} {base : Heap}
abbrev sDue : Stmt := topS 47 /- _law_due -/
abbrev nDue : List Str := ["many", "rows", "deed", "wound", "holes", "count", "fresh", "cell"]
theorem scDue : FnScope nDue ["many", "rows", "deed"] (defScope sDue) := ⟨rfl, rfl, rfl, by decide +kernel, rfl, by decide +kernel, by decide +kernel⟩
theorem ok_Due {f : Addr} {fd : FuncData} (F : Fun K "_law_due" "_law_due" sDue f fd) (m_len : mg "len" = none) (m_tuple : mg "tuple" = none) (m_sorted : mg "sorted" = none)
    {f0 : Addr} {fd0 : FuncData} (C_is_winding : Can P w K mg base "is_winding" 3 f0 fd0 ["thing"] (spIsWin K))
    {f1 : Addr} {fd1 : FuncData} (C__law_is_angle : Can P w K mg base "_law_is_angle" 2 f1 fd1 ["thing"] (spLAng K))
    {f2 : Addr} {fd2 : FuncData} (C__law_pricked : Can P w K mg base "_law_pricked" 1 f2 fd2 ["many", "winding", "angle"] (spLPr K)) :
    FnOk P w K mg base CX0 4 f fd ["many", "rows", "deed"] (spDue K) := by
  refine F.ok scDue (fun vs H Q E h => ?_) (fun cdv A outer s H vs Q E hr h => ?_)
  · obtain ⟨_, _, _, _, _, hv, _⟩ := h
    rw [as_len hv]
    rfl
  obtain ⟨r, st, x, D, sb, hv, A0, ok, dok, nl, q⟩ := h
  have nd := scDue.nd
  have nb : ∀ q : Addr, z0.bag ≠ some q := fun q z => by cases z
  refine ⟨_, (pss_cons (ps_asg (pe_ix ix_list (pv 1) (pe_un un_neg pe_int) (fun _ _ => rfl)) (pg_tup rfl (pgs_cons (pg_name (i := 3) nd rfl (.inl rfl)) (pgs_cons (pg_name (i := 4) nd rfl (.inr rfl)) (pgs_cons (pg_name (i := 5) nd rfl (.inl rfl)) pgs_nil)))))
    (pss_cons (ps_if (pt_cmpR op_eq (pe_ix ix_tup (pv 2) pe_int (fun _ _ => rfl)) pe_str (nomark _)) (pss_cons (ps_if (pt_cmpR op_eq (pe_callB call_len_seq (by rfl) m_len PySem.boot_len (pa_cons (pv 1) pa_nil)) pe_int (nomark _)) (pss_one (ps_ret pe_str)) pss_nil)
    (pss_cons (ps_expr (pe_bm0 PySem.F.plainAttrs_list PySem.F.slot_list_pop PySem.F.type_list_pop mt_pop (pv 1)))
    (pss_one (ps_ret pe_non)))) pss_nil)
    (pss_cons (ps_if (pt_cmpR op_eq (pe_ix ix_tup (pv 2) pe_int (fun _ _ => rfl)) pe_str (nomark _)) (pss_cons (ps_if (pt_not (pt_val (pcall C_is_winding hr (pa_cons (pe_ix ix_tup (pv 2) pe_int (fun _ _ => rfl)) pa_nil)))) (pss_one (ps_ret pe_str)) pss_nil)
    (pss_cons (ps_expr (pe_bm PySem.F.plainAttrs_list PySem.F.slot_list_append PySem.F.type_list_append mt_append (pv 1) (pa_cons (pe_tup (pa_cons (pe_ix ix_tup (pv 2) pe_int (fun _ _ => rfl)) (pa_cons (pv 4) (pa_cons (pv 5) pa_nil)))) pa_nil)))
    (pss_one (ps_ret pe_non)))) pss_nil)
    (pss_cons (ps_if (pt_not (pt_val (pcall C__law_is_angle hr (pa_cons (pe_ix ix_tup (pv 2) pe_int (fun _ _ => rfl)) pa_nil)))) (pss_one (ps_ret pe_str)) pss_nil)
    (pss_cons (ps_if (pt_cmpR op_isN (pv 3) pe_non (nomark _)) (pss_one (ps_ret pe_str)) pss_nil)
    (pss_cons (ps_set (i := 6) nd rfl (.inl rfl) (pe_callTy call_tuple_of (by rfl) m_tuple PyProof.Rows.boot_tuple (pa_cons (pe_lc (own := [("cell", 7)]) (g := (gName 7)) (by rfl) nd (pi_list (pcall C__law_pricked hr (pa_cons (pv 0) (pa_cons (pv 3) (pa_cons (pe_ix ix_tup (pv 2) pe_int (fun _ _ => rfl)) pa_nil))))) (blkOk_by (N := nDue) (sc := defScope sDue) (by decide +kernel)) (fun _ _ _ _ _ => (pg_name (i := 7) nd rfl (.inl rfl))) (fun _ _ _ _ _ => (pts_one (pt_cmpR (show OpR _ (compareOp .NotIn) (rIn K true) from op_notIn_seq) (pv 7) (pv 4) rfl))) (fun _ _ _ _ _ => (pv 7))) pa_nil)))
    (pss_cons (ps_expr (pe_bm PySem.F.plainAttrs_list PySem.F.slot_list_append PySem.F.type_list_append mt_append (pv 1) (pa_cons (pe_tup (pa_cons (pv 3) (pa_cons (pe_callTy call_tuple_of (by rfl) m_tuple PyProof.Rows.boot_tuple (pa_cons (pe_callB cr_sortedT (by rfl) m_sorted boot_sorted (pa_cons (pe_op op_catA (pv 4) (pv 6)) pa_nil)) pa_nil)) (pa_cons (pe_op op_add (pv 5) pe_int) pa_nil)))) pa_nil)))
    (pss_one (ps_ret (pv 6)))))))))), ?_⟩
  have S : LB K z0 [.dat (di st.n), .raw (.ref r), .dat (deedD x), .un, .un, .un, .un, .un] D H (L2.start nDue vs) := LB.startB (N := nDue) sb hv rfl
  have er : st.rows.map pstD = st.past.map pstD ++ [pstD st.now] := by unfold RH.rows; rw [List.map_append]; rfl
  rw [er] at A0
  refine l_last (i := 1) S rfl A0.last (eg_tup (egs_cons eg_name (egs_cons eg_name (egs_cons eg_name egs_nil))) rfl) fun σ1 S1 => ?_
  have S1 : LB K z0 [.dat (di st.n), .raw (.ref r), .dat (deedD x), .dat (wOpt st.now.1), .dat (tupN st.now.2.1), .dat (di st.now.2.2), .un, .un] D H σ1 := S1
  have deed0 : ∀ (x : Deed) (nm : Str), deedD x = .tuple (.str nm :: (match x with | .back => [] | .light => [] | .wind x => [wArg x] | .prick x => [pArg x])) → ∀ (z : Str), ED K z0 (tOp rEq (tOp (rIxT K) (tVar 2) (tC (.int 0))) (tC (.str z))) [.dat (di st.n), .raw (.ref r), .dat (deedD x), .dat (wOpt st.now.1), .dat (tupN st.now.2.1), .dat (di st.now.2.2), .un, .un] (.bool (decide (nm = z))) := fun x nm e z => by
    rw [e]
    exact ed_op (ed_op (ed_var rfl) ed_int (r_ixT (i := 0) rfl)) ed_str r_eqS
  cases x with
  | light => exact absurd rfl nl
  | back =>
    refine l_when (q := true) S1 ((et_testD (deed0 .back "back" rfl "back")).is (by decide +kernel)) (fun _ D2 H2 f2 S2 => ?_) (fun z => by cases z)
    have A2 := A0.fw f2 (nb r)
    cases hg : st.past.getLast? with
    | none =>
      have e0 : st.past = [] := List.getLast?_eq_none_iff.mp hg
      obtain ⟨n2, xs, hx, hd⟩ := id A2
      have hlx := dqa_len hd
      rw [e0] at hlx
      have hlx : xs.length = 1 := hlx
      refine ⟨.ref r, S2.se.raw (i := 1) rfl, r, xs, rfl, .inl (sq_of hx), ?_⟩
      refine ⟨rfl, true, by rw [hlx]; rfl, ?_⟩
      dsimp only
      rw [if_pos rfl]
      have e1 : bPost st = st := by unfold bPost; rw [hg]
      refine q (.str "NothingLeft") D2 H2 (ChS.of f2) ?_ ?_
      · show Acc K D2 H2 r ((bPost st).rows.map pstD)
        rw [e1, er]
        exact A2
      · show Dq K D2 _ (outD (bOut st))
        unfold bOut
        rw [hg]
        exact .str _
    | some p =>
      obtain ⟨ys, e0⟩ := List.getLast?_eq_some_iff.mp hg
      obtain ⟨n2, xs, hx, hd⟩ := id A2
      obtain ⟨xs0, y, rfl, hd0, _⟩ := dqa_snoc hd
      have hlx := dqa_len hd0
      rw [List.length_map, e0, List.length_append, List.length_singleton] at hlx
      refine ⟨.ref r, S2.se.raw (i := 1) rfl, r, _, rfl, .inl (sq_of hx), ?_⟩
      refine ⟨rfl, false, ?_, ?_⟩
      · have : ¬ (V.int ((xs0 ++ [y]).length : Nat) = V.int 1) := by
          intro z
          injection z with z
          rw [List.length_append, List.length_singleton] at z
          omega
        rw [decide_eq_false this]
      dsimp only
      rw [if_neg (by decide)]
      refine ⟨.ref r, S2.se.raw (i := 1) rfl, Or.inl ⟨rfl, _, sq_of hx⟩, r, xs0 ++ [y], y, rfl, rfl, hx, by simp, ?_⟩
      rw [List.dropLast_concat]
      have ch := Ch.of (o := .lst xs0) (Fw.refl f2.sb) n2 hx trivial (nb r)
      have e1 : (bPost st).rows = st.past := by
        unfold bPost RH.rows
        rw [hg, e0, List.dropLast_concat]
      refine q .non D2 _ ((ChS.of f2).trans (ChS.ch ch (List.mem_singleton.mpr rfl)) fun b hb o _ _ _ => by rw [List.mem_singleton.mp hb]; exact n2) ?_ ?_
      · show Acc K D2 _ r ((bPost st).rows.map pstD)
        rw [e1]
        exact ⟨n2, xs0, upd_same, hd0⟩
      · show Dq K D2 _ (outD (bOut st))
        unfold bOut
        rw [hg]
        exact .non
  | wind x =>
    refine l_no S1 ((et_testD (deed0 (.wind x) "wind" rfl "back")).is (by decide +kernel)) fun D2 H2 f2 S2 => ?_
    refine l_when (q := true) S2 ((et_testD (deed0 (.wind x) "wind" rfl "wind")).is (by decide +kernel)) (fun _ D3 H3 f3 S3 => ?_) (fun z => by cases z)
    have f23 := f2.trans f3
    have A3 := A0.fw f23 (nb r)
    cases x with
    | inl d =>
      have hw : isWinD d = false := (odd_no d dok).1
      refine l_when (q := true) S3 ((et_notD (et_BD (ed_call (ea_consD (ed_op (ed_var (d := .tuple [.str "wind", d]) rfl) ed_int (r_ixT (i := 1) rfl)) ea_nilD) sd_isWinR))).is (by rw [hw]; rfl)) (fun _ D4 H4 f4 S4 => ?_) (fun z => by cases z)
      refine q (.str "NoWinding") D4 H4 (ChS.of (f23.trans f4)) ?_ (.str _)
      show Acc K D4 H4 r (st.rows.map pstD)
      rw [er]
      exact A3.fw f4 (nb r)
    | inr w3 =>
      have hw : triOk w3 := dok
      refine l_no S3 ((et_notD (et_BD (ed_call (ea_consD (ed_op (ed_var (d := .tuple [.str "wind", wD w3.1 w3.2.1 w3.2.2]) rfl) ed_int (r_ixT (i := 1) rfl)) ea_nilD) sd_isWinR))).is (by rw [win_ok hw]; rfl)) fun D4 H4 f4 S4 => ?_
      have f24 := f23.trans f4
      refine l_app (i := 1) S4 rfl (A3.fw f4 (nb r)) (nb r) (ed_tup (ds := [wD w3.1 w3.2.1 w3.2.2, tupN st.now.2.1, di st.now.2.2]) (ea_consD (ed_op (ed_var (d := .tuple [.str "wind", wD w3.1 w3.2.1 w3.2.2]) rfl) ed_int (r_ixT (i := 1) rfl)) (ea_consD (ed_var rfl) (ea_consD (ed_var rfl) ea_nilD))) (by show 3 ≤ 100000; decide)) (by rw [List.length_append, List.length_map]; have := ok.p; simp; omega) fun D5 H5 ch5 A5 S5 => ?_
      refine q .non D5 H5 ((ChS.of f24).trans (ChS.ch ch5 (List.mem_singleton.mpr rfl)) fun b hb o _ _ _ => by rw [List.mem_singleton.mp hb]; exact A5.1) ?_ .non
      show Acc K D5 H5 r ((wPost st (.inr w3)).rows.map pstD)
      have e2 : (wPost st (.inr w3)).rows.map pstD = (st.past.map pstD ++ [pstD st.now]) ++ [.tuple [wD w3.1 w3.2.1 w3.2.2, tupN st.now.2.1, di st.now.2.2]] := by
        show (st.rows ++ [(some w3, st.now.2)]).map pstD = _
        rw [List.map_append, er]
        rfl
      rw [e2]
      exact A5
  | prick x =>
    refine l_no S1 ((et_testD (deed0 (.prick x) "prick" rfl "back")).is (by decide +kernel)) fun D2 H2 f2 S2 => ?_
    refine l_no S2 ((et_testD (deed0 (.prick x) "prick" rfl "wind")).is (by decide +kernel)) fun D3 H3 f3 S3 => ?_
    have f23 := f2.trans f3
    have A3 := A0.fw f23 (nb r)
    cases x with
    | inl d =>
      have hw : angD d = false := (odd_no d dok).2
      refine l_when (q := true) S3 ((et_notD (et_BD (ed_call (ea_consD (ed_op (ed_var (d := .tuple [.str "prick", d]) rfl) ed_int (r_ixT (i := 1) rfl)) ea_nilD) (sp_of d (odd_sm d dok))))).is (by show (!angD d) = true; rw [hw]; rfl)) (fun _ D4 H4 f4 S4 => ?_) (fun z => by cases z)
      refine q (.str "NoAngle") D4 H4 (ChS.of (f23.trans f4)) ?_ (.str _)
      show Acc K D4 H4 r (st.rows.map pstD)
      rw [er]
      exact A3.fw f4 (nb r)
    | inr q2 =>
      obtain ⟨hlt, hb, hgc⟩ := dok
      have hlt : q2.1 < q2.2 := hlt
      have hb : q2.2 ≤ 1000 := hb
      have h200 : (1000 : Nat) < 2 ^ 200 := by decide +kernel
      refine l_no S3 ((et_notD (et_BD (ed_call (ea_consD (ed_op (ed_var (d := .tuple [.str "prick", td q2]) rfl) ed_int (r_ixT (i := 1) rfl)) ea_nilD) (sp_of (td q2) (fun i j e => by cases e; exact_mod_cast Nat.lt_of_le_of_lt hb h200))))).is (by show (!angD (td q2)) = false; rw [ang_td hlt hgc]; rfl)) fun D4 H4 f4 S4 => ?_
      have f24 := f23.trans f4
      have A4 := A3.fw f4 (nb r)
      cases hw : st.now.1 with
      | none =>
        refine l_when (q := true) S4 ((et_testD (ed_op (ed_var rfl) ed_non r_isN)).is (by rw [hw]; rfl)) (fun _ D5 H5 f5 S5 => ?_) (fun z => by cases z)
        refine q (.str "NotWound") D5 H5 (ChS.of (f24.trans f5)) ?_ ?_
        · show Acc K D5 H5 r ((pPost st (.inr q2)).rows.map pstD)
          rw [(p_none hw).1, er]
          exact A4.fw f5 (nb r)
        · show Dq K D5 _ (outD (pOut st (.inr q2)))
          rw [(p_none hw).2]
          exact .str _
      | some w3 =>
        have tri := ok.w w3 hw
        have hn := ok.n
        have hhs := ok.hs
        obtain ⟨g1, g2, g3, g4⟩ := id tri
        have S4 : LB K z0 [.dat (di st.n), .raw (.ref r), .dat (.tuple [.str "prick", td q2]), .dat (wD w3.1 w3.2.1 w3.2.2), .dat (tupN st.now.2.1), .dat (di st.now.2.2), .un, .un] D4 H4 σ1 := by
          rw [hw] at S4
          exact S4
        refine l_no S4 ((et_testD (ed_op (ed_var rfl) ed_non r_isN)).is rfl) fun D5 H5 f5 S5 => ?_
        have f25 := f24.trans f5
        have hfl : (freshH st w3 q2).length ≤ 24 := by
          unfold freshH
          have h1 := List.length_filter_le (fun y => !st.now.2.1.contains y) (pricksM st.n w3.1 w3.2.1 w3.2.2 q2.1 q2.2)
          have up : (pricksM st.n w3.1 w3.2.1 w3.2.2 q2.1 q2.2).length ≤ st.n := by
            rw [pricks_made (b := q2.2) (by omega) (by omega)]
            exact up_le (madeM_up _ _ _ _ _) fun y hy => by obtain ⟨b, _, m⟩ := mem_made.mp hy; exact pricks_lt m
          omega
        refine l_asg (d := tupN (freshH st w3 q2)) S5 (ed_cb (ea_consD (ed_lc (L := pricksM st.n w3.1 w3.2.1 w3.2.2 q2.1 q2.2) (enc := di) (fun y => !st.now.2.1.contains y) di (ei_list (ed_call (ea_consD (ed_var rfl) (ea_consD (ed_var rfl) (ea_consD (ed_op (ed_var rfl) ed_int (r_ixT (i := 1) rfl)) ea_nilD))) (sd_lpr (by omega) (by omega) (by omega) g4 (by omega) (by omega) (by omega) (by omega)))) (fun y hy => eg_name) (fun y hy => et_testD (ed_op (ed_var rfl) (ed_var rfl) r_niT)) (fun y hy _ => ed_var rfl) (by decide) (by have := pricks_len st.n w3.1 w3.2.1 w3.2.2 q2.1 q2.2; omega)) ea_nilD) b_tupL) fun σ6 D6 H6 f6 S6 => ?_
        have S6 : LB K z0 [.dat (di st.n), .raw (.ref r), .dat (.tuple [.str "prick", td q2]), .dat (wD w3.1 w3.2.1 w3.2.2), .dat (tupN st.now.2.1), .dat (di st.now.2.2), .dat (tupN (freshH st w3 q2)), .un] D6 H6 σ6 := S6
        have f26 := f25.trans f6
        have A6 := (A4.fw f5 (nb r)).fw f6 (nb r)
        refine l_app (i := 1) S6 rfl A6 (nb r) (ed_tup (ds := [wD w3.1 w3.2.1 w3.2.2, tupN (srt (st.now.2.1 ++ freshH st w3 q2)), di (st.now.2.2 + 1)]) (ea_consD (ed_var rfl) (ea_consD (ed_cb (ea_consD (ed_cb (ea_consD ((ed_op (ed_var rfl) (ed_var rfl) (r_catT (by rw [List.length_map, List.length_map]; omega))).is (z := .tuple ((st.now.2.1 ++ freshH st w3 q2).map di)) (by rw [List.map_append])) ea_nilD) (b_sortedT (by rw [List.length_append]; omega))) ea_nilD) b_tupL) (ea_consD (ed_addn (b := 1) (ed_var rfl) ed_int) ea_nilD))) (by show 3 ≤ 100000; decide)) (by rw [List.length_append, List.length_map]; have := ok.p; simp; omega) fun D7 H7 ch7 A7 S7 => ?_
        refine e_ret S7 (ed_var (d := tupN (freshH st w3 q2)) rfl) fun v D8 H8 f8 dv => ?_
        refine q v D8 H8 (((ChS.of f26).trans (ChS.ch ch7 (List.mem_singleton.mpr rfl)) fun b hb o _ _ _ => by rw [List.mem_singleton.mp hb]; exact A7.1).trans (ChS.of f8) fun b hb o _ _ _ => by rw [List.mem_singleton.mp hb]; exact (A7.fw f8 (nb r)).1) ?_ ?_
        · show Acc K D8 H8 r ((pPost st (.inr q2)).rows.map pstD)
          have e2 : (pPost st (.inr q2)).rows.map pstD = (st.past.map pstD ++ [pstD st.now]) ++ [.tuple [wD w3.1 w3.2.1 w3.2.2, tupN (srt (st.now.2.1 ++ freshH st w3 q2)), di (st.now.2.2 + 1)]] := by
            rw [(p_some hw).1]
            show (st.rows ++ [_]).map pstD = _
            rw [List.map_append, er]
            rfl
          rw [e2]
          exact A7.fw f8 (nb r)
        · show Dq K D8 _ (outD (pOut st (.inr q2)))
          rw [(p_some hw).2]
          exact dv
end
end Nr
namespace Nr
open PySem PySem.Spec PyProof.Rows L2 Evl
theorem takes0N {X : Cx} : L2N.Takes X (fun _ _ _ _ => False) := fun _ _ x => by
  obtain ⟨_, _, _, _, _, _, _, _, _, _, _, _, _, _, _, _, z⟩ := x
  exact z.elim
section
variable {K : PySem.W.Frag} {C a l : Addr} {KD : Nat → Addr} {δ : List Sl} {D H : Hp} {σ : L2.St} {i : Nat} {s : RH} {me : Str} {ta : TA} {Q : VK} {W : L2.St → XK} {E : XK}
variable {α : Type} {A : α → List PyData} {Pre : RH → α → Prop} {Post : RH → α → RH} {F : RH → α → PyData ⊕ Nat}
theorem dqa_asH : ∀ {ds : List PyData} {vs : List V}, DqAll K D vs ds → AS K D vs (ds.map Sl.dat)
  | [], _, h => by cases h; exact .nil
  | d :: ds, _, h => by
    cases h with
    | cons h1 h2 => exact .cons h1 (dqa_asH h2)
/-- roll.m(..) in a try -/
theorem ms_go (x : α) (S : LB K z0 δ D H σ) (hi : δ[i]? = some (.raw (.ref a))) (R : RollH K C D H a l s) (hm : ["many", "wound", "pierced", "times", "past"].all (fun x => !(me == (x : Str))) = true) (hp : Pre s x) (ht : EA K z0 ta δ (A x))
    (k : ∀ d, F s x = .inl d → ∀ v D2 H2, ChS z0 [a, l] D H D2 H2 → RollH K C D2 H2 a l (Post s x) → Dq K D2 v d → Q v H2) (ke : ∀ i, F s x = .inr i → ∀ D2 H2, ChS z0 [a, l] D H D2 H2 → RollH K C D2 H2 a l (Post s x) → W σ (.ref (KD i)) none H2) : tMethS C me (spDo K C KD A Pre Post F) W (tVar i) ta σ H Q := by
  obtain ⟨n1, n2, ne, dx, v1, v2, v3, v4, xs, h1, h2, hp', d1, d2, d3, d4⟩ := id R
  refine ⟨.ref a, S.se.raw hi, a, dx, _, rfl, h1, lk_no hm, ?_⟩
  refine ht σ D H S.sb S.se _ fun vs D1 H1 f1 hv => ?_
  exact ⟨a, l, s, x, D1, f1.sb, .cons rfl (dqa_asH hv), R.fw f1, hp, fun d e v D2 H2 ch R2 dv => k d e v D2 H2 (ChS.twoH R2 (ChS.of f1) ch) R2 dv, fun i e D2 H2 ch R2 => ke i e D2 H2 (ChS.twoH R2 (ChS.of f1) ch) R2⟩
/-- roll.m() that refuses nothing -/
theorem mo_go {f : RH → PyData} (S : LB K z0 δ D H σ) (hi : δ[i]? = some (.raw (.ref a))) (R : RollH K C D H a l s) (hm : ["many", "wound", "pierced", "times", "past"].all (fun x => !(me == (x : Str))) = true)
    (k : ∀ v D2 H2, ChS z0 [a, l] D H D2 H2 → RollH K C D2 H2 a l s → Dq K D2 v (f s) → LB K z0 δ D2 H2 σ → Q v H2) : tMeth C me (spDo K C KD noA (fun _ _ => True) (fun s _ => s) fun s _ => .inl (f s)) [] E (tVar i) tNil σ H Q := by
  obtain ⟨n1, n2, ne, dx, v1, v2, v3, v4, xs, h1, h2, hp', d1, d2, d3, d4⟩ := id R
  refine ⟨.ref a, S.se.raw hi, a, dx, _, rfl, h1, lk_no hm, ?_⟩
  exact ⟨a, l, s, (), D, S.sb, .cons rfl .nil, R, trivial, fun d e v D2 H2 ch R2 dv => k v D2 H2 ch R2 (by cases e; exact dv) ⟨ch.sb, S.se.ex ch.dx⟩, fun i e => by cases e⟩
end
/-- the try's body -/
def tDid (K : PySem.W.Frag) (C : Addr) (D : Nat → Addr) (W : WX) : TS :=
  tSeq (tIfS (tTest (tOp rEq (tOp (rIxT K) (tVar 1) (tC (.int 0))) (tC (.str "wind")))) (tRet (tMethS C "wind" (spHWind K C D) (WE W) (tVar 0) (tCons (tOp (rIxT K) (tVar 1) (tC (.int 1))) tNil))) tNext)
    (tSeq (tIfS (tTest (tOp rEq (tOp (rIxT K) (tVar 1) (tC (.int 0))) (tC (.str "light")))) (tRet (tMethS C "light" (spHLight K C D) (WE W) (tVar 0) tNil)) tNext)
      (tRet (tIf (tTest (tOp rEq (tOp (rIxT K) (tVar 1) (tC (.int 0))) (tC (.str "prick")))) (tMethS C "prick" (spHPrick K C D) (WE W) (tVar 0) (tCons (tOp (rIxT K) (tVar 1) (tC (.int 1))) tNil)) (tMethS C "back" (spHBack K C D) (WE W) (tVar 0) tNil))))
def spDid (K : PySem.W.Frag) (C : Addr) (KD : Nat → Addr) : Sp := fun vs H Q _ => ∃ (a l : Addr) (s : RH) (x : Deed) (D : Hp), Sb z0 D H ∧ AS K D vs [.raw (.ref a), .dat (deedD x)] ∧ RollH K C D H a l s ∧ s.ok ∧ deedOk x ∧
  ∀ v D2 H2, ChS z0 [a, l] D H D2 H2 → RollH K C D2 H2 a l (dPost s x) → Dq K D2 v (outD (dOut s x)) → Q v H2
theorem out_lt {s : RH} {x : Deed} {i : Nat} (h : dOut s x = .inr i) : i < 5 := by
  cases x with
  | back =>
    have h : bOut s = .inr i := h
    unfold bOut at h
    split at h <;> cases h
    decide
  | light =>
    have h : lOut s = .inr i := h
    unfold lOut at h
    split at h <;> cases h
    decide
  | wind x =>
    cases x with
    | inl d => cases h; decide
    | inr w => cases h
  | prick x =>
    cases x with
    | inl d => cases h; decide
    | inr q =>
      have h : pOut s (.inr q) = .inr i := h
      cases hw : s.now.1 with
      | none => rw [(p_none hw).2] at h; cases h; decide
      | some w => rw [(p_some hw).2] at h; cases h
section
variable {P : Program} {w : World} {K : PySem.W.Frag} {mg : Str → Option Value} {base : Heap}
abbrev sDid : Stmt := topS 45 /- _law_did -/
abbrev nDid : List Str := ["roll", "deed", "e"]
theorem scDid : FnScope nDid ["roll", "deed"] (defScope sDid) := ⟨rfl, rfl, rfl, by decide +kernel, rfl, by decide +kernel, by decide +kernel⟩
theorem ok_Did {f : Addr} {fd : FuncData} {C : Addr} (RC : RCls K C) (F : Fun K "_law_did" "_law_did" sDid f fd) {RE : Addr} {D : Nat → Addr} (KD : Kinds K mg RE D kindW) (m_RE : mg "RollError" = some (.ref RE))
    {fk : Addr} {fdk : FuncData} (KF : ∀ B : Heap, L2H.FnH P w K mg B CX0 1 fk fdk ["e"] (spKind K B D)) (m_K : mg "_law_kind" = some (.ref fk)) (k_K : PySem.W.keepIn K (.ref fk) = true) (b_K : Binds K fdk ["e"] [])
    {f1 : Addr} {fd1 : FuncData} (M_wind : CanN P w K mg base C "wind" 4 f1 fd1 ["self", "winding"] (spHWind K C D)) {f2 : Addr} {fd2 : FuncData} (M_light : CanN P w K mg base C "light" 6 f2 fd2 ["self"] (spHLight K C D))
    {f3 : Addr} {fd3 : FuncData} (M_prick : CanN P w K mg base C "prick" 4 f3 fd3 ["self", "angle"] (spHPrick K C D)) {f4 : Addr} {fd4 : FuncData} (M_back : CanN P w K mg base C "back" 1 f4 fd4 ["self"] (spHBack K C D)) :
    FnOk P w K mg base CX0 7 f fd ["roll", "deed"] (spDid K C D) := by
  refine F.ok scDid (fun vs H Q E h => ?_) (fun cdv A outer s H vs Q E hr h => ?_)
  · obtain ⟨_, _, _, _, _, _, hv, _⟩ := h
    rw [as_len hv]
    rfl
  obtain ⟨a, l, st, x, D', sb, hv, R, ok, dok, q⟩ := h
  have nd := scDid.nd
  refine ⟨_, pss_one (L2N.ps_try_as (i := 2) (tb := tDid K C D) (ts := fun a cls d => tRet (tKind D a cls d (tCons (tVar 2) tNil))) (Wout := fun _ _ _ _ => False) rfl rfl nd rfl rfl ⟨rfl, by decide, .inl m_RE⟩ takes0N
    (fun W pn xe tk _ => pss_cons (ps_if (pt_cmpR op_eq (pe_ix ix_tup (pv 1) pe_int (fun _ _ => rfl)) pe_str (nomark _)) (pss_one (ps_ret (by exact (pmS M_wind RC.cls hr (fun σ => L2N.passAt tk σ) (pv 0) (by exact (pa_cons (pe_ix ix_tup (pv 1) pe_int (fun _ _ => rfl)) pa_nil)))))) pss_nil)
      (pss_cons (ps_if (pt_cmpR op_eq (pe_ix ix_tup (pv 1) pe_int (fun _ _ => rfl)) pe_str (nomark _)) (pss_one (ps_ret (by exact (pmS0 M_light RC.cls hr (fun σ => L2N.passAt tk σ) (pv 0))))) pss_nil)
      (pss_one (ps_ret (pe_ifExp (pt_cmpR op_eq (pe_ix ix_tup (pv 1) pe_int (fun _ _ => rfl)) pe_str (nomark _)) (by exact (pmS M_prick RC.cls hr (fun σ => L2N.passAt tk σ) (pv 0) (by exact (pa_cons (pe_ix ix_tup (pv 1) pe_int (fun _ _ => rfl)) pa_nil)))) (by exact (pmS0 M_back RC.cls hr (fun σ => L2N.passAt tk σ) (pv 0))))))))
    (fun a oe cls d pn hz hf => pss_one (ps_ret (by exact (pe_kind KF (hr.mono (by decide)) hz hf m_K k_K b_K (by exact (pa_cons (pv 2) pa_nil)))))))
    , ?_⟩
  cases hv with
  | cons h0 hv =>
  cases hv with
  | cons h1 hv =>
  cases hv
  rename_i vr vd
  obtain rfl : vr = .ref a := h0
  have h1 : Dq K D' vd (deedD x) := h1
  have S : LB K z0 [.raw (.ref a), .dat (deedD x), .un] D' H [some (.ref a), some vd, none] := LB.startB (N := nDid) (vs := [.ref a, vd]) (ss := [.raw (.ref a), .dat (deedD x)]) sb (.cons rfl (.cons h1 .nil)) rfl
  show tDid K C D (wAs K (.ref RE) 2 (fun a cls d => tRet (tKind D a cls d (tCons (tVar 2) tNil))) (fun _ _ _ _ => False) { nx := fun _ H' => Q .non H', rt := Q }) { nx := fun _ H' => Q .non H', rt := Q } [some (.ref a), some vd, none] H
  obtain ⟨W, hW⟩ : ∃ W, wAs K (.ref RE) 2 (fun a cls d => tRet (tKind D a cls d (tCons (tVar 2) tNil))) (fun _ _ _ _ => False) { nx := fun _ H' => Q .non H', rt := Q } = W := ⟨_, rfl⟩
  have fin : ∀ i, dOut st x = .inr i → ∀ D2 H2, ChS z0 [a, l] D' H D2 H2 → RollH K C D2 H2 a l (dPost st x) → W (.ref (D i)) none [some (.ref a), some vd, none] H2 := fun i e D2 H2 ch R2 => by
    rw [← hW]
    refine ⟨true, KD.m i (out_lt e), fun _ ae hae => ⟨.ref ae, rfl, rfl, i, out_lt e, rfl, rfl, fun H3 ex => ?_⟩, fun z => by cases z⟩
    have f3 := Fw.ofEx ch.sb ex
    refine q (.str (kindW i)) D2 H3 (ChS.twoH (R2.fw f3) ch (ChS.of f3)) (R2.fw f3) ?_
    rw [e]
    exact .str _
  have good : ∀ d, dOut st x = .inl d → ∀ v D2 H2, ChS z0 [a, l] D' H D2 H2 → RollH K C D2 H2 a l (dPost st x) → Dq K D2 v d → Q v H2 := fun d e v D2 H2 ch R2 dv => q v D2 H2 ch R2 (by rw [e]; exact dv)
  rw [hW]
  have deed0 : ∀ (x : Deed) (nm : Str), deedD x = .tuple (.str nm :: (match x with | .back => [] | .light => [] | .wind x => [wArg x] | .prick x => [pArg x])) → ∀ (z : Str), ED K z0 (tOp rEq (tOp (rIxT K) (tVar 1) (tC (.int 0))) (tC (.str z))) [.raw (.ref a), .dat (deedD x), .un] (.bool (decide (nm = z))) := fun x nm e z => by
    rw [e]
    exact ed_op (ed_op (ed_var rfl) ed_int (r_ixT (i := 0) rfl)) ed_str r_eqS
  unfold tDid
  cases x with
  | wind y =>
    refine l_when (q := true) S ((et_testD (deed0 (.wind y) "wind" rfl "wind")).is (by decide +kernel)) (fun _ D1 H1 f1 S1 => ?_) (fun z => by cases z)
    have pre : st.past.length < 900 ∧ wPre y := ⟨ok.p, by
      cases y with
      | inl d => exact (odd_no d dok).1
      | inr w => exact dok⟩
    exact ms_go (W := WE W) y S1 rfl (R.fw f1) (by decide) pre (ea_consD (ed_op (ed_var (d := .tuple [.str "wind", wArg y]) rfl) ed_int (r_ixT (i := 1) rfl)) ea_nilD) (fun d e v D2 H2 ch R2 dv => good d e v D2 H2 (ChS.twoH R2 (ChS.of f1) ch) R2 dv) (fun i e D2 H2 ch R2 => fin i e D2 H2 (ChS.twoH R2 (ChS.of f1) ch) R2)
  | light =>
    refine l_no S ((et_testD (deed0 .light "light" rfl "wind")).is (by decide +kernel)) fun D1 H1 f1 S1 => ?_
    refine l_when (q := true) S1 ((et_testD (deed0 .light "light" rfl "light")).is (by decide +kernel)) (fun _ D2 H2 f2 S2 => ?_) (fun z => by cases z)
    have f12 := f1.trans f2
    exact ms_go (W := WE W) () S2 rfl (R.fw f12) (by decide) ⟨ok.n, Nat.le_trans ok.hs (by decide), ok.w⟩ ea_nilD (fun d e v D2 H2 ch R2 dv => good d e v D2 H2 (ChS.twoH R2 (ChS.of f12) ch) R2 dv) (fun i e D2 H2 ch R2 => fin i e D2 H2 (ChS.twoH R2 (ChS.of f12) ch) R2)
  | prick y =>
    refine l_no S ((et_testD (deed0 (.prick y) "prick" rfl "wind")).is (by decide +kernel)) fun D1 H1 f1 S1 => ?_
    refine l_no S1 ((et_testD (deed0 (.prick y) "prick" rfl "light")).is (by decide +kernel)) fun D2 H2 f2 S2 => ?_
    have f12 := f1.trans f2
    refine (et_testD (deed0 (.prick y) "prick" rfl "prick")) _ D2 H2 S2.sb S2.se _ fun D3 H3 f3 => ?_
    rw [show decide (("prick" : Str) = "prick") = true from by decide +kernel, if_pos rfl]
    have f13 := f12.trans f3
    have pre : pPre st y := by
      cases y with
      | inl d => exact (odd_no d dok).2
      | inr q2 =>
        obtain ⟨g1, g2, g3⟩ := dok
        exact ⟨ok.p, ok.n, ok.hs, ok.w, g1, Nat.lt_of_le_of_lt g2 (by decide), g3⟩
    exact ms_go (W := WE W) y (S2.fw f3) rfl (R.fw f13) (by decide) pre (ea_consD (ed_op (ed_var (d := .tuple [.str "prick", pArg y]) rfl) ed_int (r_ixT (i := 1) rfl)) ea_nilD) (fun d e v D2 H2 ch R2 dv => good d e v D2 H2 (ChS.twoH R2 (ChS.of f13) ch) R2 dv) (fun i e D2 H2 ch R2 => fin i e D2 H2 (ChS.twoH R2 (ChS.of f13) ch) R2)
  | back =>
    refine l_no S ((et_testD (deed0 .back "back" rfl "wind")).is (by decide +kernel)) fun D1 H1 f1 S1 => ?_
    refine l_no S1 ((et_testD (deed0 .back "back" rfl "light")).is (by decide +kernel)) fun D2 H2 f2 S2 => ?_
    have f12 := f1.trans f2
    refine (et_testD (deed0 .back "back" rfl "prick")) _ D2 H2 S2.sb S2.se _ fun D3 H3 f3 => ?_
    rw [show decide (("back" : Str) = "prick") = false from by decide +kernel, if_neg (by decide)]
    have f13 := f12.trans f3
    exact ms_go (W := WE W) () (S2.fw f3) rfl (R.fw f13) (by decide) trivial ea_nilD (fun d e v D2 H2 ch R2 dv => good d e v D2 H2 (ChS.twoH R2 (ChS.of f13) ch) R2 dv) (fun i e D2 H2 ch R2 => fin i e D2 H2 (ChS.twoH R2 (ChS.of f13) ch) R2)
def spStand (K : PySem.W.Frag) (C : Addr) (KD : Nat → Addr) : Sp := fun vs H Q _ => ∃ (a l r : Addr) (s : RH) (D : Hp), Sb z0 D H ∧ AS K D vs [.raw (.ref a), .dat (di s.n), .raw (.ref r)] ∧ RollH K C D H a l s ∧ LastAt K D H r (pstD s.now) ∧ s.ok ∧
  ∀ D2 H2, ChS z0 [a, l] D H D2 H2 → RollH K C D2 H2 a l s → Q (.bl true) H2
theorem sh_ivH (L : List Ivl) : SeqAt.shaped (.list (L.map ivD)) = true := by
  refine (shp_list (k := 2) (f := ivD) (fun p => ?_) _).ok (by decide)
  have a := shp_tuple (f := di) (fun n : Nat => shp_int 0 (n : Int)) [p.1.1, p.1.2]
  have b := shp_tuple (f := di) (fun n : Nat => shp_int 0 (n : Int)) [p.2.1, p.2.2]
  refine shp_tp (ds := [td p.1, td p.2]) fun x hx => ?_
  rcases List.mem_cons.mp hx with rfl | hx
  · exact a
  · rw [List.mem_singleton.mp hx]; exact b
theorem selfH {d : PyData} (h : SeqAt.shaped d = true) : PyData.eqv d d = true := by
  unfold SeqAt.shaped at h
  rw [Bool.and_eq_true] at h
  exact PySem.SeqAt.eqv_refl _ h.1
theorem sh_lOut (s : RH) : SeqAt.shaped (outD (lOut s)) = true := by
  unfold lOut
  cases s.now.1 with
  | none => exact (show SeqAt.shaped (.str "NotWound") = true by decide +kernel)
  | some w => exact sh_ivH _
abbrev sStand : Stmt := topS 49 /- _law_stands_so -/
abbrev nStand : List Str := ["roll", "many", "rows", "wound", "holes", "count"]
theorem scStand : FnScope nStand ["roll", "many", "rows"] (defScope sStand) := ⟨rfl, rfl, rfl, by decide +kernel, rfl, by decide +kernel, by decide +kernel⟩
theorem ok_Stand {f : Addr} {fd : FuncData} {C : Addr} (RC : RCls K C) (F : Fun K "_law_stands_so" "_law_stands_so" sStand f fd) {RE : Addr} {D : Nat → Addr} (KD : Kinds K mg RE D kindW) (m_len : mg "len" = none)
    {f0 : Addr} {fd0 : FuncData} (C__law_did : Can P w K mg base "_law_did" 7 f0 fd0 ["roll", "deed"] (spDid K C D))
    {fx0 : Addr} {fdx0 : FuncData} (C_light_light : Can P w K mg base "light_light" 5 fx0 fdx0 ["many", "winding", "holes"] (spLight K))
    {fm0 : Addr} {fdm0 : FuncData} (M___len__ : CanM P w K mg base C "__len__" 1 fm0 fdm0 ["self"] (spHLen K C D))
    {fm1 : Addr} {fdm1 : FuncData} (M_pricks : CanM P w K mg base C "pricks" 1 fm1 fdm1 ["self"] (spHPricks K C D))
    {fm2 : Addr} {fdm2 : FuncData} (M_holes : CanM P w K mg base C "holes" 1 fm2 fdm2 ["self"] (spHHoles K C D))
    {fm3 : Addr} {fdm3 : FuncData} (M_winding : CanM P w K mg base C "winding" 1 fm3 fdm3 ["self"] (spHWinding K C D)) :
    FnOk P w K mg base CX0 8 f fd ["roll", "many", "rows"] (spStand K C D) := by
  refine F.ok scStand (fun vs H Q E h => ?_) (fun cdv A outer s H vs Q E hr h => ?_)
  · obtain ⟨_, _, _, _, _, _, hv, _⟩ := h
    rw [as_len hv]
    rfl
  obtain ⟨a, l, r, st, D', sb, hv, R, A0, ok, q⟩ := h
  have nd := scStand.nd
  refine ⟨_, (pss_cons (ps_asg (pe_ix ix_list (pv 2) (pe_un un_neg pe_int) (fun _ _ => rfl)) (pg_tup rfl (pgs_cons (pg_name (i := 3) nd rfl (.inl rfl)) (pgs_cons (pg_name (i := 4) nd rfl (.inl rfl)) (pgs_cons (pg_name (i := 5) nd rfl (.inl rfl)) pgs_nil)))))
    (pss_cons (ps_if (PW.pt (pw_or (pt_cmpR (op_neD hr.units) (pmeth0 M_winding RC.cls hr (pv 0)) (pv 3) (nomark _)) (pw_or (pt_cmpR (op_neD hr.units) (pmeth0 M_holes RC.cls hr (pv 0)) (pv 4) (nomark _)) (pw_or (pt_cmpR op_ne (pmeth0 M_pricks RC.cls hr (pv 0)) (pv 5) (nomark _)) (pw_or1 (pt_cmpR op_ne (pe_callB (cr_lenO M___len__.ok M___len__.me.at_ M___len__.me.fn M___len__.bd hr (by decide)) (by rfl) m_len PySem.boot_len (pa_cons (pv 0) pa_nil)) (pe_callB call_len_seq (by rfl) m_len PySem.boot_len (pa_cons (pv 4) pa_nil)) (nomark _))))))) (pss_one (ps_ret pe_bl)) pss_nil)
    (pss_one (ps_ret (pe_cmpR (op_eqD hr.units) (pcall C__law_did hr (pa_cons (pv 0) (pa_cons (pe_tup (pa_cons pe_str pa_nil)) pa_nil))) (pe_ifExp (pt_cmpR op_isN (pv 3) pe_non (nomark _)) pe_str (pcall C_light_light hr (pa_cons (pv 1) (pa_cons (pv 3) (pa_cons (pv 4) pa_nil))))) (nomark _)))))), ?_⟩
  have S : LB K z0 [.raw (.ref a), .dat (di st.n), .raw (.ref r), .un, .un, .un] D' H (L2.start nStand vs) := LB.startB (N := nStand) sb hv rfl
  refine l_last (i := 2) S rfl A0 (eg_tup (egs_cons eg_name (egs_cons eg_name (egs_cons eg_name egs_nil))) rfl) fun σ1 S1 => ?_
  have S1 : LB K z0 [.raw (.ref a), .dat (di st.n), .raw (.ref r), .dat (wOpt st.now.1), .dat (tupN st.now.2.1), .dat (di st.now.2.2)] D' H σ1 := S1
  -- the four tests
  dsimp only [tSeq, tIfS, tOr, tTest, tOp]
  refine mo_go S1 rfl R (by decide) fun v2 D2 H2 ch2 R2 dv2 S2 => ?_
  refine (ed_var (i := 3) (d := wOpt st.now.1) rfl) σ1 D2 H2 S2.sb S2.se _ fun y3 D3 H3 f3 dy3 => ?_
  refine r_neD (sh_wOpt _) (sh_wOpt _) v2 y3 D3 H3 f3.sb (dq_ex f3.dx _ _ dv2) dy3 _ fun z4 D4 H4 f4 dz4 => ?_
  rw [selfH (sh_wOpt _)] at dz4
  refine ⟨false, dq_bool dz4, ?_⟩
  rw [if_neg (by decide)]
  have f24 := f3.trans f4
  have R4 := R2.fw f24
  have c4 := ChS.twoH R4 ch2 (ChS.of f24)
  refine mo_go (S2.fw f24) rfl R4 (by decide) fun v5 D5 H5 ch5 R5 dv5 S5 => ?_
  refine (ed_var (i := 4) (d := tupN st.now.2.1) rfl) σ1 D5 H5 S5.sb S5.se _ fun y6 D6 H6 f6 dy6 => ?_
  refine r_neD (sh_tup _) (sh_tup _) v5 y6 D6 H6 f6.sb (dq_ex f6.dx _ _ dv5) dy6 _ fun z7 D7 H7 f7 dz7 => ?_
  rw [selfH (sh_tup _)] at dz7
  refine ⟨false, dq_bool dz7, ?_⟩
  rw [if_neg (by decide)]
  have f57 := f6.trans f7
  have R7 := R5.fw f57
  have c7 := ChS.twoH R7 (ChS.twoH R5 c4 ch5) (ChS.of f57)
  refine mo_go (S5.fw f57) rfl R7 (by decide) fun v8 D8 H8 ch8 R8 dv8 S8 => ?_
  refine (ed_var (i := 5) (d := di st.now.2.2) rfl) σ1 D8 H8 S8.sb S8.se _ fun y9 D9 H9 f9 dy9 => ?_
  refine r_neI v8 y9 D9 H9 f9.sb (dq_ex f9.dx _ _ dv8) dy9 _ fun z10 D10 H10 f10 dz10 => ?_
  rw [decide_eq_true rfl] at dz10
  refine ⟨false, dq_bool dz10, ?_⟩
  rw [if_neg (by decide)]
  have f810 := f9.trans f10
  have R10 := R8.fw f810
  have c10 := ChS.twoH R10 (ChS.twoH R8 c7 ch8) (ChS.of f810)
  have S10 := S8.fw f810
  obtain ⟨_, _, _, dx, _, _, _, _, _, h1, _⟩ := id R10
  refine ⟨.ref a, S10.se.raw (i := 0) rfl, a, dx, _, rfl, h1, ?_⟩
  refine ⟨a, l, st, (), D10, S10.sb, .cons rfl .nil, R10, trivial, fun d e v D11 H11 ch11 R11 dv => ?_, fun i e => by cases e⟩
  cases e
  have ev := dq_int dv
  subst ev
  refine ⟨st.now.2.1.length, rfl, Nat.lt_of_le_of_lt ok.hs (by decide), ?_⟩
  have S11 : LB K z0 _ D11 H11 σ1 := ⟨ch11.sb, S10.se.ex ch11.dx⟩
  have c11 := ChS.twoH R11 c10 ch11
  refine (ed_cb (z := di st.now.2.1.length) (ea_consD (ed_var (i := 4) (d := tupN st.now.2.1) rfl) ea_nilD) (by have := b_lenT (K := K) (c := z0) (ds := st.now.2.1.map di); rw [List.length_map] at this; exact this)) σ1 D11 H11 S11.sb S11.se _ fun y12 D12 H12 f12 dy12 => ?_
  refine r_neI _ y12 D12 H12 f12.sb (.int _) dy12 _ fun z13 D13 H13 f13 dz13 => ?_
  rw [decide_eq_true rfl] at dz13
  refine ⟨false, dq_bool dz13, ?_⟩
  rw [if_neg (by decide)]
  have f1113 := f12.trans f13
  have R13 := R11.fw f1113
  have c13 := ChS.twoH R13 c11 (ChS.of f1113)
  have S13 := S11.fw f1113
  -- the light
  refine ⟨.ref a, S13.se.raw (i := 0) rfl, ?_⟩
  refine (ed_tup (ds := [.str "light"]) (ea_consD ed_str ea_nilD)) σ1 D13 H13 S13.sb S13.se _ fun vd D14 H14 f14 dvd => ?_
  refine ⟨a, l, st, .light, D14, f14.sb, .cons rfl (.cons dvd .nil), R13.fw f14, ok, trivial, fun v D15 H15 ch15 R15 dv15 => ?_⟩
  have S15 : LB K z0 _ D15 H15 σ1 := ⟨ch15.sb, S13.se.ex (f14.dx.trans ch15.dx)⟩
  have c15 := ChS.twoH R15 (ChS.twoH (R13.fw f14) c13 (ChS.of f14)) ch15
  have dv15 : Dq K D15 v (outD (lOut st)) := dv15
  have R15 : RollH K C D15 H15 a l st := R15
  have right : ED K z0 (tIf (tTest (tOp (fun x y H Q => y = .non ∧ Q (.bl (decide (x = .non))) H) (tVar 3) (tC .non))) (tC (.str "NotWound")) (tCall (spLight K) [] E0 (tCons (tVar 1) (tCons (tVar 3) (tCons (tVar 4) tNil))))) [.raw (.ref a), .dat (di st.n), .raw (.ref r), .dat (wOpt st.now.1), .dat (tupN st.now.2.1), .dat (di st.now.2.2)] (outD (lOut st)) := by
    cases hw : st.now.1 with
    | none =>
      rw [l_none hw]
      exact ed_if (p := true) ((et_testD (ed_op (ed_var rfl) ed_non r_isN)).is rfl) (fun _ => ed_str) (fun z => by cases z)
    | some w3 =>
      rw [l_some hw]
      have tri := ok.w w3 hw
      exact ed_if (p := false) ((et_testD (ed_op (ed_var rfl) ed_non r_isN)).is rfl) (fun z => by cases z) (fun _ => ed_call (ea_consD (ed_var rfl) (ea_consD (ed_var rfl) (ea_consD (ed_var rfl) ea_nilD))) (sp_of (Wz.mk st.n w3.1 w3.2.1 w3.2.2 st.now.2.1) ⟨ok.n, tri.1, tri.2.1, tri.2.2.1, Nat.le_trans ok.hs (by decide)⟩))
  refine right σ1 D15 H15 S15.sb S15.se _ fun y16 D16 H16 f16 dy16 => ?_
  refine r_eqD (sh_lOut _) (sh_lOut _) v y16 D16 H16 f16.sb (dq_ex f16.dx _ _ dv15) dy16 _ fun z17 D17 H17 f17 dz17 => ?_
  rw [selfH (sh_lOut _)] at dz17
  have f1517 := f16.trans f17
  rw [dq_bool dz17]
  exact q D17 H17 (ChS.twoH (R15.fw f1517) c15 (ChS.of f1517)) (R15.fw f1517)
end
end Nr
namespace Nr
open PySem PySem.Spec PyProof.Rows L2 Evl PySem.Calls
theorem passN {X : Cx} : Passes (L2N.CX X.prog X.w) X E0 := fun _ _ _ _ _ _ _ h => by
  obtain ⟨_, _, _, _, _, _, _, _, _, _, _, _, z⟩ := h
  exact z.elim
/-! roll == a number -/
def rEqI (C : Addr) (sp : Sp) : R2 := fun x y H Q => ∃ (a : Addr) (i : Int) (dx : Addr) (fs : List (Str × V)), x = .ref a ∧ y = .int i ∧ H a = some (.ins C dx fs) ∧ sp [.ref a, .int i] H (fun v H' => (∃ r, v = .bl r) ∧ Q v H') E0
theorem op_eqI {X : Cx} {C f : Addr} {fd : FuncData} {ps : List Str} {sp : Sp} {n j : Nat} (F : FnOk X.prog X.w X.K X.mg X.base CX0 n f fd ps sp)
    (hs : PySem.W.findIn X.K (.ref C) "__eq__" = some (some (.ref f))) (hf : PySem.W.isFn X.K (.ref f) = true) (hb : Binds X.K fd ps []) (hr : Room j X.A) (NF : PySem.W.notFirst X.K C (.type "int") = true) (hj : n ≤ j) : OpR X (compareOp .Eq) (rEqI C sp) := by
  intro pins s σ H x y u v Q I rx ry d
  obtain ⟨a, i, dx, fs, rfl, rfl, ha, hsp⟩ := d
  cases rx
  obtain ⟨t, rfl⟩ := ry
  show wpAny (model X.prog X.w) X.A (richCompare .Eq (.ref a) (.int i t)) (EP X pins σ Q) X.xe s
  obtain ⟨mA, J, _⟩ := ins_get I.hok ha
  obtain ⟨od, J, _⟩ := J.look
  obtain ⟨m, hF⟩ := I.fr
  refine PySem.W.cmp_K (op := .Eq) (tb := .type "int") hr.units0 hF I.ok.mod.kin J (fun _ _ _ _ _ q => wpAny_pure q) NF hs hf ?_
  have hl := F.len _ _ _ _ hsp
  have r2 : Vals [V.ref a, V.int i] [Value.ref a, Value.int i t] := .cons rfl (.cons ⟨t, rfl⟩ .nil)
  refine wpAny_call (codeAny_mono (F.run X.A X.stack s H ⟨[.ref a, .int i t], []⟩ [.ref a, .int i t] [.ref a, .int i] _ E0 (hr.mono hj) I.env0 (by
    have := hb s [.ref a, .int i t] I.kIn (by simpa using hl)
    simpa using this) r2 hsp) fun r s' hq => ?_)
  cases r with
  | error e => exact pass0 pins σ H s e s' I hq
  | ok fl =>
    cases fl with
    | ret w =>
      obtain ⟨z, H', I', rz, ⟨rr, ez⟩, q⟩ := I.after hq
      subst ez
      obtain rfl : w = Value.bool rr := rz
      exact ⟨.bl rr, H', I', rfl, q⟩
    | next => exact False.elim hq
    | brk => exact False.elim hq
    | cont => exact False.elim hq
/-! Roll(d) in a try -/
def tMakeS (C : Addr) (sp : Sp) (E : L2.St → XK) (t : TA) : TE := fun σ H Q => t σ H fun vs H1 => ∀ x dx, H1 x = none → H1 dx = none → dx ≠ x → sp (.ref x :: vs) (upd (upd H1 dx (.own x)) x (.ins C dx [])) (fun v H2 => v = .non ∧ Q (.ref x) H2) (E σ)
theorem pe_makeS {X : Cx} {CX : CXT} {k : Nat} {f C : Addr} {fd : FuncData} {ps : List Str} {sp : Sp} {E : L2.St → XK} {x : Str} {p pos : Pos} {e : Expr} {es : List Expr} {t : TA} (M : Mk X.K C f) (F : FnOk X.prog X.w X.K X.mg X.base CX k f fd ps sp) (hr : Room (k + 1) X.A) (hg : Gl X x) (hm : X.mg x = some (.ref C)) (hb : Binds X.K fd ps []) (hx : ∀ σ, PassesAt CX X σ (E σ))
    (ha : PA X (e :: es) t) (hdb : (x == ("__debug__" : Str)) = false := by decide) (he : starEach (e :: es) X.env = (false, eval e X.env) :: starEach es X.env := by rfl) (hpl : (backTo pos (starEach es X.env)).any (·.1) = false := by rfl) :
    PE X (.Call (.Name x p) (e :: es) [] pos) (tMakeS C sp E t) := by
  refine ⟨fun pins s σ H Q I h => ?_⟩
  refine wpAny_Call_Name_kw (ld_glob I hg hm ?_ hdb)
  refine PySem.W.callWith_K (h₀ := X.base) I.ok.mod.kin M.kp (thn (ha.run pos pins s σ H _ I h) fun us s1 hh => ?_) he hpl
  obtain ⟨vs, H1, J, r, q⟩ := hh
  refine ⟨J.kIn, ?_⟩
  have hq := q (s1.heap.objs.size + 1) s1.heap.objs.size (J.hok.fresh (Nat.le_succ _)) (J.hok.fresh (Nat.le_refl _)) (Nat.ne_of_lt (Nat.lt_succ_self _))
  have J2 := Inv.made (C := C) J
  have r2 : Vals (V.ref (s1.heap.objs.size + 1) :: vs) (Value.ref (s1.heap.objs.size + 1) :: us) := .cons rfl r
  have hl : (Value.ref (s1.heap.objs.size + 1) :: us).length = ps.length := by rw [← r2.length]; exact F.len _ _ _ _ hq
  have bb := hb _ (Value.ref (s1.heap.objs.size + 1) :: us) J2.kIn (by rw [List.append_nil]; exact hl)
  rw [List.append_nil] at bb
  refine wpAny_call (make_map (f := f) J.kIn M.makes M.init (beq_iff_eq.mp M.fn) (codeAny_mono (F.run _ X.stack _ _ ⟨Value.ref (s1.heap.objs.size + 1) :: us, []⟩ (Value.ref (s1.heap.objs.size + 1) :: us) _ _ (E σ) (hr.make C us []) (J2.env0.make C us []) bb r2 hq) fun r s' hq' => ?_))
  cases r with
  | error e => exact hx σ pins _ _ e s' J2 hq'
  | ok fl =>
    cases fl with
    | ret u =>
      obtain ⟨v, H', J3, rv, ev, q3⟩ := J2.after hq'
      subst ev
      exact ⟨rv, ⟨V.ref (s1.heap.objs.size + 1), H', J3, rfl, q3⟩⟩
    | next => exact False.elim hq'
    | brk => exact False.elim hq'
    | cont => exact False.elim hq'
/-! what stays -/
section
variable {K : PySem.W.Frag} {C a l b m r p sa : Addr} {ps : List Addr} {D H D2 H2 D1 H1 : Hp} {s : RH} {ds : List PyData} {xs : List V}
theorem Acc.chs (A : Acc K D H r ds) (f : ChS z0 ps D H D2 H2) (h : r ∉ ps) : Acc K D2 H2 r ds := by
  obtain ⟨n, ys, hy, d⟩ := A
  exact ⟨f.new _ _ hy n trivial, ys, f.hx _ _ h hy (.inl rfl) (fun z => by cases z), dqa_ex f.dx _ _ d⟩
theorem sq_chs (A : SqL K H sa xs) (f : ChS z0 ps D H D2 H2) (h : sa ∉ ps ∨ ∀ H', SqL K H' sa xs) : SqL K H2 sa xs := by
  rcases h with h | h
  · rcases A with A | A
    · refine .inl ?_
      rcases A with A | ⟨o, A⟩
      · exact .inl (f.hx _ _ h A (.inl rfl) (fun z => by cases z))
      · exact .inr ⟨o, f.hx _ _ h A (.inl rfl) (fun z => by cases z)⟩
    · exact .inr A
  · exact h H2
theorem LB.chs {δ : List Sl} {σ : L2.St} (S : LB K z0 δ D H σ) (f : ChS z0 ps D H D2 H2) : LB K z0 δ D2 H2 σ := ⟨f.sb, S.se.ex f.dx⟩
theorem ChS.bag (f : Fw ⟨none, some p⟩ D H D2 H2) : ChS z0 [p] D H D2 H2 := ⟨⟨f.sb.ex, f.sb.dat, fun _ z => (by cases z), fun _ z => (by cases z)⟩, f.dx, fun a o na h n nb => f.hx a o h (.inl rfl) (fun z => na (List.mem_singleton.mpr (Option.some.inj z).symm)), f.new⟩
theorem bag_chs (B : Bag H p ∧ D p = none) (f : ChS z0 ps D H D2 H2) (h : p ∉ ps) : Bag H2 p ∧ D2 p = none := by
  obtain ⟨⟨c, s, hp⟩, n⟩ := B
  exact ⟨⟨c, s, f.hx _ _ h hp (.inl rfl) (fun z => by cases z)⟩, f.new _ _ hp n trivial⟩
theorem sb_bag (sb : Sb z0 D H) (B : Bag H p ∧ D p = none) : Sb ⟨none, some p⟩ D H := ⟨sb.ex, sb.dat, fun _ z => (by cases z), fun q z => by cases z; exact B⟩
/-- all that the law holds -/
structure Wd (K : PySem.W.Frag) (C : Addr) (n : Nat) (a l b m r sa : Addr) (xs : List V) (D H : Hp) (s : RH) : Prop where
  roll : RollH K C D H a l s
  oth : RollH K C D H b m ⟨n, (none, [], 0), []⟩
  rows : Acc K D H r (s.rows.map pstD)
  scr : SqL K H sa xs
structure Apart (K : PySem.W.Frag) (a l b m r sa : Addr) (xs : List V) : Prop where
  ab : a ≠ b
  am : a ≠ m
  ar : a ≠ r
  lb : l ≠ b
  lm : l ≠ m
  lr : l ≠ r
  br : b ≠ r
  mr : m ≠ r
  s : sa ∉ [a, l, r] ∨ ∀ H', SqL K H' sa xs
theorem Wd.fw {n : Nat} (W : Wd K C n a l b m r sa xs D H s) (f : Fw z0 D H D2 H2) : Wd K C n a l b m r sa xs D2 H2 s :=
  ⟨W.roll.fw f, W.oth.fw f, W.rows.chs (ps := []) (ChS.of f) (by simp), sq_chs (ps := []) W.scr (ChS.of f) (.inl (by simp))⟩
theorem Wd.drawn {n : Nat} (W : Wd K C n a l b m r sa xs D H s) (f : ChS z0 [p] D H D2 H2) (h : p ∉ [a, l, b, m, r]) (hs : sa ≠ p ∨ ∀ H', SqL K H' sa xs) : Wd K C n a l b m r sa xs D2 H2 s := by
  simp only [List.mem_cons, List.not_mem_nil, or_false, not_or] at h
  obtain ⟨h1, h2, h3, h4, h5⟩ := h
  exact ⟨W.roll.chs f (by simp [Ne.symm h1]) (by simp [Ne.symm h2]), W.oth.chs f (by simp [Ne.symm h3]) (by simp [Ne.symm h4]), W.rows.chs f (by simp [Ne.symm h5]), sq_chs W.scr f (hs.imp (fun z => by simp [z]) id)⟩
theorem Wd.did {n : Nat} {s' : RH} (W : Wd K C n a l b m r sa xs D H s) (ap : Apart K a l b m r sa xs) (f : ChS z0 [a, l] D H D2 H2) (R : RollH K C D2 H2 a l s') (e : s'.rows = s.rows) : Wd K C n a l b m r sa xs D2 H2 s' :=
  ⟨R, W.oth.chs f (by simp [Ne.symm ap.ab, Ne.symm ap.lb]) (by simp [Ne.symm ap.am, Ne.symm ap.lm]), by rw [e]; exact W.rows.chs f (by simp [Ne.symm ap.ar, Ne.symm ap.lr]), sq_chs W.scr f (ap.s.imp (fun z => by simp only [List.mem_cons, List.not_mem_nil, or_false, not_or] at z ⊢; exact ⟨z.1, z.2.1⟩) id)⟩
end
/-! what a roll comes to -/
def pOk (n : Nat) (p : Pst) : Prop := p.2.1.Pairwise (· < ·) ∧ (∀ y ∈ p.2.1, y < n) ∧ ∀ w, p.1 = some w → triOk w
structure GoodR (N : Nat) (s : RH) : Prop where
  n : s.n = N
  lo : 1 ≤ N
  hi : N ≤ 24
  all : ∀ p ∈ s.rows, pOk N p
  top : ∃ rest, s.rows = (none, [], 0) :: rest
theorem rows_now (s : RH) : s.now ∈ s.rows := List.mem_append_right _ (List.mem_singleton.mpr rfl)
theorem GoodR.ok {n : Nat} {s : RH} (g : GoodR n s) (hp : s.past.length < 900) : s.ok := by
  obtain ⟨h1, h2, h3⟩ := g.all _ (rows_now s)
  have := up_le h1 h2
  exact ⟨by rw [g.n]; exact g.hi, by have := g.hi; omega, h3, hp⟩
theorem GoodR.step {n : Nat} {s : RH} {x : Deed} (g : GoodR n s) (dok : deedOk x) : GoodR n (dPost s x) ∧ (dPost s x).past.length ≤ s.past.length + 1 := by
  have add : ∀ p, pOk n p → ∀ s' : RH, s'.n = s.n → s'.now = p → s'.past = s.rows → GoodR n s' ∧ s'.past.length ≤ s.past.length + 1 := fun p hp s' e1 e2 e3 => by
    have er : s'.rows = s.rows ++ [p] := by unfold RH.rows; rw [e2, e3]; rfl
    refine ⟨⟨by rw [e1, g.n], g.lo, g.hi, fun q hq => ?_, ?_⟩, by rw [e3]; unfold RH.rows; simp⟩
    · rw [er] at hq
      rcases List.mem_append.mp hq with h | h
      · exact g.all q h
      · rw [List.mem_singleton.mp h]; exact hp
    · obtain ⟨rest, e⟩ := g.top
      exact ⟨rest ++ [p], by rw [er, e]; rfl⟩
  cases x with
  | light => exact ⟨g, Nat.le_succ _⟩
  | back =>
    show GoodR n (bPost s) ∧ (bPost s).past.length ≤ _
    unfold bPost
    cases hg : s.past.getLast? with
    | none => exact ⟨g, Nat.le_succ _⟩
    | some p =>
      obtain ⟨ys, e0⟩ := List.getLast?_eq_some_iff.mp hg
      have er : ({ s with now := p, past := s.past.dropLast } : RH).rows = s.past := by
        unfold RH.rows
        rw [e0, List.dropLast_concat]
      refine ⟨⟨g.n, g.lo, g.hi, fun q hq => ?_, ?_⟩, ?_⟩
      · rw [er] at hq
        exact g.all q (List.mem_append_left _ hq)
      · obtain ⟨rest, e⟩ := g.top
        rw [er]
        unfold RH.rows at e
        rw [e0] at e ⊢
        cases ys with
        | nil =>
          have e := congrArg List.head? e
          have e : some p = some (none, [], 0) := e
          exact ⟨[], by rw [Option.some.inj e]; rfl⟩
        | cons y ys =>
          have e := congrArg List.head? e
          have e : some y = some (none, [], 0) := e
          exact ⟨ys ++ [p], by rw [Option.some.inj e]; rfl⟩
      · show s.past.dropLast.length ≤ _
        rw [List.length_dropLast]
        omega
  | wind y =>
    cases y with
    | inl d => exact ⟨g, Nat.le_succ _⟩
    | inr w =>
      obtain ⟨h1, h2, h3⟩ := g.all _ (rows_now s)
      exact add (some w, s.now.2) ⟨h1, h2, fun w' e => by cases e; exact dok⟩ _ rfl rfl rfl
  | prick y =>
    cases y with
    | inl d => exact ⟨g, Nat.le_succ _⟩
    | inr q =>
      show GoodR n (pPost s (.inr q)) ∧ (pPost s (.inr q)).past.length ≤ _
      cases hw : s.now.1 with
      | none => rw [(p_none hw).1]; exact ⟨g, Nat.le_succ _⟩
      | some w =>
        rw [(p_some hw).1]
        obtain ⟨h1, h2, h3⟩ := g.all _ (rows_now s)
        obtain ⟨q1, q2, q3⟩ := dok
        have q1 : q.1 < q.2 := q1
        have tri := h3 w hw
        have up : (pricksM s.n w.1 w.2.1 w.2.2 q.1 q.2).Pairwise (· < ·) := pricks_sorted (by omega) (by have := tri.1; omega)
        have nd : (s.now.2.1 ++ freshH s w q).Nodup := by
          refine List.nodup_append.mpr ⟨h1.imp fun {a b} z => Nat.ne_of_lt z, (up.sublist List.filter_sublist).imp fun {a b} z => Nat.ne_of_lt z, fun y hy z hz e => ?_⟩
          subst e
          have := (List.mem_filter.mp hz).2
          rw [has_iff.mpr hy] at this
          cases this
        refine add (some w, srt (s.now.2.1 ++ freshH s w q), s.now.2.2 + 1) ⟨srt_strict nd, fun y hy => ?_, fun w' e => by cases e; exact tri⟩ _ rfl rfl rfl
        have hy : y ∈ srt (s.now.2.1 ++ freshH s w q) := hy
        rcases List.mem_append.mp ((srt_perm _).mem_iff.mp hy) with h | h
        · exact h2 y h
        · have := pricks_lt (List.mem_filter.mp h).1
          rw [g.n] at this
          exact this
theorem eq_first {n : Nat} {s : RH} (h : s.n = n) : eqH s ⟨n, (none, [], 0), []⟩ = PyData.eqv (pstD s.now) (.tuple [.none, .tuple [], .int 0]) := by
  unfold eqH pstD
  rw [decide_eq_true h, Bool.true_and, PyData.eqv, PyData.eqvAll, PyData.eqvAll, PyData.eqvAll, PyData.eqvAll]
  have e2 : PyData.eqv (tupN s.now.2.1) (.tuple []) = decide (s.now.2.1 = []) := eqv_tup s.now.2.1 []
  have e3 : PyData.eqv (di s.now.2.2) (.int 0) = decide (s.now.2.2 = 0) := by
    have : PyData.eqv (.int (s.now.2.2 : Int)) (.int 0) = _ := eqv_n _ _
    rw [show di s.now.2.2 = .int (s.now.2.2 : Int) from rfl, this, decide_eq_decide]
    omega
  rw [e2, e3, Bool.and_true]
  rfl
theorem shp_pst (p : Pst) : Shp 2 (pstD p) := by
  have a : Shp 1 (wOpt p.1) := by
    cases p.1 with
    | none => exact ⟨rfl, Nat.zero_le _⟩
    | some w => exact shp_tuple (f := di) (fun n : Nat => shp_int 0 (n : Int)) [w.1, w.2.1, w.2.2]
  have b := shp_tuple (f := di) (fun n : Nat => shp_int 0 (n : Int)) p.2.1
  exact shp_tp (ds := [wOpt p.1, tupN p.2.1, di p.2.2]) fun x hx => by
    rcases List.mem_cons.mp hx with rfl | hx
    · exact a
    · rcases List.mem_cons.mp hx with rfl | hx
      · exact b
      · rw [List.mem_singleton.mp hx]; exact shp_int 1 _
/-- the try about Roll(thing) -/
def tTryL (K : PySem.W.Frag) (C : Addr) (D : Nat → Addr) (W : WX) : TS := tSeq (tDrop (tMakeS C (spHInit K C D) (WE W) (tCons (tVar 12) tNil))) (tDrop (tBM K "list" rAppend (tVar 11) (tCons (tC (.str "")) tNil)))
def tTryS (K : PySem.W.Frag) (D : Nat → Addr) : Addr → Value → Option Addr → TS := fun a cls d => tDrop (tBM K "list" rAppend (tVar 11) (tCons (tKind D a cls d (tCons (tVar 13) tNil)) tNil))
end Nr
namespace Nr
open PySem PySem.Spec PyProof.Rows L2 Evl
section
variable {K : PySem.W.Frag} {C a l b m r p sa : Addr} {ps : List Addr} {δ : List Sl} {te : TE} {tt : TT} {D H D0 H0 D1 H1 D2 H2 : Hp} {σ : L2.St} {En : Ends} {ts tz : TS} {E E' : XK} {n i j : Nat} {KD : Nat → Addr} {Q : VK} {s s2 : RH} {xs : List V}
theorem LB.law0 {sa : Addr} {H : Hp} {N : List Str} : LB K z0 (.raw (.ref sa) :: List.replicate (N.length - 1) .un) (fun _ => none) H (L2.start N [.ref sa]) := by
  refine ⟨sb_none, ?_⟩
  unfold L2.start
  refine .cons rfl ?_
  show SE K _ (List.replicate _ none) (List.replicate _ .un)
  rw [List.length_singleton]
  generalize N.length - 1 = m
  induction m with
  | zero => exact .nil
  | succ m ih => exact .cons trivial ih
theorem Fw.chs (f : Fw z0 D0 H0 D H) (g : ChS z0 ps D H D2 H2) (hn : ∀ p ∈ ps, H0 p = none) : Fw z0 D0 H0 D2 H2 :=
  ⟨g.sb, f.dx.trans g.dx, fun p o h n nb => g.hx p o (fun z => by rw [hn p z] at h; cases h) (f.hx p o h n nb) n nb, fun p o h n mu => g.new p o (f.hx p o h (.inl rfl) (fun z => by cases z)) (f.new p o h n mu) mu⟩
/-- how many cells -/
theorem l_many {ns : List Int} (S : LB K z0 δ D H σ) (h0 : δ[0]? = some (.raw (.ref sa))) (hS : SqL K H sa (ns.map V.int)) (k : ∀ r σ2 D2 H2, r < 24 → Fw z0 D H D2 H2 → LB K z0 (δ.set 1 (.dat (di (1 + r)))) D2 H2 σ2 → tz En σ2 H2) :
    tSeq (tAsg (tOp (rI0 fun i j => .int (i + j)) (tC (.int 1)) (tCall spTake [] E (tCons (tCall (spBag K) [] E' (tCons (tVar 0) (tCons (tC (.int 0)) tNil))) (tCons (tC (.int 24)) tNil)))) (gName 1)) tz En σ H := by
  refine ⟨.ref sa, S.se.raw h0, sa, ns, 0, rfl, hS, by decide, fun p H2 hp ex hb => ?_⟩
  have sbp : Sb ⟨none, some p⟩ D H2 := ⟨S.sb.ex.trans ex, S.sb.dat, fun _ z => (by cases z), fun q z => by cases z; exact ⟨hb, S.sb.free hp⟩⟩
  refine sn_take (K := K) (c := ⟨none, some p⟩) (p := p) rfl (n := 24) (by decide) (by decide) [.ref p, .int 24] D H2 sbp (.cons rfl (.cons (Dq.int _) .nil)) _ (fun v d D3 H3 f hc dv => ?_) E
  obtain ⟨r, hr, rfl⟩ := hc
  have ev := dq_int dv
  subst ev
  have fw : Fw z0 D H D3 H3 := ⟨⟨f.sb.ex, f.sb.dat, fun _ z => (by cases z), fun _ z => (by cases z)⟩, f.dx, fun a o h n nb => f.hx a o (ex a o h) (.inl rfl) (fun z => by cases z; rw [hp] at h; cases h), fun a o h n m => f.new a o (ex a o h) n m⟩
  refine ⟨1, (r : Int), rfl, rfl, ?_⟩
  have e1 : (1 : Int) + (r : Int) = ((1 + r : Nat) : Int) := by omega
  dsimp only
  rw [e1]
  exact k r _ D3 H3 hr fw ((S.fw fw).dat (.int _))
/-- Roll(..) -/
theorem mk_go (S : LB K z0 δ D H σ) (he : ED K z0 te δ (di n)) (h1 : 1 ≤ n) (h24 : n ≤ 24)
    (k : ∀ x l D2 H2, H x = none → H l = none → Fw z0 D H D2 H2 → RollH K C D2 H2 x l ⟨n, (none, [], 0), []⟩ → Q (.ref x) H2) : tMake C (spHInit K C KD) [] E (tCons te tNil) σ H Q := by
  refine he σ D H S.sb S.se _ fun v D1 H1 f1 dv => ?_
  intro x dx hx hd ne
  have g1 := Fw.made (o := .own x) f1.sb hd
  have hx1 : (upd H1 dx (.own x)) x = none := by rw [upd_ne (Ne.symm ne)]; exact hx
  have g2 := Fw.made (o := .ins C dx []) g1.sb hx1
  have back : ∀ p, H1 p = none → H p = none := fun p hp => by
    cases hz : H p with
    | none => rfl
    | some o => rw [f1.hx p o hz (.inl rfl) (fun z => by cases z)] at hp; cases hp
  refine ⟨x, dx, di n, v, D1, rfl, g2.sb, upd_same, f1.sb.free hx, dv, .inl ⟨n, rfl, h1, h24, fun l D2 H2 hl ch R => ?_⟩⟩
  have nxl : x ≠ l := R.2.2.1
  have hl1 : (upd H1 dx (.own x)) l = none := by rw [upd_ne (Ne.symm nxl)] at hl; exact hl
  have hl0 : H1 l = none := by
    by_cases z : l = dx
    · subst z; rw [upd_same] at hl1; cases hl1
    · rw [upd_ne z] at hl1; exact hl1
  exact ⟨rfl, k x l D2 H2 (back x hx) (back l hl0) ((f1.trans (g1.trans g2)).chs ch (fun p hp => by rw [List.mem_singleton.mp hp]; exact back x hx)) R⟩
/-- a walk by the cells of what is given -/
theorem rng_for {ns : List Int} {A B : Nat} (h0 : σ[0]? = some (some (.ref sa))) (hS : SqL K H sa (ns.map V.int)) (hAB : A ≤ 1000 ∧ B ≤ 1000) (Pv : Nat → L2.St → Hp → Prop) (hp : Pv 0 σ H)
    (ht : ∀ k σ' H', k < A + B → Pv k σ' H' → ts { En with nx := Pv (k + 1), ct := Pv (k + 1), bk := tz En } (σ'.set j (some (.int (k : Int)))) H') (hd : ∀ k σ' H', k ≤ A + B → Pv k σ' H' → tz En σ' H') :
    tSeq (tFor (iRng1 (tCons (tOp (rI0 fun i j => .int (i + j)) (tCB (fun xs H Q => ∃ i j, xs = [.int i, .int j] ∧ Q (.int (if j < i then j else i)) H) (tCons (tCB (fun xs H Q => ∃ p ys, xs = [.ref p] ∧ (SqL K H p ys ∨ SqT K H p ys) ∧ Q (.int ys.length) H) (tCons (tVar 0) tNil)) (tCons (tC (.int (A : Int))) tNil))) (tC (.int (B : Int)))) tNil)) (gName j) ts) tz En σ H := by
  obtain ⟨m, em⟩ : ∃ m : Nat, (m : Int) = (if (A : Int) < ((ns.map V.int).length : Int) then (A : Int) else ((ns.map V.int).length : Int)) + (B : Int) := ⟨(if A < (ns.map V.int).length then A else (ns.map V.int).length) + B, by split <;> split <;> omega⟩
  have hm : m ≤ A + B := by
    split at em <;> omega
  refine ⟨.ref sa, h0, sa, _, rfl, .inl hS, _, _, rfl, _, _, rfl, rfl, m, by rw [em], by omega, by omega, ?_⟩
  rw [Int.toNat_natCast]
  refine for_range (lo := 0) (n := m) Pv hp (fun i σ' H' hi pv => ?_) (fun σ' H' pv => hd m σ' H' hm pv)
  have e0 : (0 : Int) + (i : Int) = (i : Int) := Int.zero_add _
  rw [e0]
  exact ht i σ' H' (by omega) pv
theorem eqO_go (S : LB K z0 δ D H σ) (hi : δ[i]? = some (.raw (.ref a))) (R : RollH K C D H a l s) (he : ∀ Q' : VK, (∀ b D2 H2, Fw z0 D H D2 H2 → (∃ m, RollH K C D2 H2 b m s2) → Q' (.ref b) H2) → te σ H Q')
    (k : ∀ D2 H2, Fw z0 D H D2 H2 → Q (.bl (eqH s s2)) H2) : tOp (rEqO C (spHEq K C)) (tVar i) te σ H Q := by
  refine ⟨.ref a, S.se.raw hi, he _ fun b D2 H2 f2 ⟨m, R2⟩ => ?_⟩
  have Ra := R.fw f2
  obtain ⟨_, _, _, dx, _, _, _, _, _, h1, _⟩ := id Ra
  obtain ⟨_, _, _, dy, _, _, _, _, _, h2, _⟩ := id R2
  exact ⟨a, b, dx, dy, _, _, rfl, rfl, h1, h2, a, l, s, .ref b, D2, rfl, f2.sb, Ra, .inl ⟨b, m, s2, rfl, R2, fun D3 H3 f3 => ⟨⟨_, rfl⟩, k D3 H3 (f2.trans f3)⟩⟩⟩
abbrev firstP : Pst := (none, [], 0)
abbrev dl (sa : Addr) (n : Nat) (a b r : Addr) : List Sl := [.raw (.ref sa), .dat (di n), .raw (.ref a), .raw (.ref b), .raw (.ref r), .un, .un, .un, .un, .un, .un, .un, .un, .un]
/-- roll, other, rows -/
theorem l_three {ns : List Int} {σ1 : L2.St} (S1 : LB K z0 [.raw (.ref sa), .dat (di n), .un, .un, .un, .un, .un, .un, .un, .un, .un, .un, .un, .un] D1 H1 σ1) (hn1 : 1 ≤ n) (hn2 : n ≤ 24) (hS1 : SqL K H1 sa (ns.map V.int))
    (k : ∀ a l b m r D4 H5 σ5, LB K z0 (dl sa n a b r) D4 H5 σ5 → Wd K C n a l b m r sa (ns.map V.int) D4 H5 ⟨n, (none, [], 0), []⟩ → Apart K a l b m r sa (ns.map V.int) → tz En σ5 H5) :
    tSeq (tPar3 2 3 4 (tCons (tMake C (spHInit K C KD) [] E (tCons (tVar 1) tNil)) (tCons (tMake C (spHInit K C KD) [] E (tCons (tVar 1) tNil)) (tCons (tLst (tCons (tTup (tCons (tC .non) (tCons (tTup tNil) (tCons (tC (.int 0)) tNil)))) tNil)) tNil)))) tz En σ1 H1 := by
  show tMake C (spHInit K C KD) [] E (tCons (tVar 1) tNil) σ1 H1 fun x1 Ha => tMake C (spHInit K C KD) [] E (tCons (tVar 1) tNil) σ1 Ha fun x2 Hb => tLst (tCons (tTup (tCons (tC .non) (tCons (tTup tNil) (tCons (tC (.int 0)) tNil)))) tNil) σ1 Hb fun x3 Hc => ∃ u v w, [x1, x2, x3] = [u, v, w] ∧ tz En (((σ1.set 2 (some u)).set 3 (some v)).set 4 (some w)) Hc
  refine mk_go S1 (ed_var (i := 1) rfl) hn1 hn2 fun a l D2 H2 na nl f2 R2 => ?_
  have S2 := S1.fw f2
  refine mk_go S2 (ed_var (i := 1) rfl) hn1 hn2 fun b m D3 H3 nb nm f3 R3 => ?_
  have S3 := S2.fw f3
  show tTup (tCons (tC .non) (tCons (tTup tNil) (tCons (tC (.int 0)) tNil))) σ1 H3 fun x Hb => 1 ≤ sizeLine ∧ ∀ p, Hb p = none → ∃ u v w, [V.ref a, V.ref b, V.ref p] = [u, v, w] ∧ tz En (((σ1.set 2 (some u)).set 3 (some v)).set 4 (some w)) (upd Hb p (.lst [x]))
  refine (ed_tup (ds := [.none, .tuple [], .int 0]) (ea_consD ed_non (ea_consD (ed_tup ea_nilD) (ea_consD ed_int ea_nilD)))) σ1 D3 H3 S3.sb S3.se _ fun v4 D4 H4 f4 dv4 => ?_
  refine ⟨by show 1 ≤ sizeLine; decide, fun r hr => ?_⟩
  refine ⟨.ref a, .ref b, .ref r, rfl, ?_⟩
  have f5 := Fw.made (o := .lst [v4]) f4.sb hr
  have ne_of : ∀ {H' : Hp} {x y : Addr} {o : HO}, H' x = some o → H' y = none → x ≠ y := fun h1 h2 z => by rw [z, h2] at h1; cases h1
  have R2' := R2.fw f3
  have Ra4 := R2'.fw f4
  have Rb4 := R3.fw f4
  obtain ⟨_, _, _, _, _, _, _, _, _, ha2, hl2, _⟩ := id R2
  obtain ⟨_, _, _, _, _, _, _, _, _, ha4, hl4, _⟩ := id Ra4
  obtain ⟨_, _, _, _, _, _, _, _, _, hb4, hm4, _⟩ := id Rb4
  have W5 : Wd K C n a l b m r sa (ns.map V.int) D4 (upd H4 r (.lst [v4])) ⟨n, (none, [], 0), []⟩ := ⟨Ra4.fw f5, Rb4.fw f5, ⟨f4.sb.free hr, [v4], upd_same, .cons dv4 .nil⟩, sq_chs (ps := []) (sq_chs (ps := []) (sq_chs (ps := []) (sq_chs (ps := []) hS1 (ChS.of f2) (.inl (by simp))) (ChS.of f3) (.inl (by simp))) (ChS.of f4) (.inl (by simp))) (ChS.of f5) (.inl (by simp))⟩
  have ap : Apart K a l b m r sa (ns.map V.int) := by
    refine ⟨ne_of ha2 nb, ne_of ha2 nm, ne_of ha4 hr, ne_of hl2 nb, ne_of hl2 nm, ne_of hl4 hr, ne_of hb4 hr, ne_of hm4 hr, ?_⟩
    rcases hS1 with h | h
    · refine .inl ?_
      have up : ∀ {H' H'' : Hp} {D' D'' : Hp} {o : HO}, Fw z0 D' H' D'' H'' → H' sa = some o → H'' sa = some o := fun f h => f.hx _ _ h (.inl rfl) (fun z => by cases z)
      have go : ∀ o, H1 sa = some o → sa ∉ [a, l, r] := fun o h => by
        have h4 := up f4 (up f3 (up f2 h))
        simp only [List.mem_cons, List.not_mem_nil, or_false, not_or]
        exact ⟨ne_of h na, ne_of h nl, ne_of h4 hr⟩
      rcases h with h | ⟨o, h⟩
      · exact go _ h
      · exact go _ h
    · exact .inr fun H' => .inr h
  have S5 : LB K z0 [.raw (.ref sa), .dat (di n), .raw (.ref a), .raw (.ref b), .raw (.ref r), .un, .un, .un, .un, .un, .un, .un, .un, .un] D4 (upd H4 r (.lst [v4])) (((σ1.set 2 (some (.ref a))).set 3 (some (.ref b))).set 4 (some (.ref r))) := (((S3.fw f4).fw f5).raw (i := 2)).raw (i := 3) |>.raw (i := 4)
  exact k a l b m r D4 _ _ S5 W5 ap
/-- alike and not alike -/
theorem l_ends (S : LB K z0 (dl sa n a b r) D H σ) (Ra : RollH K C D H a l s) (Rb : RollH K C D H b m ⟨n, (none, [], 0), []⟩) (A : Acc K D H r (s.rows.map pstD)) (hn : s.n = n) (n1 : 1 ≤ n) (n2 : n ≤ 24) (kI : PySem.W.kitOne K (.type "int") (.ref C) = some false)
    (k : ∀ D2 H2, Fw z0 D H D2 H2 → tz En σ H2) :
    tSeq (tIfS (tOr (tTest (tOp rNe (tOp (rEqO C (spHEq K C)) (tVar 2) (tVar 3)) (tOp (rEqD K) (tOp (rIxL K) (tVar 4) (tUn (rU fun i => .int (-i)) (tC (.int 1)))) (tTup (tCons (tC .non) (tCons (tTup tNil) (tCons (tC (.int 0)) tNil)))))))
      (tOr (tTest (tOp (rEqI C (spHEq K C)) (tVar 2) (tVar 1))) (tTest (tOp (rEqO C (spHEq K C)) (tVar 2) (tMake C (spHInit K C KD) [] E (tCons (tOp (rI0 fun i j => .int (i - j)) (tC (.int 25)) (tVar 1)) tNil)))))) ts tNext) tz En σ H := by
  show tOp (rEqO C (spHEq K C)) (tVar 2) (tVar 3) σ H _
  refine eqO_go S rfl Ra (fun Q' q => ⟨.ref b, S.se.raw (i := 3) rfl, q b D H (Fw.refl S.sb) ⟨m, Rb⟩⟩) fun D2 H2 f2 => ?_
  have S2 := S.fw f2
  have er : s.rows.map pstD = s.past.map pstD ++ [pstD s.now] := by unfold RH.rows; rw [List.map_append]; rfl
  have A2 : Acc K D2 H2 r (s.past.map pstD ++ [pstD s.now]) := by rw [← er]; exact A.chs (ps := []) (ChS.of f2) (by simp)
  refine ⟨.ref r, S2.se.raw (i := 4) rfl, 1, rfl, at_last A2.last fun v dv => ?_⟩
  refine (ed_tup (ds := [.none, .tuple [], .int 0]) (δ := dl sa n a b r) (ea_consD ed_non (ea_consD (ed_tup ea_nilD) (ea_consD ed_int ea_nilD)))) σ D2 H2 S2.sb S2.se _ fun v3 D3 H3 f3 dv3 => ?_
  refine r_eqD ((shp_pst _).ok (by decide)) (by decide) v v3 D3 H3 f3.sb (dq_ex f3.dx _ _ dv) dv3 _ fun z4 D4 H4 f4 dz4 => ?_
  have e4 := dq_bool dz4
  subst e4
  rw [eq_first hn]
  refine ⟨rfl, false, by rw [decide_eq_true rfl]; rfl, ?_⟩
  dsimp only
  rw [if_neg (by decide)]
  have f24 := (f2.trans f3).trans f4
  have S4 := S.fw f24
  have R4 := Ra.fw f24
  obtain ⟨_, _, _, dx, _, _, _, _, _, ha, _⟩ := id R4
  obtain ⟨vn, hvn, dvn⟩ := S4.se.get (i := 1) rfl
  have evn := dq_int dvn
  subst evn
  refine ⟨.ref a, S4.se.raw (i := 2) rfl, _, hvn, a, (n : Int), dx, _, rfl, rfl, ha, a, l, s, .int (n : Int), D4, rfl, S4.sb, R4, .inr ⟨n, rfl, kI, fun D5 H5 f5 => ⟨⟨_, rfl⟩, false, rfl, ?_⟩⟩⟩
  dsimp only
  rw [if_neg (by decide)]
  have f25 := f24.trans f5
  have S5 := S.fw f25
  have R5 := Ra.fw f25
  have e25 : (25 : Int) - (n : Int) = ((25 - n : Nat) : Int) := by omega
  refine eqO_go (i := 2) (s2 := ⟨25 - n, (none, [], 0), []⟩) S5 rfl R5 (fun Q' q => mk_go S5 ((ed_op ed_int (ed_var (i := 1) rfl) r_I0i).is (by rw [e25])) (by omega) (by omega) fun x l' D6 H6 _ _ f6 R6 => q x D6 H6 f6 ⟨l', R6⟩) fun D7 H7 f7 => ?_
  have ne : eqH s ⟨25 - n, (none, [], 0), []⟩ = false := by
    unfold eqH
    rw [decide_eq_false (show ¬ s.n = 25 - n by omega), Bool.false_and]
  rw [ne]
  refine ⟨false, rfl, ?_⟩
  dsimp only
  rw [if_neg (by decide)]
  exact k D7 H7 (f25.trans f7)
/-- all taken back -/
theorem l_backs (S : LB K z0 (dl sa n a b r) D H σ) (Ra : RollH K C D H a l s) (Rb : RollH K C D H b m s2) (A : Acc K D H r (s.rows.map pstD)) (top : ∃ rest, s.rows = (none, [], 0) :: rest) (hn : s.n = n) (hb : b ∉ [a, l]) (hm : m ∉ [a, l]) (hr : r ∉ [a, l])
    (k : ∀ D2 H2 σ2, LB K z0 (dl sa n a b r) D2 H2 σ2 → RollH K C D2 H2 a l ⟨n, (none, [], 0), []⟩ → RollH K C D2 H2 b m s2 → Acc K D2 H2 r (s.rows.map pstD) → tz En σ2 H2) :
    tSeq (tFor (iList K (tSl (rSlL K) (tVar 4) (tPart (tC (.int 1))) tNoPart)) (gName 10) (tDrop (tMeth C "back" (spHBack K C KD) [] E (tVar 2) tNil))) tz En σ H := by
  obtain ⟨nr, xs, hrx, hd⟩ := id A
  refine e_forP (En := { En with nx := tz En }) (ds := (s.rows.map pstD).drop 1) S (fun R kk => ?_) (fun i δ' D' H' => δ' = dl sa n a b r ∧ ∃ s' : RH, s'.n = n ∧ s'.rows = s.rows.take (s.rows.length - i) ∧ RollH K C D' H' a l s' ∧ RollH K C D' H' b m s2 ∧ Acc K D' H' r (s.rows.map pstD)) (fun D1 H1 f1 => ⟨rfl, s, hn, by rw [Nat.sub_zero, List.take_length], Ra.fw f1, Rb.fw f1, A.chs (ps := []) (ChS.of f1) (by simp)⟩) ?_ ?_
  · refine ⟨.ref r, S.se.raw (i := 4) rfl, 1, rfl, r, xs, rfl, sq_of hrx, fun p hp => ?_⟩
    rw [cut_1]
    have f := Fw.alloc (o := .lst (xs.drop 1)) S.sb hp trivial
    exact ⟨p, rfl, ⟨_, sq_of upd_same⟩, kk _ _ _ f (wk_list upd_same (dqa_ex f.dx _ _ (dqa_drop 1 hd)))⟩
  · rintro i d δ' D' H' σ' v D2 H2 hi L ⟨rfl, s', e1, e2, R', Rb', A'⟩ f dv
    have lt : i < s.rows.length - 1 := by
      obtain ⟨z, _⟩ := List.getElem?_eq_some_iff.mp hi
      rw [List.length_drop, List.length_map] at z
      exact z
    have L2 : LB K z0 (dl sa n a b r) D2 H2 (σ'.set 10 (some v)) := LB.forget (LB.dat (i := 10) (v := v) (L.fw f) dv) 10
    have R2 := R'.fw f
    obtain ⟨_, _, _, dx, _, _, _, _, _, h1, _⟩ := id R2
    have hpl : s'.past.length = s.rows.length - (i + 1) := by
      have := congrArg List.length e2
      unfold RH.rows at this
      rw [List.length_append, List.length_take, List.length_singleton] at this
      have e : (s.past ++ [s.now]).length = s.rows.length := rfl
      rw [e] at this
      omega
    have hpast : s'.past = s.rows.take (s.rows.length - (i + 1)) := by
      have e3 : s'.past = s'.rows.take s'.past.length := by unfold RH.rows; rw [List.take_left]
      rw [e3, hpl, e2, List.take_take, Nat.min_eq_left (by omega)]
    obtain ⟨p, hg⟩ : ∃ p, s'.past.getLast? = some p := by
      cases hz : s'.past.getLast? with
      | some p => exact ⟨p, rfl⟩
      | none =>
        have := List.getLast?_eq_none_iff.mp hz
        rw [this] at hpl
        have hpl : 0 = s.rows.length - (i + 1) := hpl
        omega
    obtain ⟨ys, e0⟩ := List.getLast?_eq_some_iff.mp hg
    show tMeth C "back" (spHBack K C KD) [] E (tVar 2) tNil (σ'.set 10 (some v)) H2 _
    refine ⟨.ref a, L2.se.raw (i := 2) rfl, a, dx, _, rfl, h1, lk_no (by decide), ?_⟩
    refine ⟨a, l, s', (), D2, L2.sb, .cons rfl .nil, R2, trivial, fun dd ed v3 D3 H3 ch3 R3 dv3 => ?_, fun q eq => by dsimp only at eq; rw [hg] at eq; cases eq⟩
    have er : (bPost s').rows = s'.past := by
      unfold bPost RH.rows
      rw [hg, e0, List.dropLast_concat]
    have en : (bPost s').n = s'.n := by
      unfold bPost
      rw [hg]
    exact ⟨dl sa n a b r, D3, L2.chs ch3, f.dx.trans ch3.dx, rfl, bPost s', en.trans e1, er.trans hpast, R3, (Rb'.fw f).chs ch3 hb hm, (A'.chs (ps := []) (ChS.of f) (by simp)).chs ch3 hr⟩
  · rintro δ' D' H' σ' L ⟨rfl, s', e1, e2, R', Rb', A'⟩
    obtain ⟨rest, et⟩ := top
    have e3 : s'.rows = [(none, [], 0)] := by
      rw [e2, List.length_drop, List.length_map, et, List.length_cons, show rest.length + 1 - (rest.length + 1 - 1) = 1 by omega]
      rfl
    obtain ⟨n', now', past'⟩ := s'
    have e1 : n' = n := e1
    have e3 : past' ++ [now'] = [] ++ [(none, [], 0)] := e3
    obtain ⟨e4, e5⟩ := List.append_inj' e3 rfl
    have e5 := (List.cons.inj e5).1
    subst e1 e4 e5
    exact k D' H' σ' L R' Rb' A'
theorem first_ok (n2 : n ≤ 24) : RH.ok ⟨n, (none, [], 0), []⟩ := ⟨n2, Nat.zero_le _, (fun w e => by cases e), by show 0 < 900; decide⟩
/-- as a new one, and nothing left -/
theorem l_again (S : LB K z0 (dl sa n a b r) D H σ) (Ra : RollH K C D H a l ⟨n, (none, [], 0), []⟩) (Rb : RollH K C D H b m ⟨n, (none, [], 0), []⟩) (n2 : n ≤ 24)
    (k : ∀ D2 H2, ChS z0 [a, l] D H D2 H2 → RollH K C D2 H2 a l ⟨n, (none, [], 0), []⟩ → tz En σ H2) :
    tSeq (tIfS (tOr (tNot (tTest (tOp (rEqO C (spHEq K C)) (tVar 2) (tVar 3)))) (tTest (tOp (rNeD K) (tCall (spDid K C KD) [] E (tCons (tVar 2) (tCons (tTup (tCons (tC (.str "back")) tNil)) tNil))) (tC (.str "NothingLeft"))))) ts tNext) tz En σ H := by
  show tOp (rEqO C (spHEq K C)) (tVar 2) (tVar 3) σ H _
  refine eqO_go S rfl Ra (fun Q' q => ⟨.ref b, S.se.raw (i := 3) rfl, q b D H (Fw.refl S.sb) ⟨m, Rb⟩⟩) fun D2 H2 f2 => ?_
  have ee : eqH ⟨n, (none, [], 0), []⟩ ⟨n, (none, [], 0), []⟩ = true := by
    unfold eqH
    rw [decide_eq_true rfl, Bool.true_and]
    rfl
  rw [ee]
  refine ⟨true, rfl, ?_⟩
  dsimp only
  rw [if_neg (by decide)]
  have S2 := S.fw f2
  refine ⟨.ref a, S2.se.raw (i := 2) rfl, ?_⟩
  refine (ed_tup (ds := [.str "back"]) (δ := dl sa n a b r) (ea_consD ed_str ea_nilD)) σ D2 H2 S2.sb S2.se _ fun vd D3 H3 f3 dvd => ?_
  have f23 := f2.trans f3
  refine ⟨a, l, ⟨n, (none, [], 0), []⟩, .back, D3, f3.sb, .cons rfl (.cons dvd .nil), Ra.fw f23, first_ok n2, trivial, fun v D4 H4 ch4 R4 dv4 => ?_⟩
  have dv4 : Dq K D4 v (.str "NothingLeft") := dv4
  have R4 : RollH K C D4 H4 a l ⟨n, (none, [], 0), []⟩ := R4
  dsimp only [tC]
  refine r_neD (a := .str "NothingLeft") (b := .str "NothingLeft") (by decide +kernel) (by decide +kernel) v (.str "NothingLeft") D4 H4 ch4.sb dv4 (.str _) _ fun z5 D5 H5 f5 dz5 => ?_
  rw [selfH (by decide +kernel)] at dz5
  refine ⟨false, dq_bool dz5, ?_⟩
  rw [if_neg (by decide)]
  exact k D5 H5 (ChS.twoH (R4.fw f5) (ChS.twoH R4 (ChS.of f23) ch4) (ChS.of f5)) (R4.fw f5)
theorem cut_to1 (x : V) (xs : List V) : cutV (x :: xs) none (some 1) = [x] := by
  unfold cutV
  rw [show HT.sIx (x :: xs).length (x :: xs).length (some 1) = min 1 (x :: xs).length from HT.sIx_nat _ _ 1, HT.sIx_none, Nat.min_eq_left (by rw [List.length_cons]; omega)]
  rfl
/-- as it stood at first -/
theorem l_stand1 {rest : List PyData} (S : LB K z0 (dl sa n a b r) D H σ) (Ra : RollH K C D H a l ⟨n, (none, [], 0), []⟩) (A : Acc K D H r (pstD (none, [], 0) :: rest)) (n2 : n ≤ 24)
    (k : ∀ D2 H2, LB K z0 (dl sa n a b r) D2 H2 σ → tz En σ H2) :
    tSeq (tIfS (tNot (tB (tCall (spStand K C KD) [] E (tCons (tVar 2) (tCons (tVar 1) (tCons (tSl (rSlL K) (tVar 4) tNoPart (tPart (tC (.int 1)))) tNil)))))) ts tNext) tz En σ H := by
  obtain ⟨nr, xs, hrx, hd⟩ := id A
  cases hd with
  | cons hd0 hd =>
  rename_i x0 xs0
  obtain ⟨vn, hvn, dvn⟩ := S.se.get (i := 1) rfl
  refine ⟨.ref a, S.se.raw (i := 2) rfl, vn, hvn, .ref r, S.se.raw (i := 4) rfl, 1, rfl, r, _, rfl, sq_of hrx, fun p hp => ?_⟩
  rw [cut_to1]
  have f := Fw.made (o := .lst [x0]) S.sb hp
  refine ⟨a, l, p, ⟨n, (none, [], 0), []⟩, D, f.sb, .cons rfl (.cons dvn (.cons rfl .nil)), Ra.fw f, ⟨[], x0, sq_of upd_same, hd0⟩, first_ok n2, fun D2 H2 ch2 R2 => ⟨true, rfl, ?_⟩⟩
  dsimp only
  rw [if_neg (by decide)]
  exact k D2 H2 ((S.fw f).chs ch2)
/-- the kinds that were told -/
theorem l_kinds (S : LB K z0 δ D H σ) (hi : δ[11]? = some (.raw (.ref p))) (A : Acc K D H p (List.replicate 8 (.str "NoStrip"))) (k : ∀ H', En.rt (.bl true) H') :
    tRet (tOp (rEqD K) (tVar 11) (tOp rRep (tLst (tCons (tC (.str "NoStrip")) tNil)) (tC (.int 8)))) En σ H := by
  obtain ⟨nD, ys, hy, dy⟩ := A
  have sb' := S.sb.give nD hy (fun z => by cases z)
  refine ⟨.ref p, S.se.raw hi, by show 1 ≤ sizeLine; decide, fun q hq => ⟨q, 8, [.str "NoStrip"], rfl, rfl, upd_same, by decide, by decide, by show 8 ≤ sizeLine; decide, fun t ht => ?_⟩⟩
  have f1 := Fw.alloc (o := .lst [.str "NoStrip"]) sb' hq trivial
  have f2 := Fw.alloc (o := .lst (List.replicate (8 : Int).toNat [V.str "NoStrip"]).flatten) f1.sb ht trivial
  have dp : Dq K (upd D p (.lst ys)) (.ref p) (.list (List.replicate 8 (.str "NoStrip"))) := .lst upd_same (dqa_ex (Ex.new nD) _ _ dy)
  have dt : Dq K (upd (upd (upd D p (.lst ys)) q (.lst [.str "NoStrip"])) t (.lst (List.replicate (8 : Int).toNat [V.str "NoStrip"]).flatten)) (.ref t) (.list (List.replicate 8 (.str "NoStrip"))) := .lst upd_same (.cons (.str _) (.cons (.str _) (.cons (.str _) (.cons (.str _) (.cons (.str _) (.cons (.str _) (.cons (.str _) (.cons (.str _) .nil))))))))
  have sh : SeqAt.shaped (.list (List.replicate 8 (.str "NoStrip"))) = true := by decide +kernel
  refine ⟨_, _, dp_ex f2.sb.ex _ _ (dq_dp _ _ (dq_ex (f1.trans f2).dx _ _ dp)), dp_ex f2.sb.ex _ _ (dq_dp _ _ dt), sh, sh, ?_⟩
  rw [selfH sh]
  exact k _
def thingsL : List PyData := [.int 0, .int 25, .bool true, .none, .str "5", .tuple [.int 5], .int (-1), .int 26]
theorem things_no : ∀ d ∈ thingsL, inB 1 24 d = false := by
  intro d hd
  unfold thingsL at hd
  simp only [List.mem_cons, List.not_mem_nil, or_false] at hd
  rcases hd with rfl | rfl | rfl | rfl | rfl | rfl | rfl | rfl <;> decide
abbrev dk (sa : Addr) (n : Nat) (a b r p : Addr) : List Sl := [.raw (.ref sa), .dat (di n), .raw (.ref a), .raw (.ref b), .raw (.ref r), .un, .un, .un, .un, .un, .un, .raw (.ref p), .un, .un]
/-- what is no strip -/
theorem l_refused {mg : Str → Option Value} {RE : Addr} (KK : Kinds K mg RE KD kindW) (S : LB K z0 (dk sa n a b r p) D H σ) (A : Acc K D H p []) (wi : TI) (hw : EI K z0 wi (dk sa n a b r p) thingsL)
    (k : ∀ D2 H2 σ2, LB K z0 (dk sa n a b r p) D2 H2 σ2 → Acc K D2 H2 p (List.replicate 8 (.str "NoStrip")) → tz En σ2 H2) :
    tSeq (tFor wi (gName 12) (fun Dn σ H => tTryL K C KD (wAs K (.ref RE) 13 (tTryS K KD) (fun _ _ _ _ => False) Dn) Dn σ H)) tz En σ H := by
  have nb : z0.bag ≠ some p := fun z => by cases z
  refine l_forN S hw (fun i δ' D' H' => δ' = dk sa n a b r p ∧ Acc K D' H' p (List.replicate i (.str "NoStrip"))) (fun i δ' D' H' D2 H2 h f => ⟨h.1, h.2.fw f nb⟩) ⟨rfl, A⟩ ?_ (fun δ' D' H' σ' L ex h => by obtain ⟨rfl, h⟩ := h; exact k D' H' σ' L h)
  rintro i d δ' Db D' H' σ' hi L ex exb ⟨rfl, A'⟩
  have hin := things_no d (List.mem_of_getElem? hi)
  obtain ⟨v12, h12, d12⟩ := L.se.get (i := 12) rfl
  have lt : i < 8 := by
    obtain ⟨z, _⟩ := List.getElem?_eq_some_iff.mp hi
    exact z
  refine ⟨v12, h12, fun x dx hx hdx ne => ?_⟩
  have g1 := Fw.made (o := .own x) L.sb hdx
  have hx1 : (upd H' dx (.own x)) x = none := by rw [upd_ne (Ne.symm ne)]; exact hx
  have g2 := Fw.made (o := .ins C dx []) g1.sb hx1
  refine ⟨x, dx, d, v12, D', rfl, g2.sb, upd_same, L.sb.free hx, d12, .inr ⟨hin, fun D2 H2 f2 => ?_⟩⟩
  have f12 := (g1.trans g2).trans f2
  show wAs K (.ref RE) 13 (tTryS K KD) (fun _ _ _ _ => False) _ (.ref (KD 1)) none σ' H2
  refine ⟨true, KK.m 1 (by decide), fun _ ae hae => ?_, fun z => by cases z⟩
  have Lz : LB K z0 _ D2 H2 (σ'.set 13 (some (.ref ae))) := LB.raw (i := 13) (L.fw f12)
  obtain ⟨nD, ys, hy, dy⟩ := A'.fw f12 nb
  refine ⟨.ref p, Lz.se.raw (i := 11) rfl, .inl ⟨rfl, ys, sq_of hy⟩, .ref ae, Lz.se.raw (i := 13) rfl, rfl, 1, by decide, rfl, rfl, fun H3 e3 => ?_⟩
  have f3 := Fw.ofEx f12.sb e3
  have hy3 := f3.keep hy trivial nb
  refine ⟨p, ys, .str (kindW 1), rfl, rfl, hy3, sz_lt (by rw [dqa_len dy, List.length_replicate]; omega), ?_⟩
  have sb4 : Sb z0 D2 (upd H3 p (.lst (ys ++ [.str (kindW 1)]))) := f3.sb.put nD hy3 trivial nb
  refine ⟨dk sa n a b r p, D2, ⟨sb4, ?_⟩, exb.trans f12.dx, rfl, nD, _, upd_same, ?_⟩
  · have := SE.set (x := none) (s := .un) trivial 13 ((LB.forget Lz 12).se)
    exact this
  · rw [List.replicate_succ']
    exact dqa_append dy (.cons (.str _) .nil)
end
end Nr
namespace Nr
open PySem PySem.Spec PyProof.Rows L2 Evl
def spLaw0 (K : PySem.W.Frag) : Sp := fun vs H Q _ => ∃ (a : Addr) (ns : List Int), vs = [.ref a] ∧ SqL K H a (ns.map V.int) ∧ ns.length ≤ 63 ∧ ∀ H', Q (.bl true) H'
theorem sh_str0 {x : Str} (h : (PyData.str x).canLay0 = true) : SeqAt.shaped (.str x) = true := by
  unfold SeqAt.shaped
  rw [h]
  rfl
theorem sh_out {s : RH} {x : Deed} : SeqAt.shaped (outD (dOut s x)) = true := by
  have kn : ∀ i, i < 5 → SeqAt.shaped (.str (kindW i)) = true := fun i hi => by
    rcases (show i = 0 ∨ i = 1 ∨ i = 2 ∨ i = 3 ∨ i = 4 by omega) with rfl | rfl | rfl | rfl | rfl <;> decide +kernel
  cases x with
  | light => exact sh_lOut s
  | back =>
    show SeqAt.shaped (outD (bOut s)) = true
    unfold bOut
    split
    · exact kn 4 (by decide)
    · rfl
  | wind y =>
    cases y with
    | inl d => exact kn 2 (by decide)
    | inr w => rfl
  | prick y =>
    cases y with
    | inl d => exact kn 0 (by decide)
    | inr q =>
      show SeqAt.shaped (outD (pOut s (.inr q))) = true
      cases hw : s.now.1 with
      | none => rw [(p_none hw).2]; exact kn 3 (by decide)
      | some w => rw [(p_some hw).2]; exact sh_tup _
section
variable {P : Program} {w : World} {K : PySem.W.Frag} {mg : Str → Option Value} {base : Heap}
abbrev sLaw : Stmt := topS 50 /- law -/
abbrev nLaw : List Str := ["script", "many", "roll", "other", "rows", "k", "bag", "turn", "deed", "due", "row", "kinds", "thing", "e"]
theorem scLaw : FnScope nLaw ["script"] (defScope sLaw) := ⟨rfl, rfl, rfl, by decide +kernel, rfl, by decide +kernel, by decide +kernel⟩
theorem ok_Law {f : Addr} {fd : FuncData} {C : Addr} (RC : RCls K C) (F : Fun K "law" "law" sLaw f fd) {RE : Addr} {D : Nat → Addr} (KD : Kinds K mg RE D kindW) (m_range : mg "range" = none) (m_min : mg "min" = none) (m_len : mg "len" = none)
    {f0 : Addr} {fd0 : FuncData} (C__law_take : Can P w K mg base "_law_take" 1 f0 fd0 ["bag", "count"] spTake)
    {f1 : Addr} {fd1 : FuncData} (C__law_bag : Can P w K mg base "_law_bag" 1 f1 fd1 ["script", "k"] (spBag K))
    {f2 : Addr} {fd2 : FuncData} (C__law_a_deed : Can P w K mg base "_law_a_deed" 4 f2 fd2 ["bag"] (spADeed K))
    {f3 : Addr} {fd3 : FuncData} (C__law_due : Can P w K mg base "_law_due" 4 f3 fd3 ["many", "rows", "deed"] (spDue K))
    {f4 : Addr} {fd4 : FuncData} (C__law_stands_so : Can P w K mg base "_law_stands_so" 8 f4 fd4 ["roll", "many", "rows"] (spStand K C D))
    {f5 : Addr} {fd5 : FuncData} (C__law_did : Can P w K mg base "_law_did" 7 f5 fd5 ["roll", "deed"] (spDid K C D))
    {fm0 : Addr} {fdm0 : FuncData} (M___eq__ : CanM P w K mg base C "__eq__" 1 fm0 fdm0 ["self", "other"] (spHEq K C))
    {fm1 : Addr} {fdm1 : FuncData} (M_back : CanN P w K mg base C "back" 1 fm1 fdm1 ["self"] (spHBack K C D))
    {fmi : Addr} {fdmi : FuncData} (MK : Mk K C fmi) (F_init : FnOk P w K mg base (L2N.CX P w) 4 fmi fdmi ["self", "many"] (spHInit K C D)) (B_init : Binds K fdmi ["self", "many"] []) (m_Roll : mg "Roll" = some (.ref C)) (NF : PySem.W.notFirst K C (.type "int") = true) (kI : PySem.W.kitOne K (.type "int") (.ref C) = some false) (m_RE : mg "RollError" = some (.ref RE))
    {fk : Addr} {fdk : FuncData} (KF : ∀ B : Heap, L2H.FnH P w K mg B CX0 1 fk fdk ["e"] (spKind K B D)) (m_K : mg "_law_kind" = some (.ref fk)) (k_K : PySem.W.keepIn K (.ref fk) = true) (b_K : Binds K fdk ["e"] []) :
    FnOk P w K mg base CX0 9 f fd ["script"] (spLaw0 K) := by
  refine F.ok scLaw (fun vs H Q E h => ?_) (fun cdv A outer s H vs Q E hr h => ?_)
  · obtain ⟨a, ns, rfl, _⟩ := h
    rfl
  obtain ⟨sa, ns, rfl, hS, hlen, q⟩ := h
  have nd := scLaw.nd
  have nbz : ∀ q : Addr, z0.bag ≠ some q := fun q z => by cases z
  refine ⟨_, (pss_cons (ps_set (i := 1) nd rfl (.inl rfl) (pe_op op_add pe_int (pcall C__law_take hr (pa_cons (pcall C__law_bag hr (pa_cons (pv 0) (pa_cons pe_int pa_nil))) (pa_cons pe_int pa_nil)))))
    (pss_cons (ps_par3 (i := 2) (j := 3) (l := 4) (by rfl) nd rfl rfl rfl (by decide) (by decide) (by decide) rfl rfl rfl (pa_cons (pe_make MK F_init (hr.mono (by decide)) (by rfl) m_Roll B_init .nil passN (pa_cons (pv 1) pa_nil)) (pa_cons (pe_make MK F_init (hr.mono (by decide)) (by rfl) m_Roll B_init .nil passN (pa_cons (pv 1) pa_nil)) (pa_cons (pe_lst (pa_cons (pe_tup (pa_cons pe_non (pa_cons (pe_tup pa_nil) (pa_cons pe_int pa_nil)))) pa_nil)) pa_nil))) (by rfl))
    (pss_cons (ps_for PassesOwn.never rfl (pi_range1 (by rfl) m_range (pa_cons (pe_op op_add (pe_callB (call_min2 (by rfl)) (by rfl) m_min PyProof.Rows.boot_min (pa_cons (pe_callB call_len_seq (by rfl) m_len PySem.boot_len (pa_cons (pv 0) pa_nil)) (pa_cons pe_int pa_nil))) pe_int) pa_nil)) (pg_name (i := 5) nd rfl (.inl rfl))
    (pss_cons (ps_set (i := 6) nd rfl (.inl rfl) (pcall C__law_bag hr (pa_cons (pv 0) (pa_cons (pe_op op_add (pv 5) pe_int) pa_nil))))
    (pss_one (ps_for PassesOwn.never rfl (pi_range1 (by rfl) m_range (pa_cons pe_int pa_nil)) (pg_name (i := 7) nd rfl (.inl rfl))
    (pss_cons (ps_set (i := 8) nd rfl (.inl rfl) (pcall C__law_a_deed hr (pa_cons (pv 6) pa_nil)))
    (pss_cons (ps_set (i := 9) nd rfl (.inl rfl) (pcall C__law_due hr (pa_cons (pv 1) (pa_cons (pv 4) (pa_cons (pv 8) pa_nil)))))
    (pss_one (ps_if (PW.pt (pw_or (pt_cmpR (op_neD hr.units) (pcall C__law_did hr (pa_cons (pv 2) (pa_cons (pv 8) pa_nil))) (pv 9) (nomark _)) (pw_or1 (pt_not (pt_val (pcall C__law_stands_so hr (pa_cons (pv 2) (pa_cons (pv 1) (pa_cons (pv 4) pa_nil))))))))) (pss_one (ps_ret pe_bl)) pss_nil))))))))
    (pss_cons (ps_if (PW.pt (pw_or (pt_cmpR op_ne (pe_cmpR (op_eqO M___eq__.ok M___eq__.me.at_ M___eq__.me.fn M___eq__.bd hr (by decide)) (pv 2) (pv 3) (nomark _)) (pe_cmpR (op_eqD hr.units) (pe_ix ix_list (pv 4) (pe_un un_neg pe_int) (fun _ _ => rfl)) (pe_tup (pa_cons pe_non (pa_cons (pe_tup pa_nil) (pa_cons pe_int pa_nil)))) (nomark _)) (nomark _)) (pw_or (pt_cmpR (op_eqI M___eq__.ok M___eq__.me.at_ M___eq__.me.fn M___eq__.bd hr NF (by decide)) (pv 2) (pv 1) (nomark _)) (pw_or1 (pt_cmpR (op_eqO M___eq__.ok M___eq__.me.at_ M___eq__.me.fn M___eq__.bd hr (by decide)) (pv 2) (pe_make MK F_init (hr.mono (by decide)) (by rfl) m_Roll B_init .nil passN (pa_cons (pe_op op_sub pe_int (pv 1)) pa_nil)) (nomark _)))))) (pss_one (ps_ret pe_bl)) pss_nil)
    (pss_cons (ps_for PassesOwn.never rfl (pi_list (pe_slice sl_list (pv 4) (po_some pe_int) po_none)) (pg_name (i := 10) nd rfl (.inl rfl))
    (pss_one (ps_expr (pmN0 M_back RC.cls hr passN (pv 2)))))
    (pss_cons (ps_if (PW.pt (pw_or (pt_not (pt_cmpR (op_eqO M___eq__.ok M___eq__.me.at_ M___eq__.me.fn M___eq__.bd hr (by decide)) (pv 2) (pv 3) (nomark _))) (pw_or1 (pt_cmpR (op_neD hr.units) (pcall C__law_did hr (pa_cons (pv 2) (pa_cons (pe_tup (pa_cons pe_str pa_nil)) pa_nil))) pe_str (nomark _))))) (pss_one (ps_ret pe_bl)) pss_nil)
    (pss_cons (ps_if (pt_not (pt_val (pcall C__law_stands_so hr (pa_cons (pv 2) (pa_cons (pv 1) (pa_cons (pe_slice sl_list (pv 4) po_none (po_some pe_int)) pa_nil)))))) (pss_one (ps_ret pe_bl)) pss_nil)
    (pss_cons (ps_set (i := 11) nd rfl (.inl rfl) (pe_lst pa_nil))
    (pss_cons (ps_for PassesOwn.never rfl (pi_tup (pe_tup (pa_cons pe_int (pa_cons pe_int (pa_cons pe_bl (pa_cons pe_non (pa_cons pe_str (pa_cons (pe_tup (pa_cons pe_int pa_nil)) (pa_cons (pe_un un_neg pe_int) (pa_cons pe_int pa_nil)))))))))) (pg_name (i := 12) nd rfl (.inl rfl))
    (pss_one (L2N.ps_try_as (i := 13) (tb := tTryL K C D) (ts := tTryS K D) (Wout := fun _ _ _ _ => False) rfl rfl nd rfl rfl ⟨rfl, by decide, .inl m_RE⟩ takes0N (fun W pn xe tk _ => (pss_cons (ps_expr (by exact (pe_makeS MK F_init (hr.mono (by decide)) (by rfl) m_Roll B_init (fun σ => L2N.passAt tk σ) (by exact (pa_cons (pv 12) pa_nil))))) (pss_one (ps_expr (pe_bm PySem.F.plainAttrs_list PySem.F.slot_list_append PySem.F.type_list_append mt_append (pv 11) (pa_cons pe_str pa_nil)))))) (fun a oe cls d pn hz hf => (pss_one (ps_expr (pe_bm PySem.F.plainAttrs_list PySem.F.slot_list_append PySem.F.type_list_append mt_append (pv 11) (by exact (pa_cons (pe_kind KF (hr.mono (by decide)) hz hf m_K k_K b_K (by exact (pa_cons (pv 13) pa_nil))) pa_nil)))))))))
    (pss_one (ps_ret (pe_cmpR (op_eqD hr.units) (pv 11) (pe_op op_rep (pe_lst (pa_cons pe_str pa_nil)) pe_int) (nomark _))))))))))))), ?_⟩
  refine l_many (ns := ns) (LB.law0 (N := nLaw)) rfl hS fun r0 σ1 D1 H1 hr0 f1 S1 => ?_
  obtain ⟨n, en⟩ : ∃ n, n = 1 + r0 := ⟨_, rfl⟩
  rw [← en] at S1
  have hn1 : 1 ≤ n := by omega
  have hn2 : n ≤ 24 := by omega
  have S1 : LB K z0 [.raw (.ref sa), .dat (di n), .un, .un, .un, .un, .un, .un, .un, .un, .un, .un, .un, .un] D1 H1 σ1 := S1
  have hS1 : SqL K H1 sa (ns.map V.int) := sq_chs (ps := []) hS (ChS.of f1) (.inl (by simp))
  refine l_three S1 hn1 hn2 hS1 fun a l b m r D4 H5 σ5 S5 W5 ap => ?_
  have ne_of : ∀ {H' : Hp} {x y : Addr} {o : HO}, H' x = some o → H' y = none → x ≠ y := fun h1 h2 z => by rw [z, h2] at h1; cases h1
  have G5 : GoodR n ⟨n, (none, [], 0), []⟩ := ⟨rfl, hn1, hn2, fun p hp => by rw [List.mem_singleton.mp hp]; exact ⟨.nil, (fun y hy => by cases hy), (fun w e => by cases e)⟩, [], rfl⟩
  -- the deeds
  refine rng_for (j := 5) (A := 14) (B := 1) (ns := ns) (S5.se.raw (i := 0) rfl) W5.scr (by decide) (fun k σ' H' => ∃ D' s', LB K z0 [.raw (.ref sa), .dat (di n), .raw (.ref a), .raw (.ref b), .raw (.ref r), .un, .un, .un, .un, .un, .un, .un, .un, .un] D' H' σ' ∧ Wd K C n a l b m r sa (ns.map V.int) D' H' s' ∧ GoodR n s' ∧ s'.past.length ≤ 3 * k) ⟨D4, _, S5, W5, G5, Nat.zero_le _⟩ ?_ ?_
  · rintro k σ6 H6 hk ⟨D6, s6, S6, W6, G6, hp6⟩
    have S6 := LB.dat (i := 5) (v := .int (k : Int)) S6 (.int _)
    have S6 : LB K z0 [.raw (.ref sa), .dat (di n), .raw (.ref a), .raw (.ref b), .raw (.ref r), .dat (di k), .un, .un, .un, .un, .un, .un, .un, .un] D6 H6 (σ6.set 5 (some (.int (k : Int)))) := S6
    -- bag
    obtain ⟨vk, hvk, dvk⟩ := S6.se.get (i := 5) rfl
    have evk := dq_int dvk
    subst evk
    refine ⟨.ref sa, S6.se.raw (i := 0) rfl, _, hvk, (k : Int), 1, rfl, rfl, sa, ns, k + 1, by rfl, W6.scr, by omega, fun p H7 hp ex hb => ?_⟩
    have f7 := Fw.ofEx S6.sb ex
    have W7 := W6.fw f7
    have B7 : Bag H7 p ∧ D6 p = none := ⟨hb, S6.sb.free hp⟩
    have S7 : LB K z0 [.raw (.ref sa), .dat (di n), .raw (.ref a), .raw (.ref b), .raw (.ref r), .dat (di k), .raw (.ref p), .un, .un, .un, .un, .un, .un, .un] D6 H7 _ := LB.raw (i := 6) (v := .ref p) (S6.fw f7)
    obtain ⟨_, _, _, _, _, _, _, _, _, ha6, hl6, _⟩ := id W6.roll
    obtain ⟨_, _, _, _, _, _, _, _, _, hb6, hm6, _⟩ := id W6.oth
    obtain ⟨_, xr6, hr6, _⟩ := id W6.rows
    have np : p ∉ [a, l, b, m, r] := by
      simp only [List.mem_cons, List.not_mem_nil, or_false, not_or]
      exact ⟨Ne.symm (ne_of ha6 hp), Ne.symm (ne_of hl6 hp), Ne.symm (ne_of hb6 hp), Ne.symm (ne_of hm6 hp), Ne.symm (ne_of hr6 hp)⟩
    have nsp : sa ≠ p ∨ ∀ H', SqL K H' sa (ns.map V.int) := by
      rcases W6.scr with h | h
      · refine .inl ?_
        rcases h with h | ⟨o, h⟩
        · exact ne_of h hp
        · exact ne_of h hp
      · exact .inr fun H' => .inr h
    have npr : p ∉ [r] := fun z => np (by simp [List.mem_singleton.mp z])
    have npa : p ∉ [a, l] := fun z => np (List.mem_append_left [b, m, r] z)
    -- three deeds
    refine ⟨3, rfl, by decide, by decide, ?_⟩
    refine for_range (lo := 0) (n := 3) (fun t σ' H' => ∃ D' s', LB K z0 [.raw (.ref sa), .dat (di n), .raw (.ref a), .raw (.ref b), .raw (.ref r), .un, .raw (.ref p), .un, .un, .un, .un, .un, .un, .un] D' H' σ' ∧ Wd K C n a l b m r sa (ns.map V.int) D' H' s' ∧ GoodR n s' ∧ s'.past.length ≤ 3 * k + t ∧ Bag H' p ∧ D' p = none) ⟨D6, s6, S7.forget 5, W7, G6, hp6, B7⟩ ?_ ?_
    · rintro t σ8 H8 ht ⟨D8, s8, S8, W8, G8, hp8, B8⟩
      have S8 := LB.forget (LB.dat (i := 7) (v := .int (0 + (t : Int))) S8 (.int _)) 7
      have S8 : LB K z0 [.raw (.ref sa), .dat (di n), .raw (.ref a), .raw (.ref b), .raw (.ref r), .un, .raw (.ref p), .un, .un, .un, .un, .un, .un, .un] D8 H8 (σ8.set 7 (some (.int (0 + (t : Int))))) := S8
      have ok8 := G8.ok (by omega)
      -- deed
      refine ⟨.ref p, S8.se.raw (i := 6) rfl, p, (), D8, sb_bag S8.sb B8, .cons rfl .nil, trivial, fun vd dd D9 H9 f9 hF dvd => ?_⟩
      obtain ⟨x, dok, nlx, rfl⟩ := hF
      have ch9 := ChS.bag f9
      have W9 := W8.drawn ch9 np nsp
      have B9 : Bag H9 p ∧ D9 p = none := f9.sb.bag p rfl
      have S9 : LB K z0 [.raw (.ref sa), .dat (di n), .raw (.ref a), .raw (.ref b), .raw (.ref r), .un, .raw (.ref p), .un, .dat (deedD x), .un, .un, .un, .un, .un] D9 H9 _ := LB.dat (i := 8) (v := vd) (S8.chs ch9) dvd
      -- due
      obtain ⟨vn, hvn, dvn⟩ := S9.se.get (i := 1) rfl
      obtain ⟨vx, hvx, dvx⟩ := S9.se.get (i := 8) rfl
      refine ⟨vn, hvn, .ref r, S9.se.raw (i := 4) rfl, vx, hvx, r, s8, x, D9, S9.sb, .cons (by rw [G8.n]; exact dvn) (.cons rfl (.cons dvx .nil)), W9.rows, ok8, dok, nlx, fun v10 D10 H10 ch10 A10 dv10 => ?_⟩
      have Ra10 := W9.roll.chs ch10 (by simp [ap.ar]) (by simp [ap.lr])
      have Rb10 := W9.oth.chs ch10 (by simp [ap.br]) (by simp [ap.mr])
      have sc10 : SqL K H10 sa (ns.map V.int) := sq_chs W9.scr ch10 (ap.s.imp (fun z => by simp only [List.mem_cons, List.not_mem_nil, or_false, not_or] at z ⊢; exact z.2.2) id)
      have B10 := bag_chs B9 ch10 npr
      have S10 : LB K z0 [.raw (.ref sa), .dat (di n), .raw (.ref a), .raw (.ref b), .raw (.ref r), .un, .raw (.ref p), .un, .dat (deedD x), .dat (outD (dOut s8 x)), .un, .un, .un, .un] D10 H10 _ := LB.dat (i := 9) (v := v10) (S9.chs ch10) dv10
      -- did
      obtain ⟨vx2, hvx2, dvx2⟩ := S10.se.get (i := 8) rfl
      refine ⟨.ref a, S10.se.raw (i := 2) rfl, vx2, hvx2, a, l, s8, x, D10, S10.sb, .cons rfl (.cons dvx2 .nil), Ra10, ok8, dok, fun v11 D11 H11 ch11 R11 dv11 => ?_⟩
      have S11 := S10.chs ch11
      have A11 := A10.chs ch11 (by simp [Ne.symm ap.ar, Ne.symm ap.lr])
      refine (ed_var (i := 9) (d := outD (dOut s8 x)) rfl) _ D11 H11 S11.sb S11.se _ fun v12 D12 H12 f12 dv12 => ?_
      refine r_neD sh_out sh_out v11 v12 D12 H12 f12.sb (dq_ex f12.dx _ _ dv11) dv12 _ fun v13 D13 H13 f13 dv13 => ?_
      rw [selfH sh_out] at dv13
      refine ⟨false, dq_bool dv13, ?_⟩
      dsimp only
      rw [if_neg (by decide)]
      have f1113 := f12.trans f13
      have S13 := S11.fw f1113
      obtain ⟨G13, hp13⟩ := G8.step dok
      have ok13 := G13.ok (by omega)
      have er : (dPost s8 x).rows.map pstD = (dPost s8 x).past.map pstD ++ [pstD (dPost s8 x).now] := by unfold RH.rows; rw [List.map_append]; rfl
      have A13 := A11.chs (ps := []) (ChS.of f1113) (by simp)
      -- stands so
      obtain ⟨vn2, hvn2, dvn2⟩ := S13.se.get (i := 1) rfl
      refine ⟨.ref a, S13.se.raw (i := 2) rfl, vn2, hvn2, .ref r, S13.se.raw (i := 4) rfl, a, l, r, dPost s8 x, D13, S13.sb, .cons rfl (.cons (by rw [G13.n]; exact dvn2) (.cons rfl .nil)), R11.fw f1113, ?_, ok13, fun D14 H14 ch14 R14 => ?_⟩
      · have A13' := A13
        rw [er] at A13'
        exact A13'.last
      refine ⟨true, rfl, ?_⟩
      dsimp only
      rw [if_neg (by decide)]
      have c1114 : ChS z0 [a, l] D10 H10 D14 H14 := ChS.twoH R14 (ChS.twoH (R11.fw f1113) ch11 (ChS.of f1113)) ch14
      have W14 : Wd K C n a l b m r sa (ns.map V.int) D14 H14 (dPost s8 x) := ⟨R14, Rb10.chs c1114 (by simp [Ne.symm ap.ab, Ne.symm ap.lb]) (by simp [Ne.symm ap.am, Ne.symm ap.lm]), A13.chs ch14 (by simp [Ne.symm ap.ar, Ne.symm ap.lr]), sq_chs sc10 c1114 (ap.s.imp (fun z => by simp only [List.mem_cons, List.not_mem_nil, or_false, not_or] at z ⊢; exact ⟨z.1, z.2.1⟩) id)⟩
      have B14 := bag_chs B10 c1114 npa
      exact ⟨D14, dPost s8 x, ((S13.chs ch14).forget 8).forget 9, W14, G13, by omega, B14⟩
    · rintro σ8 H8 ⟨D8, s8, S8, W8, G8, hp8, _⟩
      exact ⟨D8, s8, S8.forget 6, W8, G8, by omega⟩
  · rintro k σ6 H6 hk ⟨D6, s6, S6, W6, G6, hp6⟩
    have hp6 : s6.past.length ≤ 45 := by omega
    refine l_ends S6 W6.roll W6.oth W6.rows G6.n hn1 hn2 kI fun D7 H7 f7 => ?_
    have W7 := W6.fw f7
    refine l_backs (S6.fw f7) W7.roll W7.oth W7.rows G6.top G6.n (by simp [Ne.symm ap.ab, Ne.symm ap.lb]) (by simp [Ne.symm ap.am, Ne.symm ap.lm]) (by simp [Ne.symm ap.ar, Ne.symm ap.lr]) fun D8 H8 σ8 S8 Ra8 Rb8 A8 => ?_
    refine l_again S8 Ra8 Rb8 hn2 fun D9 H9 ch9 Ra9 => ?_
    obtain ⟨rest, et⟩ := G6.top
    have A9 := A8.chs ch9 (by simp [Ne.symm ap.ar, Ne.symm ap.lr])
    rw [et] at A9
    refine l_stand1 (S8.chs ch9) Ra9 A9 hn2 fun D10 H10 S10 => ?_
    refine l_new (i := 11) S10 fun p σ11 H11 f11 fr nbp A11 S11 => ?_
    refine l_refused KD (p := p) S11 A11 _ (ei_tup (ed_tup (ea_consD ed_int (ea_consD ed_int (ea_consD ed_bl (ea_consD ed_non (ea_consD ed_str (ea_consD (ed_tup (ea_consD ed_int ea_nilD)) (ea_consD (ed_neg ed_int) (ea_consD ed_int ea_nilD)))))))) (by show 8 ≤ 100000; decide))) fun D12 H12 σ12 S12 A12 => ?_
    exact l_kinds S12 rfl A12 fun H' => q H'
end
end Nr
namespace Nr
open PySem PySem.Spec PyProof.Rows L2 Evl
def dv5 (d0 d1 d2 d3 d4 : Addr) : Nat → Addr
  | 0 => d0
  | 1 => d1
  | 2 => d2
  | 3 => d3
  | _ => d4
theorem lt5 {Pp : Nat → Prop} (h0 : Pp 0) (h1 : Pp 1) (h2 : Pp 2) (h3 : Pp 3) (h4 : Pp 4) : ∀ i, i < 5 → Pp i := fun i hi => by
  rcases (show i = 0 ∨ i = 1 ∨ i = 2 ∨ i = 3 ∨ i = 4 by omega) with rfl | rfl | rfl | rfl | rfl <;> assumption
section
variable {K : PySem.W.Frag} {t : Value} {c : Addr} {r : Bool}
theorem kit_sub (hc : PySem.W.isClsIn K c = true) (ht : PySem.W.typeIn K (.ref c) = some (.type "type")) (hs : PySem.W.subIn K t (.ref c) = some r) : PySem.W.kitCls K t (.ref c) = some r := by
  have hq : (PySem.W.clsIn K c).isSome = true := hc
  unfold PySem.W.kitCls
  dsimp only
  rw [hq, ht]
  exact hs
theorem kit_other (hne : (t == Value.ref c) = false) (hc : PySem.W.isClsIn K c = true) (ht : PySem.W.typeIn K (.ref c) = some (.type "type")) (hs : PySem.W.subIn K t (.ref c) = some r) : PySem.W.kitOne K t (.ref c) = some r := by
  unfold PySem.W.kitOne
  rw [hne]
  exact kit_sub hc ht hs
theorem exm_sub (hb : PySem.W.subIn K (.ref c) (.type "BaseException") = some true) (hc : PySem.W.isClsIn K c = true) (ht : PySem.W.typeIn K (.ref c) = some (.type "type")) (hs : PySem.W.subIn K t (.ref c) = some r) : PySem.W.exmOne K t (.ref c) = some r := by
  unfold PySem.W.exmOne
  rw [hb]
  exact kit_sub hc ht hs
theorem ref_ne {a b : Addr} (h : a ≠ b) : (Value.ref a == Value.ref b) = false := beq_eq_false_iff_ne.mpr fun z => h (Value.ref.inj z)
end
theorem all_mk {l : PySem.W.OpenLaw} {w : World} {K : PySem.W.Frag} {h : Heap} {mg : Str → Option Value} {fa : Addr} (X : K.In h) (G : h.Ns mainGlobals mg) (hfa : mg "law" = some (.ref fa))
    {C : Addr} (aC : PySem.W.nsIn K mainGlobals "Roll" = some (some (.ref C))) (pg : PySem.W.plainGet K C Str.empty = true) (hd : PySem.W.hasDictIn K C = true) (po : PySem.W.plainOver K C = true) (sa : PySem.W.findIn K (.ref C) "__setattr__" = some (some (.builtin "object.__setattr__"))) (mk : PySem.W.makesIn K C = true) (kc : PySem.W.keepIn K (.ref C) = true)
    (n_many : PySem.W.findIn K (.ref C) "many" = some none)
    (n_wound : PySem.W.findIn K (.ref C) "wound" = some none)
    (n_pierced : PySem.W.findIn K (.ref C) "pierced" = some none)
    (n_times : PySem.W.findIn K (.ref C) "times" = some none)
    (n_past : PySem.W.findIn K (.ref C) "past" = some none)
    (tyA : PySem.W.findIn K (.ref C) "__class__" = some (some (.builtin "object.__class__"))) (tyN : PySem.W.specialIn K (.builtin "object.__class__") "__get__" = some (some (.builtin "getset_descriptor.__get__"))) (tyT : PySem.W.takesIn K (.builtin "object.__class__") = some true) (tyM : PySem.W.mroIn K C (.type "object") = some true)
    {RE d0 d1 d2 d3 d4 : Addr} (aRE : PySem.W.nsIn K mainGlobals "RollError" = some (some (.ref RE))) (NF : PySem.W.notFirst K C (.type "int") = true) (kI0 : PySem.W.subIn K (.type "int") (.ref C) = some false) (kI1 : PySem.W.isClsIn K C = true) (kI2 : PySem.W.typeIn K (.ref C) = some (.type "type")) (RE0 : PySem.W.subIn K (.ref RE) (.type "BaseException") = some true) (RE1 : PySem.W.isClsIn K RE = true) (RE2 : PySem.W.typeIn K (.ref RE) = some (.type "type"))
    (g_0 : PySem.W.nsIn K mainGlobals "NoAngle" = some (some (.ref d0))) (x_0 : PySem.W.excIn K d0 [.type "ValueError", .type "Exception", .type "BaseException", .type "object"] "ValueError.__new__" = true) (q_0 : PySem.W.keepIn K (.ref d0) = true) (t_0 : PySem.W.typeIn K (.ref d0) = some (.type "type"))
    (eg_0 : PySem.W.findIn K (.ref d0) "__getattribute__" = some (some (.builtin "BaseException.__getattribute__"))) (ek_0 : PySem.W.findIn K (.ref d0) "__getattr__" = some none) (es_0 : PySem.W.subIn K (.ref d0) (.type "BaseException") = some true) (ed_0 : PySem.W.hasDictIn K d0 = true) (ea_0 : PySem.W.findIn K (.ref d0) "__class__" = some (some (.builtin "object.__class__"))) (em_0 : PySem.W.mroIn K d0 (.type "object") = some true)
    (ms_0 : PySem.W.subIn K (.ref d0) (.ref RE) = some true) (mc_0 : PySem.W.isClsIn K d0 = true) (o_01 : PySem.W.subIn K (.ref d0) (.ref d1) = some false) (n_01 : d0 ≠ d1) (o_02 : PySem.W.subIn K (.ref d0) (.ref d2) = some false) (n_02 : d0 ≠ d2) (o_03 : PySem.W.subIn K (.ref d0) (.ref d3) = some false) (n_03 : d0 ≠ d3) (o_04 : PySem.W.subIn K (.ref d0) (.ref d4) = some false) (n_04 : d0 ≠ d4)
    (g_1 : PySem.W.nsIn K mainGlobals "NoStrip" = some (some (.ref d1))) (x_1 : PySem.W.excIn K d1 [.type "ValueError", .type "Exception", .type "BaseException", .type "object"] "ValueError.__new__" = true) (q_1 : PySem.W.keepIn K (.ref d1) = true) (t_1 : PySem.W.typeIn K (.ref d1) = some (.type "type"))
    (eg_1 : PySem.W.findIn K (.ref d1) "__getattribute__" = some (some (.builtin "BaseException.__getattribute__"))) (ek_1 : PySem.W.findIn K (.ref d1) "__getattr__" = some none) (es_1 : PySem.W.subIn K (.ref d1) (.type "BaseException") = some true) (ed_1 : PySem.W.hasDictIn K d1 = true) (ea_1 : PySem.W.findIn K (.ref d1) "__class__" = some (some (.builtin "object.__class__"))) (em_1 : PySem.W.mroIn K d1 (.type "object") = some true)
    (ms_1 : PySem.W.subIn K (.ref d1) (.ref RE) = some true) (mc_1 : PySem.W.isClsIn K d1 = true) (o_10 : PySem.W.subIn K (.ref d1) (.ref d0) = some false) (n_10 : d1 ≠ d0) (o_12 : PySem.W.subIn K (.ref d1) (.ref d2) = some false) (n_12 : d1 ≠ d2) (o_13 : PySem.W.subIn K (.ref d1) (.ref d3) = some false) (n_13 : d1 ≠ d3) (o_14 : PySem.W.subIn K (.ref d1) (.ref d4) = some false) (n_14 : d1 ≠ d4)
    (g_2 : PySem.W.nsIn K mainGlobals "NoWinding" = some (some (.ref d2))) (x_2 : PySem.W.excIn K d2 [.type "ValueError", .type "Exception", .type "BaseException", .type "object"] "ValueError.__new__" = true) (q_2 : PySem.W.keepIn K (.ref d2) = true) (t_2 : PySem.W.typeIn K (.ref d2) = some (.type "type"))
    (eg_2 : PySem.W.findIn K (.ref d2) "__getattribute__" = some (some (.builtin "BaseException.__getattribute__"))) (ek_2 : PySem.W.findIn K (.ref d2) "__getattr__" = some none) (es_2 : PySem.W.subIn K (.ref d2) (.type "BaseException") = some true) (ed_2 : PySem.W.hasDictIn K d2 = true) (ea_2 : PySem.W.findIn K (.ref d2) "__class__" = some (some (.builtin "object.__class__"))) (em_2 : PySem.W.mroIn K d2 (.type "object") = some true)
    (ms_2 : PySem.W.subIn K (.ref d2) (.ref RE) = some true) (mc_2 : PySem.W.isClsIn K d2 = true) (o_20 : PySem.W.subIn K (.ref d2) (.ref d0) = some false) (n_20 : d2 ≠ d0) (o_21 : PySem.W.subIn K (.ref d2) (.ref d1) = some false) (n_21 : d2 ≠ d1) (o_23 : PySem.W.subIn K (.ref d2) (.ref d3) = some false) (n_23 : d2 ≠ d3) (o_24 : PySem.W.subIn K (.ref d2) (.ref d4) = some false) (n_24 : d2 ≠ d4)
    (g_3 : PySem.W.nsIn K mainGlobals "NotWound" = some (some (.ref d3))) (x_3 : PySem.W.excIn K d3 [.type "ValueError", .type "Exception", .type "BaseException", .type "object"] "ValueError.__new__" = true) (q_3 : PySem.W.keepIn K (.ref d3) = true) (t_3 : PySem.W.typeIn K (.ref d3) = some (.type "type"))
    (eg_3 : PySem.W.findIn K (.ref d3) "__getattribute__" = some (some (.builtin "BaseException.__getattribute__"))) (ek_3 : PySem.W.findIn K (.ref d3) "__getattr__" = some none) (es_3 : PySem.W.subIn K (.ref d3) (.type "BaseException") = some true) (ed_3 : PySem.W.hasDictIn K d3 = true) (ea_3 : PySem.W.findIn K (.ref d3) "__class__" = some (some (.builtin "object.__class__"))) (em_3 : PySem.W.mroIn K d3 (.type "object") = some true)
    (ms_3 : PySem.W.subIn K (.ref d3) (.ref RE) = some true) (mc_3 : PySem.W.isClsIn K d3 = true) (o_30 : PySem.W.subIn K (.ref d3) (.ref d0) = some false) (n_30 : d3 ≠ d0) (o_31 : PySem.W.subIn K (.ref d3) (.ref d1) = some false) (n_31 : d3 ≠ d1) (o_32 : PySem.W.subIn K (.ref d3) (.ref d2) = some false) (n_32 : d3 ≠ d2) (o_34 : PySem.W.subIn K (.ref d3) (.ref d4) = some false) (n_34 : d3 ≠ d4)
    (g_4 : PySem.W.nsIn K mainGlobals "NothingLeft" = some (some (.ref d4))) (x_4 : PySem.W.excIn K d4 [.type "ValueError", .type "Exception", .type "BaseException", .type "object"] "ValueError.__new__" = true) (q_4 : PySem.W.keepIn K (.ref d4) = true) (t_4 : PySem.W.typeIn K (.ref d4) = some (.type "type"))
    (eg_4 : PySem.W.findIn K (.ref d4) "__getattribute__" = some (some (.builtin "BaseException.__getattribute__"))) (ek_4 : PySem.W.findIn K (.ref d4) "__getattr__" = some none) (es_4 : PySem.W.subIn K (.ref d4) (.type "BaseException") = some true) (ed_4 : PySem.W.hasDictIn K d4 = true) (ea_4 : PySem.W.findIn K (.ref d4) "__class__" = some (some (.builtin "object.__class__"))) (em_4 : PySem.W.mroIn K d4 (.type "object") = some true)
    (ms_4 : PySem.W.subIn K (.ref d4) (.ref RE) = some true) (mc_4 : PySem.W.isClsIn K d4 = true) (o_40 : PySem.W.subIn K (.ref d4) (.ref d0) = some false) (n_40 : d4 ≠ d0) (o_41 : PySem.W.subIn K (.ref d4) (.ref d1) = some false) (n_41 : d4 ≠ d1) (o_42 : PySem.W.subIn K (.ref d4) (.ref d2) = some false) (n_42 : d4 ≠ d2) (o_43 : PySem.W.subIn K (.ref d4) (.ref d3) = some false) (n_43 : d4 ≠ d3)
    {f0 : Addr} {od0 an0 : Option Addr} {sl0 : Array (Option Value)} {oc0 kV0 dc0 pm0 cd0 ct0 : Value}
    (a0 : PySem.W.nsIn K mainGlobals "_law_kind" = some (some (.ref f0)))
    (l0 : K.lookup f0 = some ⟨oc0, od0, .func (PySem.W.fnOf "_law_kind" "_law_kind" (defArgs sKind) (defBody sKind) (defScope sKind) .none kV0 dc0 pm0 an0 cd0 ct0), sl0⟩) (c0 : PySem.W.codeIn K cd0 "_law_kind" = true) (k0 : PySem.W.keepIn K (.ref f0) = true)
    {f1 : Addr} {od1 an1 : Option Addr} {sl1 : Array (Option Value)} {oc1 kV1 dc1 pm1 cd1 ct1 : Value}
    (a1 : PySem.W.nsIn K mainGlobals "is_whole" = some (some (.ref f1)))
    (l1 : K.lookup f1 = some ⟨oc1, od1, .func (PySem.W.fnOf "is_whole" "is_whole" (defArgs sIsWhole) (defBody sIsWhole) (defScope sIsWhole) .none kV1 dc1 pm1 an1 cd1 ct1), sl1⟩) (c1 : PySem.W.codeIn K cd1 "is_whole" = true) (k1 : PySem.W.keepIn K (.ref f1) = true)
    {f2 : Addr} {od2 an2 : Option Addr} {sl2 : Array (Option Value)} {oc2 kV2 dc2 pm2 cd2 ct2 : Value}
    (a2 : PySem.W.nsIn K mainGlobals "common_divisor" = some (some (.ref f2)))
    (l2 : K.lookup f2 = some ⟨oc2, od2, .func (PySem.W.fnOf "common_divisor" "common_divisor" (defArgs sGcd) (defBody sGcd) (defScope sGcd) .none kV2 dc2 pm2 an2 cd2 ct2), sl2⟩) (c2 : PySem.W.codeIn K cd2 "common_divisor" = true) (k2 : PySem.W.keepIn K (.ref f2) = true)
    {f3 : Addr} {od3 an3 : Option Addr} {sl3 : Array (Option Value)} {oc3 kV3 dc3 pm3 cd3 ct3 : Value}
    (a3 : PySem.W.nsIn K mainGlobals "turns" = some (some (.ref f3)))
    (l3 : K.lookup f3 = some ⟨oc3, od3, .func (PySem.W.fnOf "turns" "turns" (defArgs sTurns) (defBody sTurns) (defScope sTurns) .none kV3 dc3 pm3 an3 cd3 ct3), sl3⟩) (c3 : PySem.W.codeIn K cd3 "turns" = true) (k3 : PySem.W.keepIn K (.ref f3) = true)
    {f4 : Addr} {od4 an4 : Option Addr} {sl4 : Array (Option Value)} {oc4 kV4 dc4 pm4 cd4 ct4 : Value}
    (a4 : PySem.W.nsIn K mainGlobals "cell_at" = some (some (.ref f4)))
    (l4 : K.lookup f4 = some ⟨oc4, od4, .func (PySem.W.fnOf "cell_at" "cell_at" (defArgs sCellAt) (defBody sCellAt) (defScope sCellAt) .none kV4 dc4 pm4 an4 cd4 ct4), sl4⟩) (c4 : PySem.W.codeIn K cd4 "cell_at" = true) (k4 : PySem.W.keepIn K (.ref f4) = true)
    {f5 : Addr} {od5 an5 : Option Addr} {sl5 : Array (Option Value)} {oc5 kV5 dc5 pm5 cd5 ct5 : Value}
    (a5 : PySem.W.nsIn K mainGlobals "marks" = some (some (.ref f5)))
    (l5 : K.lookup f5 = some ⟨oc5, od5, .func (PySem.W.fnOf "marks" "marks" (defArgs sMarks) (defBody sMarks) (defScope sMarks) .none kV5 dc5 pm5 an5 cd5 ct5), sl5⟩) (c5 : PySem.W.codeIn K cd5 "marks" = true) (k5 : PySem.W.keepIn K (.ref f5) = true)
    {f6 : Addr} {od6 an6 : Option Addr} {sl6 : Array (Option Value)} {oc6 kV6 dc6 pm6 cd6 ct6 : Value}
    (a6 : PySem.W.nsIn K mainGlobals "unwished" = some (some (.ref f6)))
    (l6 : K.lookup f6 = some ⟨oc6, od6, .func (PySem.W.fnOf "unwished" "unwished" (defArgs sUnw) (defBody sUnw) (defScope sUnw) .none kV6 dc6 pm6 an6 cd6 ct6), sl6⟩) (c6 : PySem.W.codeIn K cd6 "unwished" = true) (k6 : PySem.W.keepIn K (.ref f6) = true)
    {f7 : Addr} {od7 an7 : Option Addr} {sl7 : Array (Option Value)} {oc7 kV7 dc7 pm7 cd7 ct7 : Value}
    (a7 : PySem.W.findIn K (.ref C) "remember" = some (some (.ref f7))) (i7 : PySem.W.isFn K (.ref f7) = true)
    (l7 : K.lookup f7 = some ⟨oc7, od7, .func (PySem.W.fnOf "remember" "Roll.remember" (defArgs sRRem) (defBody sRRem) (defScope sRRem) .none kV7 dc7 pm7 an7 cd7 ct7), sl7⟩) (c7 : PySem.W.codeIn K cd7 "Roll.remember" = true) (k7 : PySem.W.keepIn K (.ref f7) = true)
    {f8 : Addr} {od8 an8 : Option Addr} {sl8 : Array (Option Value)} {oc8 kV8 dc8 pm8 cd8 ct8 : Value}
    (a8 : PySem.W.findIn K (.ref C) "need_winding" = some (some (.ref f8))) (i8 : PySem.W.isFn K (.ref f8) = true)
    (l8 : K.lookup f8 = some ⟨oc8, od8, .func (PySem.W.fnOf "need_winding" "Roll.need_winding" (defArgs sRNeed) (defBody sRNeed) (defScope sRNeed) .none kV8 dc8 pm8 an8 cd8 ct8), sl8⟩) (c8 : PySem.W.codeIn K cd8 "Roll.need_winding" = true) (k8 : PySem.W.keepIn K (.ref f8) = true)
    {f9 : Addr} {od9 an9 : Option Addr} {sl9 : Array (Option Value)} {oc9 kV9 dc9 pm9 cd9 ct9 : Value}
    (a9 : PySem.W.findIn K (.ref C) "back" = some (some (.ref f9))) (i9 : PySem.W.isFn K (.ref f9) = true)
    (l9 : K.lookup f9 = some ⟨oc9, od9, .func (PySem.W.fnOf "back" "Roll.back" (defArgs sRBack) (defBody sRBack) (defScope sRBack) .none kV9 dc9 pm9 an9 cd9 ct9), sl9⟩) (c9 : PySem.W.codeIn K cd9 "Roll.back" = true) (k9 : PySem.W.keepIn K (.ref f9) = true)
    {f10 : Addr} {od10 an10 : Option Addr} {sl10 : Array (Option Value)} {oc10 kV10 dc10 pm10 cd10 ct10 : Value}
    (a10 : PySem.W.findIn K (.ref C) "winding" = some (some (.ref f10))) (i10 : PySem.W.isFn K (.ref f10) = true)
    (l10 : K.lookup f10 = some ⟨oc10, od10, .func (PySem.W.fnOf "winding" "Roll.winding" (defArgs sRWinding) (defBody sRWinding) (defScope sRWinding) .none kV10 dc10 pm10 an10 cd10 ct10), sl10⟩) (c10 : PySem.W.codeIn K cd10 "Roll.winding" = true) (k10 : PySem.W.keepIn K (.ref f10) = true)
    {f11 : Addr} {od11 an11 : Option Addr} {sl11 : Array (Option Value)} {oc11 kV11 dc11 pm11 cd11 ct11 : Value}
    (a11 : PySem.W.findIn K (.ref C) "holes" = some (some (.ref f11))) (i11 : PySem.W.isFn K (.ref f11) = true)
    (l11 : K.lookup f11 = some ⟨oc11, od11, .func (PySem.W.fnOf "holes" "Roll.holes" (defArgs sRHoles) (defBody sRHoles) (defScope sRHoles) .none kV11 dc11 pm11 an11 cd11 ct11), sl11⟩) (c11 : PySem.W.codeIn K cd11 "Roll.holes" = true) (k11 : PySem.W.keepIn K (.ref f11) = true)
    {f12 : Addr} {od12 an12 : Option Addr} {sl12 : Array (Option Value)} {oc12 kV12 dc12 pm12 cd12 ct12 : Value}
    (a12 : PySem.W.findIn K (.ref C) "pricks" = some (some (.ref f12))) (i12 : PySem.W.isFn K (.ref f12) = true)
    (l12 : K.lookup f12 = some ⟨oc12, od12, .func (PySem.W.fnOf "pricks" "Roll.pricks" (defArgs sRPricks) (defBody sRPricks) (defScope sRPricks) .none kV12 dc12 pm12 an12 cd12 ct12), sl12⟩) (c12 : PySem.W.codeIn K cd12 "Roll.pricks" = true) (k12 : PySem.W.keepIn K (.ref f12) = true)
    {f13 : Addr} {od13 an13 : Option Addr} {sl13 : Array (Option Value)} {oc13 kV13 dc13 pm13 cd13 ct13 : Value}
    (a13 : PySem.W.findIn K (.ref C) "__len__" = some (some (.ref f13))) (i13 : PySem.W.isFn K (.ref f13) = true)
    (l13 : K.lookup f13 = some ⟨oc13, od13, .func (PySem.W.fnOf "__len__" "Roll.__len__" (defArgs sRLen) (defBody sRLen) (defScope sRLen) .none kV13 dc13 pm13 an13 cd13 ct13), sl13⟩) (c13 : PySem.W.codeIn K cd13 "Roll.__len__" = true) (k13 : PySem.W.keepIn K (.ref f13) = true)
    {f14 : Addr} {od14 an14 : Option Addr} {sl14 : Array (Option Value)} {oc14 kV14 dc14 pm14 cd14 ct14 : Value}
    (a14 : PySem.W.findIn K (.ref C) "__eq__" = some (some (.ref f14))) (i14 : PySem.W.isFn K (.ref f14) = true)
    (l14 : K.lookup f14 = some ⟨oc14, od14, .func (PySem.W.fnOf "__eq__" "Roll.__eq__" (defArgs sREq) (defBody sREq) (defScope sREq) .none kV14 dc14 pm14 an14 cd14 ct14), sl14⟩) (c14 : PySem.W.codeIn K cd14 "Roll.__eq__" = true) (k14 : PySem.W.keepIn K (.ref f14) = true)
    {f15 : Addr} {od15 an15 : Option Addr} {sl15 : Array (Option Value)} {oc15 kV15 dc15 pm15 cd15 ct15 : Value}
    (a15 : PySem.W.nsIn K mainGlobals "_law_bag" = some (some (.ref f15)))
    (l15 : K.lookup f15 = some ⟨oc15, od15, .func (PySem.W.fnOf "_law_bag" "_law_bag" (defArgs sBag) (defBody sBag) (defScope sBag) .none kV15 dc15 pm15 an15 cd15 ct15), sl15⟩) (c15 : PySem.W.codeIn K cd15 "_law_bag" = true) (k15 : PySem.W.keepIn K (.ref f15) = true)
    {f16 : Addr} {od16 an16 : Option Addr} {sl16 : Array (Option Value)} {oc16 kV16 dc16 pm16 cd16 ct16 : Value}
    (a16 : PySem.W.nsIn K mainGlobals "_law_take" = some (some (.ref f16)))
    (l16 : K.lookup f16 = some ⟨oc16, od16, .func (PySem.W.fnOf "_law_take" "_law_take" (defArgs sTake) (defBody sTake) (defScope sTake) .none kV16 dc16 pm16 an16 cd16 ct16), sl16⟩) (c16 : PySem.W.codeIn K cd16 "_law_take" = true) (k16 : PySem.W.keepIn K (.ref f16) = true)
    {f17 : Addr} {od17 an17 : Option Addr} {sl17 : Array (Option Value)} {oc17 kV17 dc17 pm17 cd17 ct17 : Value}
    (a17 : PySem.W.nsIn K mainGlobals "_law_lowest" = some (some (.ref f17)))
    (l17 : K.lookup f17 = some ⟨oc17, od17, .func (PySem.W.fnOf "_law_lowest" "_law_lowest" (defArgs sLow2) (defBody sLow2) (defScope sLow2) .none kV17 dc17 pm17 an17 cd17 ct17), sl17⟩) (c17 : PySem.W.codeIn K cd17 "_law_lowest" = true) (k17 : PySem.W.keepIn K (.ref f17) = true)
    {f18 : Addr} {od18 an18 : Option Addr} {sl18 : Array (Option Value)} {oc18 kV18 dc18 pm18 cd18 ct18 : Value}
    (a18 : PySem.W.nsIn K mainGlobals "_law_pricked" = some (some (.ref f18)))
    (l18 : K.lookup f18 = some ⟨oc18, od18, .func (PySem.W.fnOf "_law_pricked" "_law_pricked" (defArgs sLPr) (defBody sLPr) (defScope sLPr) .none kV18 dc18 pm18 an18 cd18 ct18), sl18⟩) (c18 : PySem.W.codeIn K cd18 "_law_pricked" = true) (k18 : PySem.W.keepIn K (.ref f18) = true)
    {f19 : Addr} {od19 an19 : Option Addr} {sl19 : Array (Option Value)} {oc19 kV19 dc19 pm19 cd19 ct19 : Value}
    (a19 : PySem.W.nsIn K mainGlobals "common_multiple" = some (some (.ref f19)))
    (l19 : K.lookup f19 = some ⟨oc19, od19, .func (PySem.W.fnOf "common_multiple" "common_multiple" (defArgs sLcm) (defBody sLcm) (defScope sLcm) .none kV19 dc19 pm19 an19 cd19 ct19), sl19⟩) (c19 : PySem.W.codeIn K cd19 "common_multiple" = true) (k19 : PySem.W.keepIn K (.ref f19) = true)
    {f20 : Addr} {od20 an20 : Option Addr} {sl20 : Array (Option Value)} {oc20 kV20 dc20 pm20 cd20 ct20 : Value}
    (a20 : PySem.W.nsIn K mainGlobals "lowest" = some (some (.ref f20)))
    (l20 : K.lookup f20 = some ⟨oc20, od20, .func (PySem.W.fnOf "lowest" "lowest" (defArgs sLowest) (defBody sLowest) (defScope sLowest) .none kV20 dc20 pm20 an20 cd20 ct20), sl20⟩) (c20 : PySem.W.codeIn K cd20 "lowest" = true) (k20 : PySem.W.keepIn K (.ref f20) = true)
    {f21 : Addr} {od21 an21 : Option Addr} {sl21 : Array (Option Value)} {oc21 kV21 dc21 pm21 cd21 ct21 : Value}
    (a21 : PySem.W.nsIn K mainGlobals "is_fraction" = some (some (.ref f21)))
    (l21 : K.lookup f21 = some ⟨oc21, od21, .func (PySem.W.fnOf "is_fraction" "is_fraction" (defArgs sIsFrac) (defBody sIsFrac) (defScope sIsFrac) .none kV21 dc21 pm21 an21 cd21 ct21), sl21⟩) (c21 : PySem.W.codeIn K cd21 "is_fraction" = true) (k21 : PySem.W.keepIn K (.ref f21) = true)
    {f22 : Addr} {od22 an22 : Option Addr} {sl22 : Array (Option Value)} {oc22 kV22 dc22 pm22 cd22 ct22 : Value}
    (a22 : PySem.W.nsIn K mainGlobals "is_within" = some (some (.ref f22)))
    (l22 : K.lookup f22 = some ⟨oc22, od22, .func (PySem.W.fnOf "is_within" "is_within" (defArgs sIsWithin) (defBody sIsWithin) (defScope sIsWithin) .none kV22 dc22 pm22 an22 cd22 ct22), sl22⟩) (c22 : PySem.W.codeIn K cd22 "is_within" = true) (k22 : PySem.W.keepIn K (.ref f22) = true)
    {f23 : Addr} {od23 an23 : Option Addr} {sl23 : Array (Option Value)} {oc23 kV23 dc23 pm23 cd23 ct23 : Value}
    (a23 : PySem.W.nsIn K mainGlobals "pricked" = some (some (.ref f23)))
    (l23 : K.lookup f23 = some ⟨oc23, od23, .func (PySem.W.fnOf "pricked" "pricked" (defArgs sPricked) (defBody sPricked) (defScope sPricked) .none kV23 dc23 pm23 an23 cd23 ct23), sl23⟩) (c23 : PySem.W.codeIn K cd23 "pricked" = true) (k23 : PySem.W.keepIn K (.ref f23) = true)
    {f24 : Addr} {od24 an24 : Option Addr} {sl24 : Array (Option Value)} {oc24 kV24 dc24 pm24 cd24 ct24 : Value}
    (a24 : PySem.W.nsIn K mainGlobals "_law_of" = some (some (.ref f24)))
    (l24 : K.lookup f24 = some ⟨oc24, od24, .func (PySem.W.fnOf "_law_of" "_law_of" (defArgs sOf) (defBody sOf) (defScope sOf) .none kV24 dc24 pm24 an24 cd24 ct24), sl24⟩) (c24 : PySem.W.codeIn K cd24 "_law_of" = true) (k24 : PySem.W.keepIn K (.ref f24) = true)
    {f25 : Addr} {od25 an25 : Option Addr} {sl25 : Array (Option Value)} {oc25 kV25 dc25 pm25 cd25 ct25 : Value}
    (a25 : PySem.W.nsIn K mainGlobals "_law_is_angle" = some (some (.ref f25)))
    (l25 : K.lookup f25 = some ⟨oc25, od25, .func (PySem.W.fnOf "_law_is_angle" "_law_is_angle" (defArgs sLAng) (defBody sLAng) (defScope sLAng) .none kV25 dc25 pm25 an25 cd25 ct25), sl25⟩) (c25 : PySem.W.codeIn K cd25 "_law_is_angle" = true) (k25 : PySem.W.keepIn K (.ref f25) = true)
    {f26 : Addr} {od26 an26 : Option Addr} {sl26 : Array (Option Value)} {oc26 kV26 dc26 pm26 cd26 ct26 : Value}
    (a26 : PySem.W.nsIn K mainGlobals "is_strip" = some (some (.ref f26)))
    (l26 : K.lookup f26 = some ⟨oc26, od26, .func (PySem.W.fnOf "is_strip" "is_strip" (defArgs sIsStrip) (defBody sIsStrip) (defScope sIsStrip) .none kV26 dc26 pm26 an26 cd26 ct26), sl26⟩) (c26 : PySem.W.codeIn K cd26 "is_strip" = true) (k26 : PySem.W.keepIn K (.ref f26) = true)
    {f27 : Addr} {od27 an27 : Option Addr} {sl27 : Array (Option Value)} {oc27 kV27 dc27 pm27 cd27 ct27 : Value}
    (a27 : PySem.W.nsIn K mainGlobals "is_winding" = some (some (.ref f27)))
    (l27 : K.lookup f27 = some ⟨oc27, od27, .func (PySem.W.fnOf "is_winding" "is_winding" (defArgs sIsWinding) (defBody sIsWinding) (defScope sIsWinding) .none kV27 dc27 pm27 an27 cd27 ct27), sl27⟩) (c27 : PySem.W.codeIn K cd27 "is_winding" = true) (k27 : PySem.W.keepIn K (.ref f27) = true)
    {f28 : Addr} {od28 an28 : Option Addr} {sl28 : Array (Option Value)} {oc28 kV28 dc28 pm28 cd28 ct28 : Value}
    (a28 : PySem.W.nsIn K mainGlobals "is_angle" = some (some (.ref f28)))
    (l28 : K.lookup f28 = some ⟨oc28, od28, .func (PySem.W.fnOf "is_angle" "is_angle" (defArgs sIsAng) (defBody sIsAng) (defScope sIsAng) .none kV28 dc28 pm28 an28 cd28 ct28), sl28⟩) (c28 : PySem.W.codeIn K cd28 "is_angle" = true) (k28 : PySem.W.keepIn K (.ref f28) = true)
    {f29 : Addr} {od29 an29 : Option Addr} {sl29 : Array (Option Value)} {oc29 kV29 dc29 pm29 cd29 ct29 : Value}
    (a29 : PySem.W.nsIn K mainGlobals "stretches" = some (some (.ref f29)))
    (l29 : K.lookup f29 = some ⟨oc29, od29, .func (PySem.W.fnOf "stretches" "stretches" (defArgs sStretches) (defBody sStretches) (defScope sStretches) .none kV29 dc29 pm29 an29 cd29 ct29), sl29⟩) (c29 : PySem.W.codeIn K cd29 "stretches" = true) (k29 : PySem.W.keepIn K (.ref f29) = true)
    {f30 : Addr} {od30 an30 : Option Addr} {sl30 : Array (Option Value)} {oc30 kV30 dc30 pm30 cd30 ct30 : Value}
    (a30 : PySem.W.nsIn K mainGlobals "_law_winding" = some (some (.ref f30)))
    (l30 : K.lookup f30 = some ⟨oc30, od30, .func (PySem.W.fnOf "_law_winding" "_law_winding" (defArgs sWind) (defBody sWind) (defScope sWind) .none kV30 dc30 pm30 an30 cd30 ct30), sl30⟩) (c30 : PySem.W.codeIn K cd30 "_law_winding" = true) (k30 : PySem.W.keepIn K (.ref f30) = true)
    {f31 : Addr} {od31 an31 : Option Addr} {sl31 : Array (Option Value)} {oc31 kV31 dc31 pm31 cd31 ct31 : Value}
    (a31 : PySem.W.nsIn K mainGlobals "_law_angle" = some (some (.ref f31)))
    (l31 : K.lookup f31 = some ⟨oc31, od31, .func (PySem.W.fnOf "_law_angle" "_law_angle" (defArgs sAngle) (defBody sAngle) (defScope sAngle) .none kV31 dc31 pm31 an31 cd31 ct31), sl31⟩) (c31 : PySem.W.codeIn K cd31 "_law_angle" = true) (k31 : PySem.W.keepIn K (.ref f31) = true)
    {f32 : Addr} {od32 an32 : Option Addr} {sl32 : Array (Option Value)} {oc32 kV32 dc32 pm32 cd32 ct32 : Value}
    (a32 : PySem.W.nsIn K mainGlobals "harmless" = some (some (.ref f32)))
    (l32 : K.lookup f32 = some ⟨oc32, od32, .func (PySem.W.fnOf "harmless" "harmless" (defArgs sHarm) (defBody sHarm) (defScope sHarm) .none kV32 dc32 pm32 an32 cd32 ct32), sl32⟩) (c32 : PySem.W.codeIn K cd32 "harmless" = true) (k32 : PySem.W.keepIn K (.ref f32) = true)
    {f33 : Addr} {od33 an33 : Option Addr} {sl33 : Array (Option Value)} {oc33 kV33 dc33 pm33 cd33 ct33 : Value}
    (a33 : PySem.W.findIn K (.ref C) "__init__" = some (some (.ref f33))) (i33 : PySem.W.isFn K (.ref f33) = true)
    (l33 : K.lookup f33 = some ⟨oc33, od33, .func (PySem.W.fnOf "__init__" "Roll.__init__" (defArgs sRInit) (defBody sRInit) (defScope sRInit) .none kV33 dc33 pm33 an33 cd33 ct33), sl33⟩) (c33 : PySem.W.codeIn K cd33 "Roll.__init__" = true) (k33 : PySem.W.keepIn K (.ref f33) = true)
    {f34 : Addr} {od34 an34 : Option Addr} {sl34 : Array (Option Value)} {oc34 kV34 dc34 pm34 cd34 ct34 : Value}
    (a34 : PySem.W.findIn K (.ref C) "wind" = some (some (.ref f34))) (i34 : PySem.W.isFn K (.ref f34) = true)
    (l34 : K.lookup f34 = some ⟨oc34, od34, .func (PySem.W.fnOf "wind" "Roll.wind" (defArgs sRWind) (defBody sRWind) (defScope sRWind) .none kV34 dc34 pm34 an34 cd34 ct34), sl34⟩) (c34 : PySem.W.codeIn K cd34 "Roll.wind" = true) (k34 : PySem.W.keepIn K (.ref f34) = true)
    {f35 : Addr} {od35 an35 : Option Addr} {sl35 : Array (Option Value)} {oc35 kV35 dc35 pm35 cd35 ct35 : Value}
    (a35 : PySem.W.findIn K (.ref C) "prick" = some (some (.ref f35))) (i35 : PySem.W.isFn K (.ref f35) = true)
    (l35 : K.lookup f35 = some ⟨oc35, od35, .func (PySem.W.fnOf "prick" "Roll.prick" (defArgs sRPrick) (defBody sRPrick) (defScope sRPrick) .none kV35 dc35 pm35 an35 cd35 ct35), sl35⟩) (c35 : PySem.W.codeIn K cd35 "Roll.prick" = true) (k35 : PySem.W.keepIn K (.ref f35) = true)
    {f36 : Addr} {od36 an36 : Option Addr} {sl36 : Array (Option Value)} {oc36 kV36 dc36 pm36 cd36 ct36 : Value}
    (a36 : PySem.W.nsIn K mainGlobals "_law_due" = some (some (.ref f36)))
    (l36 : K.lookup f36 = some ⟨oc36, od36, .func (PySem.W.fnOf "_law_due" "_law_due" (defArgs sDue) (defBody sDue) (defScope sDue) .none kV36 dc36 pm36 an36 cd36 ct36), sl36⟩) (c36 : PySem.W.codeIn K cd36 "_law_due" = true) (k36 : PySem.W.keepIn K (.ref f36) = true)
    {f37 : Addr} {od37 an37 : Option Addr} {sl37 : Array (Option Value)} {oc37 kV37 dc37 pm37 cd37 ct37 : Value}
    (a37 : PySem.W.nsIn K mainGlobals "_law_a_deed" = some (some (.ref f37)))
    (l37 : K.lookup f37 = some ⟨oc37, od37, .func (PySem.W.fnOf "_law_a_deed" "_law_a_deed" (defArgs sADeed) (defBody sADeed) (defScope sADeed) .none kV37 dc37 pm37 an37 cd37 ct37), sl37⟩) (c37 : PySem.W.codeIn K cd37 "_law_a_deed" = true) (k37 : PySem.W.keepIn K (.ref f37) = true)
    {f38 : Addr} {od38 an38 : Option Addr} {sl38 : Array (Option Value)} {oc38 kV38 dc38 pm38 cd38 ct38 : Value}
    (a38 : PySem.W.nsIn K mainGlobals "light" = some (some (.ref f38)))
    (l38 : K.lookup f38 = some ⟨oc38, od38, .func (PySem.W.fnOf "light" "light" (defArgs sLight) (defBody sLight) (defScope sLight) .none kV38 dc38 pm38 an38 cd38 ct38), sl38⟩) (c38 : PySem.W.codeIn K cd38 "light" = true) (k38 : PySem.W.keepIn K (.ref f38) = true)
    {f39 : Addr} {od39 an39 : Option Addr} {sl39 : Array (Option Value)} {oc39 kV39 dc39 pm39 cd39 ct39 : Value}
    (a39 : PySem.W.findIn K (.ref C) "light" = some (some (.ref f39))) (i39 : PySem.W.isFn K (.ref f39) = true)
    (l39 : K.lookup f39 = some ⟨oc39, od39, .func (PySem.W.fnOf "light" "Roll.light" (defArgs sRLight) (defBody sRLight) (defScope sRLight) .none kV39 dc39 pm39 an39 cd39 ct39), sl39⟩) (c39 : PySem.W.codeIn K cd39 "Roll.light" = true) (k39 : PySem.W.keepIn K (.ref f39) = true)
    {f40 : Addr} {od40 an40 : Option Addr} {sl40 : Array (Option Value)} {oc40 kV40 dc40 pm40 cd40 ct40 : Value}
    (a40 : PySem.W.nsIn K mainGlobals "_law_did" = some (some (.ref f40)))
    (l40 : K.lookup f40 = some ⟨oc40, od40, .func (PySem.W.fnOf "_law_did" "_law_did" (defArgs sDid) (defBody sDid) (defScope sDid) .none kV40 dc40 pm40 an40 cd40 ct40), sl40⟩) (c40 : PySem.W.codeIn K cd40 "_law_did" = true) (k40 : PySem.W.keepIn K (.ref f40) = true)
    {f41 : Addr} {od41 an41 : Option Addr} {sl41 : Array (Option Value)} {oc41 kV41 dc41 pm41 cd41 ct41 : Value}
    (a41 : PySem.W.nsIn K mainGlobals "_law_stands_so" = some (some (.ref f41)))
    (l41 : K.lookup f41 = some ⟨oc41, od41, .func (PySem.W.fnOf "_law_stands_so" "_law_stands_so" (defArgs sStand) (defBody sStand) (defScope sStand) .none kV41 dc41 pm41 an41 cd41 ct41), sl41⟩) (c41 : PySem.W.codeIn K cd41 "_law_stands_so" = true) (k41 : PySem.W.keepIn K (.ref f41) = true)
    {f42 : Addr} {od42 an42 : Option Addr} {sl42 : Array (Option Value)} {oc42 kV42 dc42 pm42 cd42 ct42 : Value}
    (a42 : PySem.W.nsIn K mainGlobals "law" = some (some (.ref f42)))
    (l42 : K.lookup f42 = some ⟨oc42, od42, .func (PySem.W.fnOf "law" "law" (defArgs sLaw) (defBody sLaw) (defScope sLaw) .none kV42 dc42 pm42 an42 cd42 ct42), sl42⟩) (c42 : PySem.W.codeIn K cd42 "law" = true) (k42 : PySem.W.keepIn K (.ref f42) = true)
    (al_light_light : PySem.W.nsIn K mainGlobals "light_light" = some (some (.ref f38)))
    (z_isinstance : PySem.W.nsIn K mainGlobals "isinstance" = some none)
    (z_zip : PySem.W.nsIn K mainGlobals "zip" = some none)
    (z_int : PySem.W.nsIn K mainGlobals "int" = some none)
    (z_bool : PySem.W.nsIn K mainGlobals "bool" = some none)
    (z_sorted : PySem.W.nsIn K mainGlobals "sorted" = some none)
    (z_range : PySem.W.nsIn K mainGlobals "range" = some none)
    (z_len : PySem.W.nsIn K mainGlobals "len" = some none)
    (z_tuple : PySem.W.nsIn K mainGlobals "tuple" = some none)
    (z_all : PySem.W.nsIn K mainGlobals "all" = some none)
    (z_list : PySem.W.nsIn K mainGlobals "list" = some none)
    (z_min : PySem.W.nsIn K mainGlobals "min" = some none)
    {t_CELL : Tok} (z_CELL : PySem.W.nsIn K mainGlobals "CELL" = some (some (.int 2 t_CELL)))
    {bb b1 b2 b3 : Addr} {bd0 bd1 bd2 bd3 : Option Addr} {bs0 bs1 bs2 bs3 : Array (Option Value)} {bn0 bn1 bn2 bn3 : Nat} {bt1 bt2 bt3 bt4 bt5 bt6 : Tok}
    (z_B : PySem.W.nsIn K mainGlobals "BOUNDS" = some (some (.ref bb))) (lB0 : K.lookup bb = some ⟨.type "tuple", bd0, .seq #[.ref b1, .ref b2, .ref b3] bn0, bs0⟩) (lB1 : K.lookup b1 = some ⟨.type "tuple", bd1, .seq #[.int 4 bt1, .int 16 bt2] bn1, bs1⟩)
    (lB2 : K.lookup b2 = some ⟨.type "tuple", bd2, .seq #[.int 0 bt3, .int 8 bt4] bn2, bs2⟩) (lB3 : K.lookup b3 = some ⟨.type "tuple", bd3, .seq #[.int 0 bt5, .int 1 bt6] bn3, bs3⟩)
    {sb : Addr} {sd0 : Option Addr} {ss0 : Array (Option Value)} {sn0 : Nat} {st1 st2 : Tok} (z_S : PySem.W.nsIn K mainGlobals "STRIP" = some (some (.ref sb))) (lS : K.lookup sb = some ⟨.type "tuple", sd0, .seq #[.int 1 st1, .int 24 st2] sn0, ss0⟩)
    : ∃ fd : FuncData, (∀ (s : Shared) (v : Value), BindsTo s fd ⟨[v], []⟩ [("script", v)]) ∧ ∀ base : Heap, K.In base → base.Ns mainGlobals mg → FnOk l.prog w K mg base CX0 9 fa fd ["script"] (spLaw0 K) := by
  have e := hfa.symm.trans (PySem.W.mg_of X G a42)
  cases e
  have m_isinstance := PySem.W.mg_none_of X G z_isinstance
  have m_zip := PySem.W.mg_none_of X G z_zip
  have m_int := PySem.W.mg_none_of X G z_int
  have m_bool := PySem.W.mg_none_of X G z_bool
  have m_sorted := PySem.W.mg_none_of X G z_sorted
  have m_range := PySem.W.mg_none_of X G z_range
  have m_len := PySem.W.mg_none_of X G z_len
  have m_tuple := PySem.W.mg_none_of X G z_tuple
  have m_all := PySem.W.mg_none_of X G z_all
  have m_list := PySem.W.mg_none_of X G z_list
  have m_min := PySem.W.mg_none_of X G z_min
  have m_CELL := PySem.W.mg_of X G z_CELL
  have m_B := PySem.W.mg_of X G z_B
  have m_S := PySem.W.mg_of X G z_S
  have m_Roll := PySem.W.mg_of X G aC
  have BB : Bnds K bb b1 b2 b3 := ⟨⟨_, _, _, lB0, rfl, rfl, by show 3 ≤ sizeLine; decide, .cons rfl (.cons rfl (.cons rfl .nil))⟩, ⟨_, _, _, lB1, rfl, rfl, by show 2 ≤ sizeLine; decide, .cons ⟨_, rfl⟩ (.cons ⟨_, rfl⟩ .nil)⟩, ⟨_, _, _, lB2, rfl, rfl, by show 2 ≤ sizeLine; decide, .cons ⟨_, rfl⟩ (.cons ⟨_, rfl⟩ .nil)⟩, ⟨_, _, _, lB3, rfl, rfl, by show 2 ≤ sizeLine; decide, .cons ⟨_, rfl⟩ (.cons ⟨_, rfl⟩ .nil)⟩⟩
  have SB : KT' K sb [.int 1, .int 24] := ⟨_, _, _, lS, rfl, rfl, by show 2 ≤ sizeLine; decide, .cons ⟨_, rfl⟩ (.cons ⟨_, rfl⟩ .nil)⟩
  have RC : RCls K C := ⟨⟨pg, hd, po, sa⟩, n_many, n_wound, n_pierced, n_times, n_past⟩
  have TY : RTy K C := ⟨by simp [PySem.W.kitOne], tyA, tyN, tyT, tyM⟩
  have F0 := fun_mk (st := sKind) l0 c0 k0
  have F1 := fun_mk (st := sIsWhole) l1 c1 k1
  have F2 := fun_mk (st := sGcd) l2 c2 k2
  have F3 := fun_mk (st := sTurns) l3 c3 k3
  have F4 := fun_mk (st := sCellAt) l4 c4 k4
  have F5 := fun_mk (st := sMarks) l5 c5 k5
  have F6 := fun_mk (st := sUnw) l6 c6 k6
  have F7 := fun_mk (st := sRRem) l7 c7 k7
  have F8 := fun_mk (st := sRNeed) l8 c8 k8
  have F9 := fun_mk (st := sRBack) l9 c9 k9
  have F10 := fun_mk (st := sRWinding) l10 c10 k10
  have F11 := fun_mk (st := sRHoles) l11 c11 k11
  have F12 := fun_mk (st := sRPricks) l12 c12 k12
  have F13 := fun_mk (st := sRLen) l13 c13 k13
  have F14 := fun_mk (st := sREq) l14 c14 k14
  have F15 := fun_mk (st := sBag) l15 c15 k15
  have F16 := fun_mk (st := sTake) l16 c16 k16
  have F17 := fun_mk (st := sLow2) l17 c17 k17
  have F18 := fun_mk (st := sLPr) l18 c18 k18
  have F19 := fun_mk (st := sLcm) l19 c19 k19
  have F20 := fun_mk (st := sLowest) l20 c20 k20
  have F21 := fun_mk (st := sIsFrac) l21 c21 k21
  have F22 := fun_mk (st := sIsWithin) l22 c22 k22
  have F23 := fun_mk (st := sPricked) l23 c23 k23
  have F24 := fun_mk (st := sOf) l24 c24 k24
  have F25 := fun_mk (st := sLAng) l25 c25 k25
  have F26 := fun_mk (st := sIsStrip) l26 c26 k26
  have F27 := fun_mk (st := sIsWinding) l27 c27 k27
  have F28 := fun_mk (st := sIsAng) l28 c28 k28
  have F29 := fun_mk (st := sStretches) l29 c29 k29
  have F30 := fun_mk (st := sWind) l30 c30 k30
  have F31 := fun_mk (st := sAngle) l31 c31 k31
  have F32 := fun_mk (st := sHarm) l32 c32 k32
  have F33 := fun_mk (st := sRInit) l33 c33 k33
  have F34 := fun_mk (st := sRWind) l34 c34 k34
  have F35 := fun_mk (st := sRPrick) l35 c35 k35
  have F36 := fun_mk (st := sDue) l36 c36 k36
  have F37 := fun_mk (st := sADeed) l37 c37 k37
  have F38 := fun_mk (st := sLight) l38 c38 k38
  have F39 := fun_mk (st := sRLight) l39 c39 k39
  have F40 := fun_mk (st := sDid) l40 c40 k40
  have F41 := fun_mk (st := sStand) l41 c41 k41
  have F42 := fun_mk (st := sLaw) l42 c42 k42
  have m_RE := PySem.W.mg_of X G aRE
  have kI : PySem.W.kitOne K (.type "int") (.ref C) = some false := kit_other rfl kI1 kI2 kI0
  obtain ⟨D, hD⟩ : ∃ D, D = dv5 d0 d1 d2 d3 d4 := ⟨_, rfl⟩
  have KD : Kinds K mg RE D kindW := by
    subst hD
    exact ⟨(lt5 (PySem.W.mg_of X G g_0) (PySem.W.mg_of X G g_1) (PySem.W.mg_of X G g_2) (PySem.W.mg_of X G g_3) (PySem.W.mg_of X G g_4)), (lt5 x_0 x_1 x_2 x_3 x_4), (lt5 q_0 q_1 q_2 q_3 q_4), (lt5 t_0 t_1 t_2 t_3 t_4), (lt5 ⟨eg_0, ek_0, es_0, ed_0, ea_0, tyN, tyT, em_0⟩ ⟨eg_1, ek_1, es_1, ed_1, ea_1, tyN, tyT, em_1⟩ ⟨eg_2, ek_2, es_2, ed_2, ea_2, tyN, tyT, em_2⟩ ⟨eg_3, ek_3, es_3, ed_3, ea_3, tyN, tyT, em_3⟩ ⟨eg_4, ek_4, es_4, ed_4, ea_4, tyN, tyT, em_4⟩), (lt5 (exm_sub RE0 RE1 RE2 ms_0) (exm_sub RE0 RE1 RE2 ms_1) (exm_sub RE0 RE1 RE2 ms_2) (exm_sub RE0 RE1 RE2 ms_3) (exm_sub RE0 RE1 RE2 ms_4)), fun i j hi hj => lt5 (Pp := fun i => PySem.W.kitOne K (.ref (dv5 d0 d1 d2 d3 d4 i)) (.ref (dv5 d0 d1 d2 d3 d4 j)) = some (decide (i = j))) (lt5 (Pp := fun j => PySem.W.kitOne K (.ref d0) (.ref (dv5 d0 d1 d2 d3 d4 j)) = some (decide (0 = j))) (by simp [PySem.W.kitOne, dv5]) (kit_other (ref_ne n_01) mc_1 t_1 o_01) (kit_other (ref_ne n_02) mc_2 t_2 o_02) (kit_other (ref_ne n_03) mc_3 t_3 o_03) (kit_other (ref_ne n_04) mc_4 t_4 o_04) j hj) (lt5 (Pp := fun j => PySem.W.kitOne K (.ref d1) (.ref (dv5 d0 d1 d2 d3 d4 j)) = some (decide (1 = j))) (kit_other (ref_ne n_10) mc_0 t_0 o_10) (by simp [PySem.W.kitOne, dv5]) (kit_other (ref_ne n_12) mc_2 t_2 o_12) (kit_other (ref_ne n_13) mc_3 t_3 o_13) (kit_other (ref_ne n_14) mc_4 t_4 o_14) j hj) (lt5 (Pp := fun j => PySem.W.kitOne K (.ref d2) (.ref (dv5 d0 d1 d2 d3 d4 j)) = some (decide (2 = j))) (kit_other (ref_ne n_20) mc_0 t_0 o_20) (kit_other (ref_ne n_21) mc_1 t_1 o_21) (by simp [PySem.W.kitOne, dv5]) (kit_other (ref_ne n_23) mc_3 t_3 o_23) (kit_other (ref_ne n_24) mc_4 t_4 o_24) j hj) (lt5 (Pp := fun j => PySem.W.kitOne K (.ref d3) (.ref (dv5 d0 d1 d2 d3 d4 j)) = some (decide (3 = j))) (kit_other (ref_ne n_30) mc_0 t_0 o_30) (kit_other (ref_ne n_31) mc_1 t_1 o_31) (kit_other (ref_ne n_32) mc_2 t_2 o_32) (by simp [PySem.W.kitOne, dv5]) (kit_other (ref_ne n_34) mc_4 t_4 o_34) j hj) (lt5 (Pp := fun j => PySem.W.kitOne K (.ref d4) (.ref (dv5 d0 d1 d2 d3 d4 j)) = some (decide (4 = j))) (kit_other (ref_ne n_40) mc_0 t_0 o_40) (kit_other (ref_ne n_41) mc_1 t_1 o_41) (kit_other (ref_ne n_42) mc_2 t_2 o_42) (kit_other (ref_ne n_43) mc_3 t_3 o_43) (by simp [PySem.W.kitOne, dv5]) j hj) i hi⟩
  refine ⟨PySem.W.fnOf "law" "law" (defArgs sLaw) (defBody sLaw) (defScope sLaw) .none kV42 dc42 pm42 an42 cd42 ct42, fun s v => .of_eq rfl, fun base _ _ => ?_⟩
  have m_K := PySem.W.mg_of X G a0
  have k_K := F0.kp
  have b_K : Binds K _ ["e"] [] := F0.binds (ps := ["e"]) fun _ _ _ _ _ _ us hl => match us, hl with | [_], _ => rfl
  have KF := fun B : Heap => ok_Kind (P := l.prog) (w := w) (base := B) F0 KD m_isinstance m_zip
  have C_is_whole : Can l.prog w K mg base "is_whole" 1 f1 _ ["thing"] (spIsWhole K) := ⟨ok_isWhole (k := 0) F1 m_isinstance m_int m_bool, PySem.W.mg_of X G a1, F1.kp, F1.binds (ps := ["thing"]) fun _ _ _ _ _ _ us hl => match us, hl with | [_], _ => rfl⟩
  have C_common_divisor : Can l.prog w K mg base "common_divisor" 1 f2 _ ["first", "second"] spGcd := ⟨ok_gcd (k := 0) F2, PySem.W.mg_of X G a2, F2.kp, F2.binds (ps := ["first", "second"]) fun _ _ _ _ _ _ us hl => match us, hl with | [_, _], _ => rfl⟩
  have CZ : Can l.prog w K mg base "common_divisor" 1 f2 _ ["first", "second"] spGcdZ := ⟨ok_gcdZ (k := 0) F2, PySem.W.mg_of X G a2, F2.kp, F2.binds (ps := ["first", "second"]) fun _ _ _ _ _ _ us hl => match us, hl with | [_, _], _ => rfl⟩
  have C_turns : Can l.prog w K mg base "turns" 1 f3 _ ["many", "winding"] (spTurns K) := ⟨ok_turns (k := 0) F3 m_CELL, PySem.W.mg_of X G a3, F3.kp, F3.binds (ps := ["many", "winding"]) fun _ _ _ _ _ _ us hl => match us, hl with | [_, _], _ => rfl⟩
  have C_cell_at : Can l.prog w K mg base "cell_at" 1 f4 _ ["many", "winding", "place"] (spCellAt K) := ⟨ok_cellAt (k := 0) F4, PySem.W.mg_of X G a4, F4.kp, F4.binds (ps := ["many", "winding", "place"]) fun _ _ _ _ _ _ us hl => match us, hl with | [_, _, _], _ => rfl⟩
  have C_marks : Can l.prog w K mg base "marks" 1 f5 _ ["many", "rows", "whole"] (spMarks K) := ⟨ok_marks (k := 0) F5 m_CELL m_sorted m_range, PySem.W.mg_of X G a5, F5.kp, F5.binds (ps := ["many", "rows", "whole"]) fun _ _ _ _ _ _ us hl => match us, hl with | [_, _, _], _ => rfl⟩
  have C_unwished : Can l.prog w K mg base "unwished" 1 f6 _ ["cells", "wished"] (spUnw K) := ⟨ok_unw (k := 0) F6, PySem.W.mg_of X G a6, F6.kp, F6.binds (ps := ["cells", "wished"]) fun _ _ _ _ _ _ us hl => match us, hl with | [_, _], _ => rfl⟩
  have M_remember : CanM l.prog w K mg base C "remember" 1 f7 _ ["self"] (spHRem K C D) := ⟨ok_RRem RC F7 , ⟨a7, i7, k7⟩, F7.binds (ps := ["self"]) fun _ _ _ _ _ _ us hl => match us, hl with | [_], _ => rfl⟩
  have M_need_winding : CanN l.prog w K mg base C "need_winding" 1 f8 _ ["self"] (spHNeed K C D) := ⟨ok_RNeed RC F8 KD, ⟨a8, i8, k8⟩, F8.binds (ps := ["self"]) fun _ _ _ _ _ _ us hl => match us, hl with | [_], _ => rfl⟩
  have M_back : CanN l.prog w K mg base C "back" 1 f9 _ ["self"] (spHBack K C D) := ⟨ok_RBack RC F9 KD, ⟨a9, i9, k9⟩, F9.binds (ps := ["self"]) fun _ _ _ _ _ _ us hl => match us, hl with | [_], _ => rfl⟩
  have M_winding : CanM l.prog w K mg base C "winding" 1 f10 _ ["self"] (spHWinding K C D) := ⟨ok_RWinding RC F10 , ⟨a10, i10, k10⟩, F10.binds (ps := ["self"]) fun _ _ _ _ _ _ us hl => match us, hl with | [_], _ => rfl⟩
  have M_holes : CanM l.prog w K mg base C "holes" 1 f11 _ ["self"] (spHHoles K C D) := ⟨ok_RHoles RC F11 , ⟨a11, i11, k11⟩, F11.binds (ps := ["self"]) fun _ _ _ _ _ _ us hl => match us, hl with | [_], _ => rfl⟩
  have M_pricks : CanM l.prog w K mg base C "pricks" 1 f12 _ ["self"] (spHPricks K C D) := ⟨ok_RPricks RC F12 , ⟨a12, i12, k12⟩, F12.binds (ps := ["self"]) fun _ _ _ _ _ _ us hl => match us, hl with | [_], _ => rfl⟩
  have M___len__ : CanM l.prog w K mg base C "__len__" 1 f13 _ ["self"] (spHLen K C D) := ⟨ok_RLen RC F13 m_len, ⟨a13, i13, k13⟩, F13.binds (ps := ["self"]) fun _ _ _ _ _ _ us hl => match us, hl with | [_], _ => rfl⟩
  have M___eq__ : CanM l.prog w K mg base C "__eq__" 1 f14 _ ["self", "other"] (spHEq K C) := ⟨ok_REq RC F14 m_isinstance m_Roll TY, ⟨a14, i14, k14⟩, F14.binds (ps := ["self", "other"]) fun _ _ _ _ _ _ us hl => match us, hl with | [_, _], _ => rfl⟩
  have C__law_bag : Can l.prog w K mg base "_law_bag" 1 f15 _ ["script", "k"] (spBag K) := ⟨ok_bag (k := 0) F15 m_len, PySem.W.mg_of X G a15, F15.kp, F15.binds (ps := ["script", "k"]) fun _ _ _ _ _ _ us hl => match us, hl with | [_, _], _ => rfl⟩
  have C__law_take : Can l.prog w K mg base "_law_take" 1 f16 _ ["bag", "count"] spTake := ⟨ok_take (k := 0) F16, PySem.W.mg_of X G a16, F16.kp, F16.binds (ps := ["bag", "count"]) fun _ _ _ _ _ _ us hl => match us, hl with | [_, _], _ => rfl⟩
  have C__law_lowest : Can l.prog w K mg base "_law_lowest" 1 f17 _ ["top", "bottom"] spLow2 := ⟨ok_low2 (k := 0) F17, PySem.W.mg_of X G a17, F17.kp, F17.binds (ps := ["top", "bottom"]) fun _ _ _ _ _ _ us hl => match us, hl with | [_, _], _ => rfl⟩
  have C__law_pricked : Can l.prog w K mg base "_law_pricked" 1 f18 _ ["many", "winding", "angle"] (spLPr K) := ⟨ok_lpr (k := 0) F18 m_sorted, PySem.W.mg_of X G a18, F18.kp, F18.binds (ps := ["many", "winding", "angle"]) fun _ _ _ _ _ _ us hl => match us, hl with | [_, _, _], _ => rfl⟩
  have C_common_multiple : Can l.prog w K mg base "common_multiple" 2 f19 _ ["numbers"] (spLcm K) := ⟨ok_lcm F19 C_common_divisor, PySem.W.mg_of X G a19, F19.kp, F19.binds (ps := ["numbers"]) fun _ _ _ _ _ _ us hl => match us, hl with | [_], _ => rfl⟩
  have C_lowest : Can l.prog w K mg base "lowest" 2 f20 _ ["top", "bottom"] (spLowest K) := ⟨ok_lowest F20 C_common_divisor, PySem.W.mg_of X G a20, F20.kp, F20.binds (ps := ["top", "bottom"]) fun _ _ _ _ _ _ us hl => match us, hl with | [_, _], _ => rfl⟩
  have C_is_fraction : Can l.prog w K mg base "is_fraction" 2 f21 _ ["thing"] (spFracZ K) := ⟨ok_FracZ F21 m_len m_isinstance m_tuple CZ C_is_whole, PySem.W.mg_of X G a21, F21.kp, F21.binds (ps := ["thing"]) fun _ _ _ _ _ _ us hl => match us, hl with | [_], _ => rfl⟩
  have C_is_within : Can l.prog w K mg base "is_within" 2 f22 _ ["thing", "bounds"] (spIsWithin K) := ⟨ok_isWithin F22 C_is_whole, PySem.W.mg_of X G a22, F22.kp, F22.binds (ps := ["thing", "bounds"]) fun _ _ _ _ _ _ us hl => match us, hl with | [_, _], _ => rfl⟩
  have C_pricked : Can l.prog w K mg base "pricked" 2 f23 _ ["many", "winding", "angle"] (spPricked K) := ⟨ok_pricked F23 m_CELL m_sorted C_turns C_cell_at, PySem.W.mg_of X G a23, F23.kp, F23.binds (ps := ["many", "winding", "angle"]) fun _ _ _ _ _ _ us hl => match us, hl with | [_, _, _], _ => rfl⟩
  have C__law_of : Can l.prog w K mg base "_law_of" 2 f24 _ ["bag", "some"] (spOf K) := ⟨ok_of F24 m_len C__law_take, PySem.W.mg_of X G a24, F24.kp, F24.binds (ps := ["bag", "some"]) fun _ _ _ _ _ _ us hl => match us, hl with | [_, _], _ => rfl⟩
  have C__law_is_angle : Can l.prog w K mg base "_law_is_angle" 2 f25 _ ["thing"] (spLAng K) := ⟨ok_LAng F25 m_len m_isinstance m_tuple m_bool m_int C__law_lowest, PySem.W.mg_of X G a25, F25.kp, F25.binds (ps := ["thing"]) fun _ _ _ _ _ _ us hl => match us, hl with | [_], _ => rfl⟩
  have C_is_strip : Can l.prog w K mg base "is_strip" 3 f26 _ ["thing"] (spIsStrip K) := ⟨ok_IsStrip F26 C_is_within m_S SB, PySem.W.mg_of X G a26, F26.kp, F26.binds (ps := ["thing"]) fun _ _ _ _ _ _ us hl => match us, hl with | [_], _ => rfl⟩
  have C_is_winding : Can l.prog w K mg base "is_winding" 3 f27 _ ["thing"] (spIsWin K) := ⟨ok_isWin F27 m_isinstance m_tuple m_len m_all m_zip m_B BB C_is_within, PySem.W.mg_of X G a27, F27.kp, F27.binds (ps := ["thing"]) fun _ _ _ _ _ _ us hl => match us, hl with | [_], _ => rfl⟩
  have C_is_angle : Can l.prog w K mg base "is_angle" 3 f28 _ ["thing"] (spAngZ K) := ⟨ok_AngZ F28 C_is_fraction, PySem.W.mg_of X G a28, F28.kp, F28.binds (ps := ["thing"]) fun _ _ _ _ _ _ us hl => match us, hl with | [_], _ => rfl⟩
  have C_stretches : Can l.prog w K mg base "stretches" 3 f29 _ ["many", "winding"] (spStretches K) := ⟨ok_stretches F29 m_zip m_tuple C_turns C_common_multiple C_marks C_pricked C_lowest, PySem.W.mg_of X G a29, F29.kp, F29.binds (ps := ["many", "winding"]) fun _ _ _ _ _ _ us hl => match us, hl with | [_, _], _ => rfl⟩
  have C__law_winding : Can l.prog w K mg base "_law_winding" 3 f30 _ ["bag"] (spWind K) := ⟨ok_wind F30 C__law_take C__law_of, PySem.W.mg_of X G a30, F30.kp, F30.binds (ps := ["bag"]) fun _ _ _ _ _ _ us hl => match us, hl with | [_], _ => rfl⟩
  have C__law_angle : Can l.prog w K mg base "_law_angle" 3 f31 _ ["bag"] (spAngle K) := ⟨ok_angle F31 C__law_take C__law_of C__law_lowest, PySem.W.mg_of X G a31, F31.kp, F31.binds (ps := ["bag"]) fun _ _ _ _ _ _ us hl => match us, hl with | [_], _ => rfl⟩
  have C_harmless : Can l.prog w K mg base "harmless" 4 f32 _ ["many", "winding", "wished"] (spHarm K) := ⟨ok_Harm F32 C_stretches C_unwished, PySem.W.mg_of X G a32, F32.kp, F32.binds (ps := ["many", "winding", "wished"]) fun _ _ _ _ _ _ us hl => match us, hl with | [_, _, _], _ => rfl⟩
  have MK : Mk K C f33 := ⟨mk, a33, i33, kc⟩
  have F_init : FnOk l.prog w K mg base (L2N.CX l.prog w) 4 f33 _ ["self", "many"] (spHInit K C D) := ok_RInit RC F33 KD C_is_strip
  have B_init : Binds K _ ["self", "many"] [] := F33.binds (ps := ["self", "many"]) fun _ _ _ _ _ _ us hl => match us, hl with | [_, _], _ => rfl
  have M_wind : CanN l.prog w K mg base C "wind" 4 f34 _ ["self", "winding"] (spHWind K C D) := ⟨ok_RWind RC F34 KD C_is_winding M_remember, ⟨a34, i34, k34⟩, F34.binds (ps := ["self", "winding"]) fun _ _ _ _ _ _ us hl => match us, hl with | [_, _], _ => rfl⟩
  have M_prick : CanN l.prog w K mg base C "prick" 4 f35 _ ["self", "angle"] (spHPrick K C D) := ⟨ok_RPrick RC F35 KD m_tuple m_sorted m_list C_is_angle C_pricked M_need_winding M_remember, ⟨a35, i35, k35⟩, F35.binds (ps := ["self", "angle"]) fun _ _ _ _ _ _ us hl => match us, hl with | [_, _], _ => rfl⟩
  have C__law_due : Can l.prog w K mg base "_law_due" 4 f36 _ ["many", "rows", "deed"] (spDue K) := ⟨ok_Due F36 m_len m_tuple m_sorted C_is_winding C__law_is_angle C__law_pricked, PySem.W.mg_of X G a36, F36.kp, F36.binds (ps := ["many", "rows", "deed"]) fun _ _ _ _ _ _ us hl => match us, hl with | [_, _, _], _ => rfl⟩
  have C__law_a_deed : Can l.prog w K mg base "_law_a_deed" 4 f37 _ ["bag"] (spADeed K) := ⟨ok_ADeed F37 C__law_take C__law_winding C__law_angle C__law_of, PySem.W.mg_of X G a37, F37.kp, F37.binds (ps := ["bag"]) fun _ _ _ _ _ _ us hl => match us, hl with | [_], _ => rfl⟩
  have C_light : Can l.prog w K mg base "light" 5 f38 _ ["many", "winding", "holes"] (spLight K) := ⟨ok_Light F38 C_harmless, PySem.W.mg_of X G a38, F38.kp, F38.binds (ps := ["many", "winding", "holes"]) fun _ _ _ _ _ _ us hl => match us, hl with | [_, _, _], _ => rfl⟩
  have C_light_light : Can l.prog w K mg base "light_light" 5 f38 _ ["many", "winding", "holes"] (spLight K) := ⟨C_light.1, PySem.W.mg_of X G al_light_light, F38.kp, F38.binds (ps := ["many", "winding", "holes"]) fun _ _ _ _ _ _ us hl => match us, hl with | [_, _, _], _ => rfl⟩
  have M_light : CanN l.prog w K mg base C "light" 6 f39 _ ["self"] (spHLight K C D) := ⟨ok_RLight RC F39 KD C_light_light M_need_winding, ⟨a39, i39, k39⟩, F39.binds (ps := ["self"]) fun _ _ _ _ _ _ us hl => match us, hl with | [_], _ => rfl⟩
  have C__law_did : Can l.prog w K mg base "_law_did" 7 f40 _ ["roll", "deed"] (spDid K C D) := ⟨ok_Did RC F40 KD m_RE KF m_K k_K b_K M_wind M_light M_prick M_back, PySem.W.mg_of X G a40, F40.kp, F40.binds (ps := ["roll", "deed"]) fun _ _ _ _ _ _ us hl => match us, hl with | [_, _], _ => rfl⟩
  have C__law_stands_so : Can l.prog w K mg base "_law_stands_so" 8 f41 _ ["roll", "many", "rows"] (spStand K C D) := ⟨ok_Stand RC F41 KD m_len C__law_did C_light_light M___len__ M_pricks M_holes M_winding, PySem.W.mg_of X G a41, F41.kp, F41.binds (ps := ["roll", "many", "rows"]) fun _ _ _ _ _ _ us hl => match us, hl with | [_, _, _], _ => rfl⟩
  exact ok_Law RC F42 KD m_range m_min m_len C__law_take C__law_bag C__law_a_deed C__law_due C__law_stands_so C__law_did M___eq__ M_back MK F_init B_init m_Roll NF kI m_RE KF m_K k_K b_K
end Nr
open PySem PySem.W PyProof.Rows
set_option maxRecDepth 100000 in
set_option maxHeartbeats 0 in
theorem PySem.Challenge.cw_needleroll_k09_whole_a_roll_deed_by_deed_holds : PySem.Challenge.rw_needleroll_k09_whole_a_roll_deed_by_deed.Holds := by
  w_on; o_law; k_head; (case hw => w_witness2)
  k_fill
  refine L2.walk_of (l := PySem.Challenge.rw_needleroll_k09_whole_a_roll_deed_by_deed) (n := 63) (k := 9) (x := "script") (CX := fun _ => L2.CX0) (sp := fun w => Nr.spLaw0 _) rfl (by decide) rfl ⟨rfl, by decide, by decide⟩ (fun w h Y => PySem.W.kIn_of Y) ?F (fun _ _ a ns hl _ hS => ⟨a, ns, rfl, hS, hl, fun _ => rfl⟩) (fun _ _ _ _ _ h => h)
  case F =>
    intro w mg fa h KX G hmg
    refine' Nr.all_mk KX G hmg ?aC ?pg ?hd ?po ?sa ?mk ?kc ?n_many ?n_wound ?n_pierced ?n_times ?n_past ?tyA ?tyN ?tyT ?tyM ?aRE ?NF ?kI0 ?kI1 ?kI2 ?RE0 ?RE1 ?RE2 ?g_0 ?x_0 ?q_0 ?t_0 ?eg_0 ?ek_0 ?es_0 ?ed_0 ?ea_0 ?em_0 ?ms_0 ?mc_0 ?o_01 ?n_01 ?o_02 ?n_02 ?o_03 ?n_03 ?o_04 ?n_04 ?g_1 ?x_1 ?q_1 ?t_1 ?eg_1 ?ek_1 ?es_1 ?ed_1 ?ea_1 ?em_1 ?ms_1 ?mc_1 ?o_10 ?n_10 ?o_12 ?n_12 ?o_13 ?n_13 ?o_14 ?n_14 ?g_2 ?x_2 ?q_2 ?t_2 ?eg_2 ?ek_2 ?es_2 ?ed_2 ?ea_2 ?em_2 ?ms_2 ?mc_2 ?o_20 ?n_20 ?o_21 ?n_21 ?o_23 ?n_23 ?o_24 ?n_24 ?g_3 ?x_3 ?q_3 ?t_3 ?eg_3 ?ek_3 ?es_3 ?ed_3 ?ea_3 ?em_3 ?ms_3 ?mc_3 ?o_30 ?n_30 ?o_31 ?n_31 ?o_32 ?n_32 ?o_34 ?n_34 ?g_4 ?x_4 ?q_4 ?t_4 ?eg_4 ?ek_4 ?es_4 ?ed_4 ?ea_4 ?em_4 ?ms_4 ?mc_4 ?o_40 ?n_40 ?o_41 ?n_41 ?o_42 ?n_42 ?o_43 ?n_43 ?a0 ?l0 ?c0 ?k0 ?a1 ?l1 ?c1 ?k1 ?a2 ?l2 ?c2 ?k2 ?a3 ?l3 ?c3 ?k3 ?a4 ?l4 ?c4 ?k4 ?a5 ?l5 ?c5 ?k5 ?a6 ?l6 ?c6 ?k6 ?a7 ?i7 ?l7 ?c7 ?k7 ?a8 ?i8 ?l8 ?c8 ?k8 ?a9 ?i9 ?l9 ?c9 ?k9 ?a10 ?i10 ?l10 ?c10 ?k10 ?a11 ?i11 ?l11 ?c11 ?k11 ?a12 ?i12 ?l12 ?c12 ?k12 ?a13 ?i13 ?l13 ?c13 ?k13 ?a14 ?i14 ?l14 ?c14 ?k14 ?a15 ?l15 ?c15 ?k15 ?a16 ?l16 ?c16 ?k16 ?a17 ?l17 ?c17 ?k17 ?a18 ?l18 ?c18 ?k18 ?a19 ?l19 ?c19 ?k19 ?a20 ?l20 ?c20 ?k20 ?a21 ?l21 ?c21 ?k21 ?a22 ?l22 ?c22 ?k22 ?a23 ?l23 ?c23 ?k23 ?a24 ?l24 ?c24 ?k24 ?a25 ?l25 ?c25 ?k25 ?a26 ?l26 ?c26 ?k26 ?a27 ?l27 ?c27 ?k27 ?a28 ?l28 ?c28 ?k28 ?a29 ?l29 ?c29 ?k29 ?a30 ?l30 ?c30 ?k30 ?a31 ?l31 ?c31 ?k31 ?a32 ?l32 ?c32 ?k32 ?a33 ?i33 ?l33 ?c33 ?k33 ?a34 ?i34 ?l34 ?c34 ?k34 ?a35 ?i35 ?l35 ?c35 ?k35 ?a36 ?l36 ?c36 ?k36 ?a37 ?l37 ?c37 ?k37 ?a38 ?l38 ?c38 ?k38 ?a39 ?i39 ?l39 ?c39 ?k39 ?a40 ?l40 ?c40 ?k40 ?a41 ?l41 ?c41 ?k41 ?a42 ?l42 ?c42 ?k42 ?al_light_light ?z_isinstance ?z_zip ?z_int ?z_bool ?z_sorted ?z_range ?z_len ?z_tuple ?z_all ?z_list ?z_min ?z_CELL ?z_B ?lB0 ?lB1 ?lB2 ?lB3 ?z_S ?lS
    (case aC => k_is)
    (case aRE => k_is)
    (case g_0 => k_is)
    (case g_1 => k_is)
    (case g_2 => k_is)
    (case g_3 => k_is)
    (case g_4 => k_is)
    (case pg => k_is)
    (case hd => k_is)
    (case po => k_is)
    (case sa => k_is)
    (case mk => k_is)
    (case kc => k_is)
    (case n_many => k_is)
    (case n_wound => k_is)
    (case n_pierced => k_is)
    (case n_times => k_is)
    (case n_past => k_is)
    (case tyA => k_is)
    (case tyN => k_is)
    (case tyT => k_is)
    (case tyM => k_is)
    (case NF => k_is)
    (case kI0 => first | k_is | rfl)
    (case kI1 => k_is)
    (case kI2 => k_is)
    (case RE0 => k_is)
    (case RE1 => k_is)
    (case RE2 => k_is)
    (case x_0 => k_exc)
    (case q_0 => k_is)
    (case t_0 => k_is)
    (case eg_0 => k_is)
    (case ek_0 => k_is)
    (case es_0 => k_is)
    (case ed_0 => k_is)
    (case ea_0 => k_is)
    (case em_0 => k_is)
    (case ms_0 => first | k_is | rfl)
    (case mc_0 => k_is)
    (case o_01 => first | k_is | rfl)
    (case n_01 => decide)
    (case o_02 => first | k_is | rfl)
    (case n_02 => decide)
    (case o_03 => first | k_is | rfl)
    (case n_03 => decide)
    (case o_04 => first | k_is | rfl)
    (case n_04 => decide)
    (case x_1 => k_exc)
    (case q_1 => k_is)
    (case t_1 => k_is)
    (case eg_1 => k_is)
    (case ek_1 => k_is)
    (case es_1 => k_is)
    (case ed_1 => k_is)
    (case ea_1 => k_is)
    (case em_1 => k_is)
    (case ms_1 => first | k_is | rfl)
    (case mc_1 => k_is)
    (case o_10 => first | k_is | rfl)
    (case n_10 => decide)
    (case o_12 => first | k_is | rfl)
    (case n_12 => decide)
    (case o_13 => first | k_is | rfl)
    (case n_13 => decide)
    (case o_14 => first | k_is | rfl)
    (case n_14 => decide)
    (case x_2 => k_exc)
    (case q_2 => k_is)
    (case t_2 => k_is)
    (case eg_2 => k_is)
    (case ek_2 => k_is)
    (case es_2 => k_is)
    (case ed_2 => k_is)
    (case ea_2 => k_is)
    (case em_2 => k_is)
    (case ms_2 => first | k_is | rfl)
    (case mc_2 => k_is)
    (case o_20 => first | k_is | rfl)
    (case n_20 => decide)
    (case o_21 => first | k_is | rfl)
    (case n_21 => decide)
    (case o_23 => first | k_is | rfl)
    (case n_23 => decide)
    (case o_24 => first | k_is | rfl)
    (case n_24 => decide)
    (case x_3 => k_exc)
    (case q_3 => k_is)
    (case t_3 => k_is)
    (case eg_3 => k_is)
    (case ek_3 => k_is)
    (case es_3 => k_is)
    (case ed_3 => k_is)
    (case ea_3 => k_is)
    (case em_3 => k_is)
    (case ms_3 => first | k_is | rfl)
    (case mc_3 => k_is)
    (case o_30 => first | k_is | rfl)
    (case n_30 => decide)
    (case o_31 => first | k_is | rfl)
    (case n_31 => decide)
    (case o_32 => first | k_is | rfl)
    (case n_32 => decide)
    (case o_34 => first | k_is | rfl)
    (case n_34 => decide)
    (case x_4 => k_exc)
    (case q_4 => k_is)
    (case t_4 => k_is)
    (case eg_4 => k_is)
    (case ek_4 => k_is)
    (case es_4 => k_is)
    (case ed_4 => k_is)
    (case ea_4 => k_is)
    (case em_4 => k_is)
    (case ms_4 => first | k_is | rfl)
    (case mc_4 => k_is)
    (case o_40 => first | k_is | rfl)
    (case n_40 => decide)
    (case o_41 => first | k_is | rfl)
    (case n_41 => decide)
    (case o_42 => first | k_is | rfl)
    (case n_42 => decide)
    (case o_43 => first | k_is | rfl)
    (case n_43 => decide)
    (case a0 => k_is)
    (case l0 => k_is)
    (case c0 => k_is)
    (case k0 => k_is)
    (case a1 => k_is)
    (case l1 => k_is)
    (case c1 => k_is)
    (case k1 => k_is)
    (case a2 => k_is)
    (case l2 => k_is)
    (case c2 => k_is)
    (case k2 => k_is)
    (case a3 => k_is)
    (case l3 => k_is)
    (case c3 => k_is)
    (case k3 => k_is)
    (case a4 => k_is)
    (case l4 => k_is)
    (case c4 => k_is)
    (case k4 => k_is)
    (case a5 => k_is)
    (case l5 => k_is)
    (case c5 => k_is)
    (case k5 => k_is)
    (case a6 => k_is)
    (case l6 => k_is)
    (case c6 => k_is)
    (case k6 => k_is)
    (case a7 => k_is)
    (case i7 => k_is)
    (case l7 => k_is)
    (case c7 => k_is)
    (case k7 => k_is)
    (case a8 => k_is)
    (case i8 => k_is)
    (case l8 => k_is)
    (case c8 => k_is)
    (case k8 => k_is)
    (case a9 => k_is)
    (case i9 => k_is)
    (case l9 => k_is)
    (case c9 => k_is)
    (case k9 => k_is)
    (case a10 => k_is)
    (case i10 => k_is)
    (case l10 => k_is)
    (case c10 => k_is)
    (case k10 => k_is)
    (case a11 => k_is)
    (case i11 => k_is)
    (case l11 => k_is)
    (case c11 => k_is)
    (case k11 => k_is)
    (case a12 => k_is)
    (case i12 => k_is)
    (case l12 => k_is)
    (case c12 => k_is)
    (case k12 => k_is)
    (case a13 => k_is)
    (case i13 => k_is)
    (case l13 => k_is)
    (case c13 => k_is)
    (case k13 => k_is)
    (case a14 => k_is)
    (case i14 => k_is)
    (case l14 => k_is)
    (case c14 => k_is)
    (case k14 => k_is)
    (case a15 => k_is)
    (case l15 => k_is)
    (case c15 => k_is)
    (case k15 => k_is)
    (case a16 => k_is)
    (case l16 => k_is)
    (case c16 => k_is)
    (case k16 => k_is)
    (case a17 => k_is)
    (case l17 => k_is)
    (case c17 => k_is)
    (case k17 => k_is)
    (case a18 => k_is)
    (case l18 => k_is)
    (case c18 => k_is)
    (case k18 => k_is)
    (case a19 => k_is)
    (case l19 => k_is)
    (case c19 => k_is)
    (case k19 => k_is)
    (case a20 => k_is)
    (case l20 => k_is)
    (case c20 => k_is)
    (case k20 => k_is)
    (case a21 => k_is)
    (case l21 => k_is)
    (case c21 => k_is)
    (case k21 => k_is)
    (case a22 => k_is)
    (case l22 => k_is)
    (case c22 => k_is)
    (case k22 => k_is)
    (case a23 => k_is)
    (case l23 => k_is)
    (case c23 => k_is)
    (case k23 => k_is)
    (case a24 => k_is)
    (case l24 => k_is)
    (case c24 => k_is)
    (case k24 => k_is)
    (case a25 => k_is)
    (case l25 => k_is)
    (case c25 => k_is)
    (case k25 => k_is)
    (case a26 => k_is)
    (case l26 => k_is)
    (case c26 => k_is)
    (case k26 => k_is)
    (case a27 => k_is)
    (case l27 => k_is)
    (case c27 => k_is)
    (case k27 => k_is)
    (case a28 => k_is)
    (case l28 => k_is)
    (case c28 => k_is)
    (case k28 => k_is)
    (case a29 => k_is)
    (case l29 => k_is)
    (case c29 => k_is)
    (case k29 => k_is)
    (case a30 => k_is)
    (case l30 => k_is)
    (case c30 => k_is)
    (case k30 => k_is)
    (case a31 => k_is)
    (case l31 => k_is)
    (case c31 => k_is)
    (case k31 => k_is)
    (case a32 => k_is)
    (case l32 => k_is)
    (case c32 => k_is)
    (case k32 => k_is)
    (case a33 => k_is)
    (case i33 => k_is)
    (case l33 => k_is)
    (case c33 => k_is)
    (case k33 => k_is)
    (case a34 => k_is)
    (case i34 => k_is)
    (case l34 => k_is)
    (case c34 => k_is)
    (case k34 => k_is)
    (case a35 => k_is)
    (case i35 => k_is)
    (case l35 => k_is)
    (case c35 => k_is)
    (case k35 => k_is)
    (case a36 => k_is)
    (case l36 => k_is)
    (case c36 => k_is)
    (case k36 => k_is)
    (case a37 => k_is)
    (case l37 => k_is)
    (case c37 => k_is)
    (case k37 => k_is)
    (case a38 => k_is)
    (case l38 => k_is)
    (case c38 => k_is)
    (case k38 => k_is)
    (case a39 => k_is)
    (case i39 => k_is)
    (case l39 => k_is)
    (case c39 => k_is)
    (case k39 => k_is)
    (case a40 => k_is)
    (case l40 => k_is)
    (case c40 => k_is)
    (case k40 => k_is)
    (case a41 => k_is)
    (case l41 => k_is)
    (case c41 => k_is)
    (case k41 => k_is)
    (case a42 => k_is)
    (case l42 => k_is)
    (case c42 => k_is)
    (case k42 => k_is)
    (case al_light_light => k_is)
    (case z_isinstance => k_is)
    (case z_zip => k_is)
    (case z_int => k_is)
    (case z_bool => k_is)
    (case z_sorted => k_is)
    (case z_range => k_is)
    (case z_len => k_is)
    (case z_tuple => k_is)
    (case z_all => k_is)
    (case z_list => k_is)
    (case z_min => k_is)
    (case z_CELL => k_is)
    (case z_B => k_is)
    (case lB0 => k_is)
    (case lB1 => k_is)
    (case lB2 => k_is)
    (case lB3 => k_is)
    (case z_S => k_is)
    (case lS => k_is)
