import PyProof.Rows.All
import Wide.All
import OpenK.AllK
import Wide.FinOn
import HandS.Base
import HandS.Call
import HandS.List
import HandS.Comp
import HandS.Ends
import HandS.Dict
import HandS.Iter
import HandS.Words
import HandS.Evl
import HandS.Strs
import HandS.SetBool
import HandS.Wide
import HandS.Zip
import HandS.Conv
import KE.KSortedM
import HandS.Style
import HandS.Lambda
import HandS.SortKw
import KE.KDictCopyH
import KE.KDictSum
import KE.KSortKey
import HandS.Slots
import HandS.IsInst
import HandS.SetFor
import HandS.Deep
import KE.DataAny
import HandS.More
import HandS.TupAny
import HandS.EndTab
import PySem.Challenge.RW_needleroll_k03_whole_what_is_barred_and
set_option Elab.async false
set_option linter.all false
set_option maxRecDepth 100000
set_option maxHeartbeats 4000000

namespace Nr
open PySem PySem.Spec PyProof.Rows L2 Evl

abbrev prg : Program := PySem.Challenge.pw_needleroll_k03_whole_what_is_barred_and
def topS (i : Nat) : Stmt := prg.main.body.getD i (.Pass ⟨0, 0, 0, 0⟩)

/-- a def that can be called: where it stands, what it keeps -/
structure Can (P : Program) (w : World) (K : PySem.W.Frag) (mg : Str → Option Value) (base : Heap) (x : Str) (k : Nat) (f : Addr) (fd : FuncData) (ps : List Str) (sp : Sp) : Prop where
  ok : FnOk P w K mg base CX0 k f fd ps sp
  at_ : mg x = some (.ref f)
  kp : PySem.W.keepIn K (.ref f) = true
  bd : Binds K fd ps []

section
variable {X : Cx} {x : Str} {k j : Nat} {f : Addr} {fd : FuncData} {ps : List Str} {sp : Sp} {e : Expr} {es : List Expr} {t : TA} {p pos : Pos}
theorem pcall (F : Can X.prog X.w X.K X.mg X.base x k f fd ps sp) (hr : Room j X.A) (ha : PA X (e :: es) t) (hk : k ≤ j := by decide) (hg : Gl X x := by rfl)
    (hdb : (x == ("__debug__" : Str)) = false := by decide) (he : starEach (e :: es) X.env = (false, eval e X.env) :: starEach es X.env := by rfl) (hpl : (backTo pos (starEach es X.env)).any (·.1) = false := by rfl) :
    PE X (.Call (.Name x p) (e :: es) [] pos) (tCall sp [] E0 t) :=
  pe_call F.ok (hr.mono hk) hg F.at_ F.kp F.bd .nil pass0 ha hdb he hpl
end

section
variable {P : Program} {w : World} {K : PySem.W.Frag} {mg : Str → Option Value} {base : Heap}
/-! common_divisor -/
abbrev sGcd : Stmt := topS 1
theorem scGcd : FnScope ["first", "second"] ["first", "second"] (defScope sGcd) := ⟨rfl, rfl, rfl, by decide +kernel, rfl, by decide +kernel, by decide +kernel⟩
def spGcd : Sp := fun vs H Q _ => ∃ a b : Nat, vs = [.int a, .int b] ∧ RetV (.int (Nat.gcd a b : Nat)) H Q
theorem ok_gcd {f : Addr} {fd : FuncData} {k : Nat} (F : Fun K "common_divisor" "common_divisor" sGcd f fd) : FnOk P w K mg base CX0 (k + 1) f fd ["first", "second"] spGcd := by
  refine F.ok scGcd (fun vs H Q E h => ?_) (fun cdv A outer s H vs Q E hr h => ?_)
  · obtain ⟨a, b, rfl, _⟩ := h
    rfl
  obtain ⟨a, b, rfl, q⟩ := h
  refine ⟨_, pss_cons (ps_while PassesOwn.never (pt_cmpR op_ne (pv 1) pe_int (nomark _))
    (pss_one (ps_par (i := 0) (j := 1) (by rfl) scGcd.nd rfl rfl (by decide) rfl rfl (pa_cons (pv 1) (pa_cons (pe_op op_mod (pv 0) (pv 1)) pa_nil)) (by rfl))))
    (pss_one (ps_ret (pv 0))), ?_⟩
  refine q_while (fun m σ' H' => ∃ c d : Nat, σ' = [some (.int c), some (.int d)] ∧ Nat.gcd c d = Nat.gcd a b ∧ m = d ∧ Ex H H') b ⟨a, b, rfl, rfl, rfl, Ex.refl H⟩ ?_
  rintro m σ' H' ⟨c, d, rfl, hg, rfl, hx⟩
  refine ⟨_, et_test (ev_op (ev_var rfl) ev_c (rv_ne rfl)), fun hb H1 e1 => ?_, fun hb H1 e1 => ?_⟩
  · have hd : m ≠ 0 := by
      rintro rfl
      simp at hb
    refine ⟨fun σ2 H2 => ∃ c d : Nat, σ2 = [some (.int c), some (.int d)] ∧ Nat.gcd c d = Nat.gcd a b ∧ d < m ∧ Ex H H2, ?_, ?_⟩
    · rintro σ2 H2 ⟨c2, d2, rfl, g2, l2, x2⟩
      exact ⟨d2, l2, c2, d2, rfl, g2, rfl, x2⟩
    · refine ⟨.int m, rfl, .int c, rfl, .int m, rfl, c, m, rfl, rfl, by omega, .int m, .int ((c : Int) % (m : Int)), rfl, m, c % m, rfl, ?_, Nat.mod_lt _ (by omega), hx.trans e1⟩
      rw [← hg, Nat.gcd_comm c m, Nat.gcd_rec m c, Nat.gcd_comm]
  · have hd : m = 0 := by
      simp at hb
      omega
    subst hd
    refine ⟨.int c, rfl, ?_⟩
    have : c = Nat.gcd a b := by rw [← hg]; simp
    rw [this]
    exact q H1 (hx.trans e1)
end
end Nr
namespace Nr
open PySem PySem.Spec PyProof.Rows L2 Evl

/-! data -/
abbrev di (n : Nat) : PyData := .int (n : Int)
abbrev vi (n : Nat) : V := .int (n : Int)
mutual
def noL : PyData → Bool
  | .list _ => false
  | .tuple ds => noLs ds
  | .dict _ => false
  | .none => true
  | .bool _ => true
  | .int _ => true
  | .str _ => true
def noLs : List PyData → Bool
  | [] => true
  | d :: ds => noL d && noLs ds
end
theorem noLs_map {α : Type} {f : α → PyData} (h : ∀ x, noL (f x) = true) : ∀ l : List α, noLs (l.map f) = true
  | [] => by rw [List.map_nil, noLs]
  | x :: l => by rw [List.map_cons, noLs, h x, noLs_map h l]; rfl
theorem noLs_append : ∀ a b : List PyData, noLs (a ++ b) = (noLs a && noLs b)
  | [], b => by rw [List.nil_append, noLs, Bool.true_and]
  | d :: a, b => by rw [List.cons_append, noLs, noLs, noLs_append a b, Bool.and_assoc]

section
variable {K : PySem.W.Frag} {H H' : Hp}
mutual
theorem dp_ex (e : Ex H H') : ∀ (d : PyData) (v : V), Dp K H v d → Dp K H' v d
  | .none, _, h => by cases h; exact .non
  | .bool b, _, h => by cases h; exact .bl b
  | .int i, _, h => by cases h; exact .int i
  | .str x, _, h => by cases h; exact .str x
  | .list ds, _, h => by
    cases h with
    | lst hs ha => exact .lst (ex_l e hs) (dpa_ex e ds _ ha)
  | .tuple ds, _, h => by
    cases h with
    | tup hs ha => exact .tup (ex_t e hs) (dpa_ex e ds _ ha)
  | .dict _, _, h => by cases h
theorem dpa_ex (e : Ex H H') : ∀ (ds : List PyData) (vs : List V), DpAll K H vs ds → DpAll K H' vs ds
  | [], _, h => by cases h; exact .nil
  | d :: ds, _, h => by
    cases h with
    | cons h1 h2 => exact .cons (dp_ex e d _ h1) (dpa_ex e ds _ h2)
end
/-- no tuple stands at p -/
def NoT (H : Hp) (p : Addr) : Prop := ∀ xs, ¬ Rd H p (.tup xs)
theorem noT_none {p : Addr} (h : H p = none) : NoT H p := fun xs r => by
  rcases r with r | ⟨o, r⟩
  · rw [h] at r; cases r
  · rw [h] at r; cases r
theorem noT_lst {p : Addr} {ys : List V} (h : H p = some (.lst ys)) : NoT H p := fun xs r => by
  rcases r with r | ⟨o, r⟩
  · rw [h] at r; cases r
  · rw [h] at r; cases r
theorem noT_ext {p : Addr} {φ : Heap → Prop} (h : H p = some (.ext φ)) : NoT H p := fun xs r => by
  rcases r with r | ⟨o, r⟩
  · rw [h] at r; cases r
  · rw [h] at r; cases r
theorem noT_dT {p : Addr} {kvs : List (List Key × V)} (h : H p = some (.dT kvs)) : NoT H p := fun xs r => by
  rcases r with r | ⟨o, r⟩
  · rw [h] at r; cases r
  · rw [h] at r; cases r
theorem sqt_mut {p a : Addr} {o : HO} {xs : List V} (n : NoT H p) (h : SqT K H a xs) : SqT K (upd H p o) a xs := by
  rcases h with h | h
  · have hne : a ≠ p := fun z => n xs (z ▸ h)
    refine .inl ?_
    rcases h with h | ⟨u, h⟩
    · exact .inl (by rw [upd_ne hne]; exact h)
    · exact .inr ⟨u, by rw [upd_ne hne]; exact h⟩
  · exact .inr h
mutual
theorem dp_mut {p : Addr} {o : HO} (n : NoT H p) : ∀ (d : PyData) (v : V), noL d = true → Dp K H v d → Dp K (upd H p o) v d
  | .none, _, _, h => by cases h; exact .non
  | .bool b, _, _, h => by cases h; exact .bl b
  | .int i, _, _, h => by cases h; exact .int i
  | .str x, _, _, h => by cases h; exact .str x
  | .list ds, _, z, h => by rw [noL] at z; cases z
  | .tuple ds, _, z, h => by
    rw [noL] at z
    cases h with
    | tup hs ha => exact .tup (sqt_mut n hs) (dpa_mut n ds _ z ha)
  | .dict _, _, _, h => by cases h
theorem dpa_mut {p : Addr} {o : HO} (n : NoT H p) : ∀ (ds : List PyData) (vs : List V), noLs ds = true → DpAll K H vs ds → DpAll K (upd H p o) vs ds
  | [], _, _, h => by cases h; exact .nil
  | d :: ds, _, z, h => by
    rw [noLs, Bool.and_eq_true] at z
    cases h with
    | cons h1 h2 => exact .cons (dp_mut n d _ z.1 h1) (dpa_mut n ds _ z.2 h2)
end
theorem dp_int {v : V} {i : Int} (h : Dp K H v (.int i)) : v = .int i := by cases h; rfl
theorem dp_tup {v : V} {ds : List PyData} (h : Dp K H v (.tuple ds)) : ∃ a xs, v = .ref a ∧ SqT K H a xs ∧ DpAll K H xs ds := by
  cases h with
  | tup hs ha => exact ⟨_, _, rfl, hs, ha⟩
theorem dpa_append : ∀ {as : List V} {ds : List PyData} {bs : List V} {es : List PyData}, DpAll K H as ds → DpAll K H bs es → DpAll K H (as ++ bs) (ds ++ es)
  | [], _, _, _, h, k => by cases h; exact k
  | _ :: _, _, _, _, h, k => by
    cases h with
    | cons h1 h2 => exact .cons h1 (dpa_append h2 k)
theorem dpa_len : ∀ {as : List V} {ds : List PyData}, DpAll K H as ds → as.length = ds.length
  | [], _, h => by cases h; rfl
  | _ :: _, _, h => by
    cases h with
    | cons h1 h2 => rw [List.length_cons, List.length_cons, dpa_len h2]
theorem dpa_get : ∀ {as : List V} {ds : List PyData} {i : Nat} {v : V}, DpAll K H as ds → as[i]? = some v → ∃ d, ds[i]? = some d ∧ Dp K H v d
  | [], _, _, _, h, e => by simp at e
  | _ :: _, _, 0, _, h, e => by
    cases h with
    | cons h1 h2 => simp at e; subst e; exact ⟨_, rfl, h1⟩
  | _ :: _, _, i + 1, _, h, e => by
    cases h with
    | cons h1 h2 =>
      obtain ⟨d, k1, k2⟩ := dpa_get (i := i) h2 (by simpa using e)
      exact ⟨d, by simpa using k1, k2⟩
theorem dpa_ints : ∀ {as : List V} {ns : List Int}, DpAll K H as (ns.map PyData.int) → as = ns.map V.int
  | [], [], h => rfl
  | [], _ :: _, h => by cases h
  | _ :: _, [], h => by cases h
  | _ :: _, _ :: _, h => by
    cases h with
    | cons h1 h2 => rw [dp_int h1, dpa_ints h2]; rfl
theorem dpa_ints_of : ∀ (ns : List Int), DpAll K H (ns.map V.int) (ns.map PyData.int)
  | [] => .nil
  | n :: ns => .cons (.int n) (dpa_ints_of ns)
theorem dp_itup {v : V} {ns : List Int} (h : Dp K H v (.tuple (ns.map PyData.int))) : ∃ a, v = .ref a ∧ SqT K H a (ns.map V.int) := by
  obtain ⟨a, xs, rfl, hs, ha⟩ := dp_tup h
  rw [dpa_ints ha] at hs
  exact ⟨a, rfl, hs⟩
theorem dp_itup_of {a : Addr} {ns : List Int} (h : SqT K H a (ns.map V.int)) : Dp K H (.ref a) (.tuple (ns.map PyData.int)) := .tup h (dpa_ints_of ns)
end
/-- what is handed back: any data; a new list -/
def RetD (K : PySem.W.Frag) (d : PyData) (H : Hp) (Q : VK) : Prop := ∀ v H2, Ex H H2 → Dp K H2 v d → Q v H2
def RetFL (K : PySem.W.Frag) (ds : List PyData) (H : Hp) (Q : VK) : Prop := ∀ p xs H2, H p = none → Ex H H2 → H2 p = some (.lst xs) → DpAll K H2 xs ds → Q (.ref p) H2

section
variable {P : Program} {w : World} {K : PySem.W.Frag} {mg : Str → Option Value} {base : Heap}
/-! lowest -/
abbrev sLowest : Stmt := topS 3
theorem scLowest : FnScope ["top", "bottom", "shared"] ["top", "bottom"] (defScope sLowest) := ⟨rfl, rfl, rfl, by decide +kernel, rfl, by decide +kernel, by decide +kernel⟩
def lowD (a b : Nat) : PyData := .tuple [di (a / Nat.gcd a b), di (b / Nat.gcd a b)]
def spLowest (K : PySem.W.Frag) : Sp := fun vs H Q _ => ∃ a b : Nat, vs = [.int a, .int b] ∧ 0 < b ∧ b < 1073741824 ∧ RetD K (lowD a b) H Q
theorem gcd_lt {a b : Nat} (h : 0 < b) (h2 : b < 1073741824) : 0 < Nat.gcd a b ∧ Nat.gcd a b < 1073741824 :=
  ⟨Nat.gcd_pos_of_pos_right _ h, Nat.lt_of_le_of_lt (Nat.gcd_le_right _ h) h2⟩
theorem ok_lowest {f : Addr} {fd : FuncData} (F : Fun K "lowest" "lowest" sLowest f fd) {fg : Addr} {fdg : FuncData} (G : Can P w K mg base "common_divisor" 1 fg fdg ["first", "second"] spGcd) :
    FnOk P w K mg base CX0 2 f fd ["top", "bottom"] (spLowest K) := by
  refine F.ok scLowest (fun vs H Q E h => ?_) (fun cdv A outer s H vs Q E hr h => ?_)
  · obtain ⟨a, b, rfl, _⟩ := h
    rfl
  obtain ⟨a, b, rfl, hb, hb2, q⟩ := h
  have hg := gcd_lt (a := a) hb hb2
  refine ⟨_, pss_cons (ps_set (i := 2) scLowest.nd rfl (.inl rfl) (pcall G hr (pa_cons (pv 0) (pa_cons (pv 1) pa_nil))))
    (pss_one (ps_ret (pe_tup (pa_cons (pe_op op_fdiv (pv 0) (pv 2)) (pa_cons (pe_op op_fdiv (pv 1) (pv 2)) pa_nil))))), ?_⟩
  refine ⟨.int a, rfl, .int b, rfl, a, b, rfl, fun H1 e1 => ?_⟩
  refine ⟨.int a, rfl, .int (Nat.gcd a b : Nat), rfl, _, _, rfl, rfl, ⟨by omega, by omega⟩, .int b, rfl, .int (Nat.gcd a b : Nat), rfl, _, _, rfl, rfl, ⟨by omega, by omega⟩, by show 2 ≤ sizeLine; decide, fun t ht => ?_⟩
  refine q _ _ (e1.trans (Ex.new ht)) (.tup (st_of upd_same) (.cons (.int _) (.cons (.int _) .nil)))

/-! common_multiple -/
abbrev sLcm : Stmt := topS 2
theorem scLcm : FnScope ["numbers", "multiple", "number"] ["numbers"] (defScope sLcm) := ⟨rfl, rfl, rfl, by decide +kernel, rfl, by decide +kernel, by decide +kernel⟩
def lcmL (l : List Nat) : Nat := l.foldl (fun m n => m * n / Nat.gcd m n) 1
theorem lcm_step (m n : Nat) : m * n / Nat.gcd m n = Nat.lcm m n := rfl
theorem lcm_pos : ∀ (l : List Nat) (m : Nat), 0 < m → (∀ x ∈ l, 0 < x) → 0 < l.foldl (fun m n => m * n / Nat.gcd m n) m
  | [], m, h, _ => h
  | x :: l, m, h, k => lcm_pos l _ (by show 0 < Nat.lcm m x; exact Nat.lcm_pos h (k x (List.mem_cons_self))) fun y hy => k y (List.mem_cons_of_mem _ hy)
/-- numbers all of whose multiples on the way stay small -/
def spLcm (K : PySem.W.Frag) : Sp := fun vs H Q _ => ∃ (a : Addr) (ns : List Nat), vs = [.ref a] ∧ SqL K H a (ns.map vi) ∧ (∀ n ∈ ns, 0 < n ∧ n < 1073741824) ∧ RetV (.int (lcmL ns : Nat)) H Q
theorem ok_lcm {f : Addr} {fd : FuncData} (F : Fun K "common_multiple" "common_multiple" sLcm f fd) {fg : Addr} {fdg : FuncData} (G : Can P w K mg base "common_divisor" 1 fg fdg ["first", "second"] spGcd) :
    FnOk P w K mg base CX0 2 f fd ["numbers"] (spLcm K) := by
  refine F.ok scLcm (fun vs H Q E h => ?_) (fun cdv A outer s H vs Q E hr h => ?_)
  · obtain ⟨a, b, rfl, _⟩ := h
    rfl
  obtain ⟨a, ns, rfl, hs, hb, q⟩ := h
  refine ⟨_, pss_cons (ps_set (i := 1) scLcm.nd rfl (.inl rfl) pe_int)
    (pss_cons (ps_for PassesOwn.never rfl (pi_list (pv 0)) (pg_name (i := 2) scLcm.nd rfl (.inl rfl))
      (pss_one (ps_set (i := 1) scLcm.nd rfl (.inl rfl) (pe_op op_fdiv (pe_op op_mul (pv 1) (pv 2)) (pcall G hr (pa_cons (pv 1) (pa_cons (pv 2) pa_nil)))))))
    (pss_one (ps_ret (pv 1)))), ?_⟩
  refine q_asg ev_c fun H1 e1 => ?_
  refine q_forLn (ev_var rfl) (ex_l e1 hs) (fun i σ' H' => Ex H H' ∧ ∃ y, σ' = [some (.ref a), some (.int ((ns.take i).foldl (fun m n => m * n / Nat.gcd m n) 1 : Nat)), y]) (fun H2 e2 => ⟨e1.trans e2, none, rfl⟩) (fun i σ' H' _ h => ex_l h.1 hs) ?_ ?_
  · rintro i x σ' H' hx ⟨e2, y, rfl⟩
    rw [List.getElem?_map] at hx
    obtain ⟨n, hn, rfl⟩ := Option.map_eq_some_iff.mp hx
    have hm := hb n (List.mem_of_getElem? hn)
    have hg := gcd_lt (a := (ns.take i).foldl (fun m n => m * n / Nat.gcd m n) 1) hm.1 hm.2
    have et : (ns.take (i + 1)).foldl (fun m n => m * n / Nat.gcd m n) 1 = (ns.take i).foldl (fun m n => m * n / Nat.gcd m n) 1 * n / Nat.gcd ((ns.take i).foldl (fun m n => m * n / Nat.gcd m n) 1) n := by
      rw [List.take_add_one, hn, List.foldl_append]; rfl
    rw [et]
    generalize (ns.take i).foldl (fun m n => m * n / Nat.gcd m n) 1 = m at hg ⊢
    refine ⟨.int m, rfl, .int n, rfl, _, _, rfl, rfl, .inr ⟨by omega, by omega⟩, .int m, rfl, .int n, rfl, m, n, rfl, fun H2 e3 => ⟨_, _, rfl, rfl, ⟨by omega, by omega⟩, e2.trans e3, some (.int n), rfl⟩⟩
  · rintro σ' H' ⟨e2, y, rfl⟩
    refine ⟨_, rfl, ?_⟩
    rw [List.length_map, List.take_length]
    exact q _ e2
end
end Nr
namespace Nr
open PySem PySem.Spec PyProof.Rows L2 Evl

/-! turns -/
def turnsF : Nat → Nat → Nat → Nat → Nat → List (Nat × Nat)
  | 0, _, _, _, _ => []
  | f + 1, M, b, l, h => if b < M then (b, l) :: turnsF f M (b + l) (l + h) h else []
def turnsM (n g h : Nat) : List (Nat × Nat) := turnsF (2 * n) (2 * n) 0 g h
abbrev td (p : Nat × Nat) : PyData := .tuple [di p.1, di p.2]
abbrev wD (g h e : Nat) : PyData := .tuple [di g, di h, di e]
theorem noL_td (p : Nat × Nat) : noL (td p) = true := by simp [noL, noLs]
theorem turnsF_done : ∀ (f M b l h : Nat), ¬ b < M → turnsF f M b l h = []
  | 0, _, _, _, _, _ => rfl
  | f + 1, M, b, l, h, z => by rw [turnsF, if_neg z]
theorem turnsF_len : ∀ (f M b l h : Nat), (turnsF f M b l h).length ≤ f
  | 0, _, _, _, _ => Nat.le_refl _
  | f + 1, M, b, l, h => by
    rw [turnsF]
    split
    · rw [List.length_cons]; have := turnsF_len f M (b + l) (l + h) h; omega
    · exact Nat.zero_le _
theorem wd_get {K : PySem.W.Frag} {H : Hp} {v : V} {g h e : Nat} (d : Dp K H v (wD g h e)) : ∃ a, v = .ref a ∧ SqT K H a [vi g, vi h, vi e] := dp_itup (ns := [(g : Int), (h : Int), (e : Int)]) d
theorem td_get {K : PySem.W.Frag} {H : Hp} {v : V} {p : Nat × Nat} (d : Dp K H v (td p)) : ∃ a, v = .ref a ∧ SqT K H a [vi p.1, vi p.2] := dp_itup (ns := [(p.1 : Int), (p.2 : Int)]) d
section
variable {P : Program} {w : World} {K : PySem.W.Frag} {mg : Str → Option Value} {base : Heap}
abbrev sTurns : Stmt := topS 6
theorem scTurns : FnScope ["many", "winding", "girth", "growth", "end", "begin", "length", "rows"] ["many", "winding"] (defScope sTurns) := ⟨rfl, rfl, rfl, by decide +kernel, rfl, by decide +kernel, by decide +kernel⟩
def spTurns (K : PySem.W.Frag) : Sp := fun vs H Q _ => ∃ (n g h e : Nat) (v : V), vs = [.int n, v] ∧ Dp K H v (wD g h e) ∧ 0 < g ∧ n ≤ 1000 ∧ RetFL K ((turnsM n g h).map td) H Q
theorem ok_turns {f : Addr} {fd : FuncData} {k : Nat} {tc : Tok} (F : Fun K "turns" "turns" sTurns f fd) (gC : mg "CELL" = some (.int 2 tc)) :
    FnOk P w K mg base CX0 (k + 1) f fd ["many", "winding"] (spTurns K) := by
  refine F.ok scTurns (fun vs H Q E h => ?_) (fun cdv A outer s H vs Q E hr h => ?_)
  · obtain ⟨n, g, h, e, v, rfl, _⟩ := h
    rfl
  obtain ⟨n, g, h, e, v, rfl, hw, hg0, hn, q⟩ := h
  obtain ⟨wa, rfl, hq⟩ := wd_get hw
  refine ⟨_, pss_cons (ps_asg (pv 1) (pg_tup rfl (pgs_cons (pg_name (i := 2) scTurns.nd rfl (.inl rfl)) (pgs_cons (pg_name (i := 3) scTurns.nd rfl (.inl rfl)) (pgs_cons (pg_name (i := 4) scTurns.nd rfl (.inl rfl)) pgs_nil)))))
    (pss_cons (ps_set (i := 5) scTurns.nd rfl (.inl rfl) pe_int)
    (pss_cons (ps_set (i := 6) scTurns.nd rfl (.inl rfl) (pv 2))
    (pss_cons (ps_set (i := 7) scTurns.nd rfl (.inl rfl) (pe_lst pa_nil))
    (pss_cons (ps_while PassesOwn.never (PW.pt (pw_and (pt_cmpR op_lt (pv 5) (pe_op op_mul (pe_glob (v := .int 2) (by rfl) gC ⟨_, rfl⟩) (pv 0)) (nomark _)) (pw_and1 (pt_cmpR op_gt (pv 6) pe_int (nomark _)))))
      (pss_cons (ps_expr (pe_bm PySem.F.plainAttrs_list PySem.F.slot_list_append PySem.F.type_list_append mt_append (pv 7) (pa_cons (pe_tup (pa_cons (pv 5) (pa_cons (pv 6) pa_nil))) pa_nil)))
      (pss_cons (ps_aug (i := 5) scTurns.nd rfl (.inl rfl) (pv 6) ip_add)
      (pss_one (ps_aug (i := 6) scTurns.nd rfl (.inl rfl) (pv 3) ip_add)))))
    (pss_one (ps_ret (pv 7))))))), ?_⟩
  refine ⟨_, rfl, wa, _, rfl, hq, rfl, vi g, _, rfl, vi h, _, rfl, vi e, _, rfl, rfl, ?_⟩
  refine ⟨_, rfl, ?_⟩
  refine ⟨Nat.zero_le _, fun p hp => ?_⟩
  refine q_while (fun m σ' H' => ∃ (b l fu : Nat) (pre : List (Nat × Nat)) (xs : List V), σ' = [some (vi n), some (.ref wa), some (vi g), some (vi h), some (vi e), some (vi b), some (vi l), some (.ref p)] ∧ 0 < l ∧
    turnsM n g h = pre ++ turnsF fu (2 * n) b l h ∧ 2 * n - b ≤ fu ∧ m = 2 * n - b ∧ Ex H H' ∧ H' p = some (.lst xs) ∧ DpAll K H' xs (pre.map td)) (2 * n)
    ⟨0, g, 2 * n, [], [], rfl, hg0, rfl, by omega, by omega, Ex.new hp, upd_same, .nil⟩ ?_
  rintro m σ' H' ⟨b, l, fu, pre, xs, rfl, hl0, ht, hfu, rfl, ex, hpx, hd⟩
  refine ⟨_, et_and (et_test (ev_op (ev_var rfl) (ev_op ev_c (ev_var rfl) (rv_I (.inl ⟨by decide, by decide⟩))) rv_I0)) (fun _ => et_test (ev_op (ev_var rfl) ev_c rv_I0)), fun hb H1 e1 => ?_, fun hb H1 e1 => ?_⟩
  · have hb1 : b < 2 * n := by
      simp at hb
      omega
    obtain ⟨fu, rfl⟩ : ∃ k, fu = k + 1 := ⟨fu - 1, by omega⟩
    rw [turnsF, if_pos hb1] at ht
    have hlen : xs.length < 100000 := by
      have l1 := dpa_len hd
      have l2 := congrArg List.length ht
      have l3 := turnsF_len (2 * n) (2 * n) 0 g h
      rw [List.length_map] at l1
      rw [List.length_append] at l2
      unfold turnsM at l2
      omega
    obtain ⟨b0, eb0⟩ : ∃ b0, b0 = b := ⟨b, rfl⟩
    rw [show 2 * n - b = 2 * n - b0 by rw [eb0]]
    refine ⟨fun σ2 H2 => ∃ (b l fu : Nat) (pre : List (Nat × Nat)) (xs : List V), σ2 = [some (vi n), some (.ref wa), some (vi g), some (vi h), some (vi e), some (vi b), some (vi l), some (.ref p)] ∧ 0 < l ∧
      turnsM n g h = pre ++ turnsF fu (2 * n) b l h ∧ 2 * n - b ≤ fu ∧ 2 * n - b < 2 * n - b0 ∧ Ex H H2 ∧ H2 p = some (.lst xs) ∧ DpAll K H2 xs (pre.map td), ?_, ?_⟩
    · rintro σ2 H2 ⟨b2, l2, fu2, pre2, xs2, h1, h2, h3, h4, h5, h6, h7, h8⟩
      exact ⟨_, h5, b2, l2, fu2, pre2, xs2, h1, h2, h3, h4, rfl, h6, h7, h8⟩
    · refine q_appU (e1 _ _ hpx) (ev_var rfl) (eu_tup (ea_cons (ev_var rfl) (ea_cons (ev_var rfl) ea_nil)) (by show 2 ≤ 100000; decide)) hlen fun t H2 ht2 e2 h2t => ?_
      refine q_aug rfl (ev_var rfl) fun H3 e3 => ?_
      refine s_aug rfl (ev_var rfl) fun H4 e4 => ?_
      refine ⟨b + l, l + h, fu, pre ++ [(b, l)], xs ++ [.ref t], rfl, by omega, ?_, by omega, by omega, ?_, (e3.trans e4) _ _ upd_same, ?_⟩
      · rw [ht, List.append_assoc]; rfl
      · exact (Ex.mut ((ex.trans e1).trans e2) hp).trans (e3.trans e4)
      · rw [List.map_append]
        refine dpa_ex (e3.trans e4) _ _ (dpa_mut (noT_lst (e2 _ _ (e1 _ _ hpx))) _ _ ?_ (dpa_append (dpa_ex (e1.trans e2) _ _ hd) (.cons (.tup (st_of h2t) (.cons (.int _) (.cons (.int _) .nil))) .nil)))
        rw [noLs_append, noLs_map noL_td]
        simp [noLs, noL]
  · have hb1 : ¬ b < 2 * n := by
      simp at hb
      omega
    rw [turnsF_done _ _ _ _ _ hb1, List.append_nil] at ht
    rw [← ht] at hd
    exact ⟨_, rfl, q p xs H1 hp (ex.trans e1) (e1 _ _ hpx) (dpa_ex e1 _ _ hd)⟩

/-! cell_at -/
abbrev sCellAt : Stmt := topS 7
theorem scCellAt : FnScope ["many", "winding", "place"] ["many", "winding", "place"] (defScope sCellAt) := ⟨rfl, rfl, rfl, by decide +kernel, rfl, by decide +kernel, by decide +kernel⟩
def cellI (n e : Nat) (p : Int) : Int := if e = 1 then (n : Int) - 1 - p else p
def spCellAt (K : PySem.W.Frag) : Sp := fun vs H Q _ => ∃ (n g h e : Nat) (p : Int) (v : V), vs = [.int n, v, .int p] ∧ Dp K H v (wD g h e) ∧ RetV (.int (cellI n e p)) H Q
theorem ok_cellAt {f : Addr} {fd : FuncData} {k : Nat} (F : Fun K "cell_at" "cell_at" sCellAt f fd) : FnOk P w K mg base CX0 (k + 1) f fd ["many", "winding", "place"] (spCellAt K) := by
  refine F.ok scCellAt (fun vs H Q E h => ?_) (fun cdv A outer s H vs Q E hr h => ?_)
  · obtain ⟨n, g, h, e, p, v, rfl, _⟩ := h
    rfl
  obtain ⟨n, g, h, e, p, v, rfl, hw, q⟩ := h
  obtain ⟨wa, rfl, hq⟩ := wd_get hw
  refine ⟨_, pss_one (ps_ret (pe_ifExp (pt_cmpR op_eq (pe_ix ix_tup (pv 1) pe_int (fun _ _ => rfl)) pe_int (nomark _)) (pe_op op_sub (pe_op op_sub (pv 0) pe_int) (pv 2)) (pv 2))), ?_⟩
  refine s_ret (v := .int (cellI n e p)) (ev_if (et_test (ev_op (ev_op (ev_var rfl) ev_c (rv_ixT hq (atI_nat (j := 2) rfl))) ev_c (rv_eq rfl))) (fun hb => ?_) (fun hb => ?_)) (fun H1 e1 => q H1 e1)
  · refine ev_is (ev_op (ev_op (ev_var rfl) ev_c rv_I0) (ev_var rfl) rv_I0) ?_
    simp at hb
    unfold cellI
    rw [if_pos (by omega)]
  · refine ev_is (ev_var rfl) ?_
    simp at hb
    unfold cellI
    rw [if_neg (by omega)]
end
end Nr
namespace Nr
open PySem PySem.Spec PyProof.Rows L2 Evl

/-- a def's rule that hands its body what is known of its code object -/
theorem fun_okC {P : Program} {w : World} {K : PySem.W.Frag} {mg : Str → Option Value} {base : Heap} {x qual : Str} {st : Stmt} {f : Addr} {fd : FuncData} {N ps : List Str} {k : Nat} {sp : Sp}
    (F : Fun K x qual st f fd) (S : FnScope N ps (defScope st)) (len : ∀ vs H Q E, sp vs H Q E → vs.length = ps.length)
    (body : ∀ (cdv : Value) (A : Around) (outer : List Env) (s : Shared) (H : Hp) (vs : List V) (Q : VK) (E : XK), PySem.W.kdsCode K cdv = true →
      Room k (A.deeper (envOfC qual (defScope st) s.heap.objs.size f cdv)) → sp vs H Q E →
      ∃ t, PSs (cxOf CX0 P w K mg base N qual (defScope st) f cdv A outer s H E).nox (defBody st) t ∧ t { nx := fun _ H' => Q .non H', rt := Q } (start N vs) H) :
    FnOk P w K mg base CX0 (k + 1) f fd ps sp := by
  obtain ⟨oc, od, kV, doc, pm, an, cdv, ct, osl, rfl, lk, hcd⟩ := F.ex
  have hk : PySem.W.kdsCode K cdv = true := by
    unfold PySem.W.codeIn at hcd
    unfold PySem.W.kdsCode
    split at hcd
    · split at hcd
      · next e =>
        show (match List.lookup _ K with
          | some ⟨_, _, .fields _, _⟩ => true
          | _ => false) = true
        rw [e]
      · cases hcd
    · cases hcd
  refine fn_of lk hcd S len fun A outer s H vs Q E hr hsp => ?_
  obtain ⟨t, h, q⟩ := body cdv A outer s H vs Q E hk hr hsp
  exact ⟨t, h.nox, q⟩

section
variable {X : Cx} {pins : List (Addr × Obj)} {σ : L2.St} {H : Hp} {s : Shared}
/-- the set at D gets one int more -/
theorem setAdd_int {E : Value → Shared → Prop} {D : Addr} {S : Int → Bool} {n : Nat} {k : Int} {tk : Tok} {Q : Bool → Shared → Prop} (I : Inv X pins σ H s) (hD : H D = some (SetO X.w D S n)) (room : n + 1 < scanBound)
    (h : ∀ b s', Inv X pins σ (upd H D (SetO X.w D (fun j => S j || decide (j = k)) (if S k = true then n else n + 1))) s' → Q b s') :
    wpAny (model X.prog X.w) X.A (setAdd D (.int k tk)) Q E s := by
  have R := setO_get I hD
  unfold setAdd
  refine wpAny_holding (wpAny_bind ((intKind X.prog X.w).pyHash (intKind_is _ _ _ _) ?_))
  refine setR_add_hashed (s := { s with toks := s.toks + 1 }) R room fun h' sb new => h _ _ ?_
  have he : ∃ u, h'.get? D = some u := by
    obtain ⟨o, _, _, _, ho, _⟩ := id new
    exact ⟨o, ho⟩
  exact I.write (e := D) (t' := s.toks + 1) (by rw [hD]; trivial) (.inl rfl) (fun b u hb hu => (sb.2 b hb).trans hu) he (setO_new new)
theorem setCall_int {E : Value → Shared → Prop} {D : Addr} {S : Int → Bool} {n : Nat} {k : Int} {tk : Tok} {Q : Value → Shared → Prop} (I : Inv X pins σ H s) (hD : H D = some (SetO X.w D S n)) (room : n + 1 < scanBound)
    (h : ∀ s', Inv X pins σ (upd H D (SetO X.w D (fun j => S j || decide (j = k)) (if S k = true then n else n + 1))) s' → Q .none s') :
    wpAny (model X.prog X.w) X.A (call (.builtin "set.add") [.ref D, .int k tk]) Q E s := by
  have R := setO_get I hD
  refine setR_add R room fun h' sb new => h _ ?_
  have he : ∃ u, h'.get? D = some u := by
    obtain ⟨o, _, _, _, ho, _⟩ := id new
    exact ⟨o, ho⟩
  exact I.write (e := D) (t' := s.toks + 1) (by rw [hD]; trivial) (.inl rfl) (fun b u hb hu => (sb.2 b hb).trans hu) he (setO_new new)
end

section
variable {X : Cx}
/-- {e}, e an int -/
def tSet1 (w : World) (te : TE) : TE := fun σ H Q => ∀ p, H p = none → te σ (upd H p (SetO w p (fun _ => false) 0)) fun y H1 => ∃ k : Int, y = .int k ∧ H1 p = some (SetO w p (fun _ => false) 0) ∧ Q (.ref p) (upd H1 p (SetO w p (fun j => decide (j = k)) 1))
theorem pe_set1 {e : Expr} {pos : Pos} {te : TE} (he : PE X e te) (hcd : PySem.W.kdsCode X.K X.env.code = true) (hs : starEach [e] X.env = [(false, eval e X.env)] := by rfl) : PE X (.Set [e] 0 pos) (tSet1 X.w te) := by
  refine ⟨fun pins s σ H Q I h => ?_⟩
  rw [arm_eval_Set, hs]
  refine wpAny_bind (wpAny_standAt (wpAny_bind (PySem.W.kds_main I.kIn hcd fun b => ?_)))
  unfold setDisplay
  have er : (displayRoad 0 [e] == DisplayRoad.constants) = false := rfl
  have eu : (displayRoad 0 [e] == DisplayRoad.unsure) = false := rfl
  rw [er, eu]
  dsimp only [Bool.false_eq_true, if_false, List.map_cons, List.map_nil, List.length_cons, List.length_nil]
  refine wpAny_bind (PpSet.newSet_ok ?_)
  have hp : H s.heap.objs.size = none := I.hok.fresh (Nat.le_refl _)
  have I1 : Inv X pins σ (upd H s.heap.objs.size (SetO X.w s.heap.objs.size (fun _ => false) 0)) { s with heap := s.heap.push { cls := .type "set", dict := none, data := .set #[] 0 (.fresh 0 0 (!X.w.params.followText "set-order")) } } :=
    I.laid (t' := s.toks) (fun b u e => Heap.get?_push_of_some _ e) (Nat.le_refl _) (setO_new (setR_fresh X.w))
  have h1 := h _ hp
  generalize s.heap.objs.size = D at hp I1 h1 ⊢
  dsimp only
  refine wpAny_bind (wpAny_holding ?_)
  change wpAny _ _ (evalAll [do let v ← eval e X.env; standAt pos; pure v] >>= _) _ _ _
  unfold evalAll
  refine wpAny_bind (wpAny_bind (wpAny_bind (thn (he.run pins _ σ _ _ I1 h1) fun v s2 ⟨y, H2, I2, r2, k, ey, hD, q⟩ => ?_)))
  subst ey
  obtain ⟨tk, rfl⟩ := r2
  refine wpAny_bind (wpAny_standAt (wpAny_pure ?_))
  refine wpAny_bind (wpAny_holding (wpAny_pure (wpAny_pure ?_)))
  refine wpAny_bind (wpAny_holding ?_)
  rw [List.forIn_cons]
  refine wpAny_bind (wpAny_bind (wpAny_bind (setAdd_int I2 hD (by decide) fun b' s3 I3 => ?_)))
  refine wpAny_pure ?_
  refine wpAny_pure ?_
  show wpAny _ _ (if false = true then _ else pure ()) _ _ _
  rw [if_neg Bool.false_ne_true]
  refine wpAny_pure (wpAny_bind ?_)
  show wpAny _ _ (forIn [] PUnit.unit _) _ _ _
  rw [List.forIn_nil]
  refine wpAny_pure (wpAny_pure (wpAny_pure ⟨.ref D, _, I3, rfl, ?_⟩))
  have e1 : (fun j : Int => false || decide (j = k)) = fun j => decide (j = k) := funext fun j => Bool.false_or _
  rw [e1, if_neg Bool.false_ne_true]
  exact q

/-- {elt for target in iter if ..}, elt an int: D the new set -/
def tScI (w : World) (wi : TI) (g : TG) (tt : TT) (te : TE) (vs : List Nat) : TE := fun σ H Q => wi σ H fun J H1 => ∀ D, H1 D = none →
  ∃ W : Nat → Nat → Hp → Prop, (∃ m, W 0 m (upd H1 D (SetO w D (fun _ => false) 0))) ∧ ∀ i m H, W i m H →
    (J.stop i H ∧ Q (.ref D) H) ∨
    (J.go i H ∧ ∃ Nx : Hp → Prop, (∀ H', Nx H' → ∃ m', m' < m ∧ W (i + 1) m' H') ∧
      ∀ x H', J.yld i H x H' → g x (wipe σ vs) H' fun σ2 H2 => wipe σ2 vs = wipe σ vs ∧ tt σ2 H2 fun b H3 =>
        if b = true then te σ2 H3 fun y H4 => ∃ (c : Int) (S : Int → Bool) (n : Nat), y = .int c ∧ H4 D = some (SetO w D S n) ∧ n + 1 < scanBound ∧
          Nx (upd H4 D (SetO w D (fun j => S j || decide (j = c)) (if S c = true then n else n + 1)))
        else Nx H3)
theorem pe_scI {elt tg iter : Expr} {ifs : List Expr} {scope : Scope} {own : List (PySem.Str × Nat)} {pos : Pos} {wi : TI} {g : TG} {tt : TT} {te : TE}
    (hc : X.calm = true) (hN : X.N.Nodup) (hi : PI X tg iter wi) (ok : BlkOk X.N X.env.scope scope own)
    (hg : ∀ (s : Shared) (H : Hp) (C : Addr) (cl : List (PySem.Str × Addr)) (fp : List Addr), PG (X.blk s H scope (compEnvC scope cl C X.env) fp) tg g)
    (ht : ∀ (s : Shared) (H : Hp) (C : Addr) (cl : List (PySem.Str × Addr)) (fp : List Addr), PTs (X.blk s H scope (compEnvC scope cl C X.env) fp) ifs tt)
    (he : ∀ (s : Shared) (H : Hp) (C : Addr) (cl : List (PySem.Str × Addr)) (fp : List Addr), PE (X.blk s H scope (compEnvC scope cl C X.env) fp) elt te)
    (hs : ∀ x, foldedSetIterable iter X.env x = pure x := by intro _; rfl) :
    PE X (.SetComp elt [⟨tg, iter, ifs, 0⟩] scope pos) (tScI X.w wi g tt te (own.map (·.2))) := by
  refine ⟨fun pins s σ H Q I h => ?_⟩
  rw [PpSet.eval_SetComp]
  have cells : ∀ y ∈ scope.names, y.2 = .free → ∃ c, X.env.cells.lookup y.1 = some c := fun y hy e =>
    (ok.free y hy e).elim (fun k => I.ok.has _ (.inl k)) (fun k => I.ok.has _ (.inr k))
  refine wpAny_comprehension_free rfl hs (closure_ok cells) ok.kind (fun y hy e => by rw [ok.uniq y hy, e])
    (thn (hi.run pins s σ H _ I h) fun xv sA hA => thn hA fun itv sB hB => ?_)
  obtain ⟨it, fp, tn, J, HB, rfl, IB, T, stB, fB, q⟩ := hB
  refine PpSet.newSet_ok (newEnv_comp ?_)
  have freeB : HB sB.heap.objs.size = none := IB.hok.fresh (Nat.le_refl _)
  have IC := IB.laid (t' := sB.toks) (a := sB.heap.objs.size) (fun b o e => Heap.get?_push_of_some _ e) (Nat.le_refl _) (setO_new (setR_fresh (h := sB.heap) X.w))
  have fpLt : ∀ b ∈ fp, b < sB.heap.objs.size := fun b hb => by
    obtain ⟨o, e, _⟩ := T.obj _ _ stB b hb
    exact Heap.lt_size e
  obtain ⟨W, ⟨m0, w0⟩, turn⟩ := q _ freeB
  generalize eD : sB.heap.objs.size = D at freeB IC fpLt w0 turn ⊢
  generalize eC : ({ sB with heap := sB.heap.push { cls := .type "set", dict := none, data := .set #[] 0 (.fresh 0 0 (!X.w.params.followText "set-order")) } } : Shared) = sC
  have heC : sC.heap = sB.heap.push { cls := .type "set", dict := none, data := .set #[] 0 (.fresh 0 0 (!X.w.params.followText "set-order")) } := by rw [← eC]
  have IC : Inv X pins σ (upd HB D (SetO X.w D (fun _ => false) 0)) sC := by rw [← eC]; exact IC
  generalize eH : upd HB D (SetO X.w D (fun _ => false) 0) = HC at IC w0
  have fC : ∀ b ∈ fp, FpOk X pins HC b ∧ b < sC.heap.objs.size := fun b hb => by
    have lt := fpLt b hb
    have ne : b ≠ D := Nat.ne_of_lt lt
    refine ⟨⟨?_, (fB b hb).2⟩, ?_⟩
    · rw [← eH, upd_ne ne]; exact (fB b hb).1
    · rw [heC, Heap.size_push]; exact Nat.lt_succ_of_lt (eD ▸ lt)
  have stC : tn 0 sC.heap := T.keep _ _ _ stB fun b _ o e => by rw [heC]; exact Heap.get?_push_of_some _ e
  have IE := block_start IC ok hN fC
  generalize eCl : cellsFrom (sC.heap.objs.size + 1) scope.names (cloFrom X.env.cells scope.names []) = cl at IE
  have pg := hg sC HC sC.heap.objs.size cl fp
  have pt := ht sC HC sC.heap.objs.size cl fp
  have pe := he sC HC sC.heap.objs.size cl fp
  change codeAny _ _ (.compStart (.SetComp elt [⟨tg, iter, ifs, 0⟩] scope pos) 0 (.ref it) (.ref D) (compEnvC scope cl sC.heap.objs.size X.env)) (compPost (model X.prog X.w) X.A X.xe none (EP X pins σ Q) (.ref D) sC.heap.objs.size) _
  have hfp0 : ∀ b ∈ fp, HC b = none := fun b hb => (fC b hb).1.1
  have stE : tn 0 (pushCells (sC.heap.push { cls := .type "dict", data := .dict #[] }) scope.names) := T.keep _ _ _ stC fun b _ o e => pushCells_keeps _ _ _ _ (Heap.get?_push_of_some _ e)
  have eL : (compEnvC scope cl sC.heap.objs.size X.env).locals = sC.heap.objs.size := rfl
  generalize compEnvC scope cl sC.heap.objs.size X.env = ce at IE pg pt pe eL ⊢
  have stE : tn 0 ({ sC with heap := pushCells (sC.heap.push { cls := .type "dict", data := .dict #[] }) scope.names } : Shared).heap := stE
  generalize ({ sC with heap := pushCells (sC.heap.push { cls := .type "dict", data := .dict #[] }) scope.names } : Shared) = sE at IE stE ⊢
  -- what the walk leans on stays untouched by the block
  have foot : ∀ {ρ : L2.St} {G : Hp} {z : Shared}, Inv (X.blk sC HC scope ce fp) [] ρ G z → (∀ b ∈ fp, G b = none) → ∀ b ∈ fp, FpOk (X.blk sC HC scope ce fp) [] G b :=
    fun {ρ G z} J hn b hb => ⟨hn b hb, (J.ok.exf b hb).1, J.ok.exfs b hb, .inl hb, fun x c e => (J.ok.exf b hb).2 x c e, fun r hr => by cases hr⟩
  have loop : codeAny (model X.prog X.w) X.A (.compLoop (.SetComp elt [⟨tg, iter, ifs, 0⟩] scope pos) 0 (.ref it) (.ref D) ce) (compPost (model X.prog X.w) X.A X.xe none (EP X pins σ Q) (.ref D) sC.heap.objs.size) sE := by
    refine PpSet.compLoopS_any (fun left z => ∃ at_ G, Inv (X.blk sC HC scope ce fp) [] (wipe σ (own.map (·.2))) G z ∧ tn at_ z.heap ∧ (∀ b ∈ fp, G b = none) ∧ W at_ left G) ?_ m0 ⟨0, HC, IE, stE, hfp0, w0⟩
    rintro left z ⟨at_, G, IG, stG, nG, wG⟩
    rcases turn at_ left G wG with ⟨stop, fin⟩ | ⟨go, Nx, hNx, step⟩
    · -- the walk is at its end: back to the def
      refine thnF (T.done (X.blk sC HC scope ce fp) rfl rfl rfl hc at_ [] z _ G (fun _ _ => False) IG (foot IG nG) stG stop) fun r z1 ⟨hr, I1⟩ => ?_
      subst hr
      have IX : Inv X pins σ G z1 := IC.call' (ch := fp) I1.os I1.base I1.hok I1.bare fun b hb => ⟨(fC b hb).1.2.2.2.1, (fC b hb).1.2.1, (fC b hb).1.2.2.2.2.1, (fC b hb).1.2.2.2.2.2⟩
      have nC : G sC.heap.objs.size = none := eL ▸ I1.free
      obtain ⟨mm, hm, _⟩ := I1.loc
      have hm : z1.heap.Ns ce.locals mm := hm
      rw [eL] at hm
      obtain ⟨f0, f1, f2, f3, f4, f5⟩ := IC.fpOk (Nat.le_refl sC.heap.objs.size) nC
      exact ⟨mm, hm, fun h2 sb => ⟨.ref D, G, IX.turned (t' := z1.toks) (fun b o hb e => (sb.2 b hb).trans e) f0 f1 f3 f4 f5, rfl, fin⟩⟩
    · refine thnF (T.item (X.blk sC HC scope ce fp) rfl rfl rfl hc at_ [] z _ G (fun _ _ => False) IG (foot IG nG) stG go) fun r z1 ⟨u, hr, k1⟩ => ?_
      subst hr
      refine thnF k1 fun _ z2 ⟨x, G2, I2, r2, y2, st2, n2⟩ => ?_
      refine thnF (pg.run _ z2 _ G2 x u _ (I2.pinned (foot I2 n2) (T.obj _ _ st2)) r2 (step x G2 y2)) fun _ z3 ⟨σ3, G3, I3, hw3, k3⟩ => ?_
      refine thnF (pt.run _ z3 σ3 G3 _ I3 k3) fun b z4 ⟨G4, I4, k4⟩ => ?_
      have again_ : ∀ {z' : Shared} {G' : Hp}, Inv (X.blk sC HC scope ce fp) ([] ++ pinsAt fp z2.heap) σ3 G' z' → Nx G' →
          ∃ m, m < left ∧ ∃ at_ G, Inv (X.blk sC HC scope ce fp) [] (wipe σ (own.map (·.2))) G z' ∧ tn at_ z'.heap ∧ (∀ b ∈ fp, G b = none) ∧ W at_ m G := fun {z' G'} J nx => by
        obtain ⟨m', lt, w'⟩ := hNx G' nx
        have held : ∀ b ∈ fp, ∀ o, z2.heap.get? b = some o → z'.heap.get? b = some o ∧ G' b = none := fun b hb o e => by
          have q' := J.pin (b, o) (List.mem_append_right _ (List.mem_append_right _ (mem_pinsAt hb e)))
          exact ⟨q'.1, q'.2.1⟩
        refine ⟨m', lt, at_ + 1, G', (J.unpinned (pins := [])).weak (by rw [← hw3, wipe_length]) fun j v e => ?_, T.keep _ _ _ st2 fun b hb o e => (held b hb o e).1, fun b hb => ?_, w'⟩
        · rw [← hw3] at e
          exact (wipe_some e).1
        · obtain ⟨o, e, _⟩ := T.obj _ _ st2 b hb
          exact (held b hb o e).2
      cases b with
      | false =>
        rw [if_neg Bool.false_ne_true] at k4 ⊢
        exact again_ I4 k4
      | true =>
        rw [if_pos rfl] at k4 ⊢
        refine thnF (pe.run _ z4 σ3 G4 _ I4 k4) fun v z5 ⟨y, G5, I5, r5, c, S, n, ey, hD5, hz5, nx⟩ => ?_
        subst ey
        obtain ⟨tk, rfl⟩ := r5
        exact setCall_int (X := X.blk sC HC scope ce fp) I5 hD5 hz5 fun z6 I6 => again_ I6 nx
  exact PpSet.codeAny_compStart_set loop (T.self X.A 0 _ _ _ stE loop)
/-- over a list that the block leaves as it is -/
theorem sc_list {w : World} {K : PySem.W.Frag} {a : Addr} {xs : List V} {g : TG} {tt : TT} {te : TE} {vs : List Nat} {σ : L2.St} {H1 : Hp} {D : Addr} {Qd : Hp → Prop} (Pv : Nat → Hp → Prop) (h0 : Pv 0 (upd H1 D (SetO w D (fun _ => false) 0))) (hl : ∀ i H, i ≤ xs.length → Pv i H → SqL K H a xs)
    (hs : ∀ i x H, xs[i]? = some x → Pv i H → g x (wipe σ vs) H fun σ2 H2 => wipe σ2 vs = wipe σ vs ∧ tt σ2 H2 fun b H3 =>
        if b = true then te σ2 H3 fun y H4 => ∃ (c : Int) (S : Int → Bool) (n : Nat), y = .int c ∧ H4 D = some (SetO w D S n) ∧ n + 1 < scanBound ∧
          Pv (i + 1) (upd H4 D (SetO w D (fun j => S j || decide (j = c)) (if S c = true then n else n + 1)))
        else Pv (i + 1) H3) (hd : ∀ H, Pv xs.length H → Qd H) :
    ∃ W : Nat → Nat → Hp → Prop, (∃ m, W 0 m (upd H1 D (SetO w D (fun _ => false) 0))) ∧ ∀ i m H, W i m H →
    ((Itl K a).stop i H ∧ Qd H) ∨
    ((Itl K a).go i H ∧ ∃ Nx : Hp → Prop, (∀ H', Nx H' → ∃ m', m' < m ∧ W (i + 1) m' H') ∧
      ∀ x H', (Itl K a).yld i H x H' → g x (wipe σ vs) H' fun σ2 H2 => wipe σ2 vs = wipe σ vs ∧ tt σ2 H2 fun b H3 =>
        if b = true then te σ2 H3 fun y H4 => ∃ (c : Int) (S : Int → Bool) (n : Nat), y = .int c ∧ H4 D = some (SetO w D S n) ∧ n + 1 < scanBound ∧
          Nx (upd H4 D (SetO w D (fun j => S j || decide (j = c)) (if S c = true then n else n + 1)))
        else Nx H3) := by
  refine ⟨fun i m H => m + i = xs.length ∧ Pv i H, ⟨xs.length, rfl, h0⟩, fun i m H hW => ?_⟩
  obtain ⟨em, p⟩ := hW
  have q := hl i H (by omega) p
  by_cases lt : i < xs.length
  · refine .inr ⟨⟨xs, xs[i], q, List.getElem?_eq_getElem lt⟩, Pv (i + 1), fun H' p' => ⟨m - 1, by omega, by omega, p'⟩, fun x H' hy => ?_⟩
    obtain ⟨rfl, hy⟩ := hy
    exact hs i x _ (hy xs q) p
  · have ei : i = xs.length := by omega
    subst ei
    exact .inl ⟨⟨xs, q, Nat.le_refl _⟩, hd H p⟩
end
end Nr
namespace Nr
open PySem PySem.Spec PyProof.Rows L2 Evl

theorem turnsF_mem : ∀ (f M b l h : Nat) (q : Nat × Nat), q ∈ turnsF f M b l h → b ≤ q.1 ∧ q.1 < M ∧ l ≤ q.2 ∧ q.2 ≤ l + f * h
  | 0, _, _, _, _, q, z => by rw [turnsF] at z; cases z
  | f + 1, M, b, l, h, q, z => by
    rw [turnsF] at z
    split at z
    · rcases List.mem_cons.mp z with rfl | z
      · refine ⟨Nat.le_refl _, by assumption, Nat.le_refl _, Nat.le_add_right _ _⟩
      · have k := turnsF_mem f M (b + l) (l + h) h q z
        refine ⟨by omega, k.2.1, by omega, ?_⟩
        have : (f + 1) * h = f * h + h := by rw [Nat.add_mul, Nat.one_mul]
        omega
    · cases z
def placeN (t b : Nat) (q : Nat × Nat) : Nat := (q.1 * b + q.2 * t) / (2 * b)
def placesM (n g h t b : Nat) : List Nat := (turnsM n g h).map (placeN t b)
/-- the cells that a needle at t by b pricks -/
def pricksM (n g h e t b : Nat) : List Nat :=
  if e = 1 then (((placesM n g h t b).filter (fun p => decide (p < n))).map (fun p => n - 1 - p)).reverse else (placesM n g h t b).filter (fun p => decide (p < n))
theorem places_up (t b : Nat) (hb : 0 < b) (h M : Nat) : ∀ (f bg l : Nat), 2 ≤ l → ((turnsF f M bg l h).map (placeN t b)).Pairwise (· < ·) ∧ ∀ p ∈ (turnsF f M bg l h).map (placeN t b), (bg * b + l * t) / (2 * b) ≤ p
  | 0, bg, l, _ => by rw [turnsF]; exact ⟨.nil, fun p hp => by cases hp⟩
  | f + 1, bg, l, hl => by
    rw [turnsF]
    split
    · have ih := places_up t b hb h M f (bg + l) (l + h) (by omega)
      have st : (bg * b + l * t) / (2 * b) + 1 ≤ ((bg + l) * b + (l + h) * t) / (2 * b) := by
        rw [← Nat.add_div_right _ (by omega : 0 < 2 * b)]
        refine Nat.div_le_div_right ?_
        have h1 : 2 * b ≤ l * b := Nat.mul_le_mul_right b hl
        have h2 : (bg + l) * b = bg * b + l * b := Nat.add_mul _ _ _
        have h3 : (l + h) * t = l * t + h * t := Nat.add_mul _ _ _
        omega
      rw [List.map_cons]
      refine ⟨List.pairwise_cons.mpr ⟨fun p hp => ?_, ih.1⟩, fun p hp => ?_⟩
      · have := ih.2 p hp
        show (bg * b + l * t) / (2 * b) < p
        omega
      · rcases List.mem_cons.mp hp with rfl | hp
        · exact Nat.le_refl _
        · have := ih.2 p hp
          omega
    · exact ⟨.nil, fun p hp => by cases hp⟩
theorem places_sorted {n g h t b : Nat} (hb : 0 < b) (hg : 2 ≤ g) : (placesM n g h t b).Pairwise (· < ·) := (places_up t b hb h (2 * n) (2 * n) 0 g hg).1
theorem pricks_sorted {n g h e t b : Nat} (hb : 0 < b) (hg : 2 ≤ g) : (pricksM n g h e t b).Pairwise (· < ·) := by
  have k := (places_sorted (n := n) (h := h) (t := t) hb hg).filter (p := fun p => decide (p < n))
  unfold pricksM
  split
  · rw [List.pairwise_reverse, List.pairwise_map]
    refine List.Pairwise.imp_of_mem (fun {x y} hx hy lt => ?_) k
    have h1 := of_decide_eq_true (List.mem_filter.mp hx).2
    have h2 := of_decide_eq_true (List.mem_filter.mp hy).2
    omega
  · exact k
theorem pricks_mem {n g h e t b : Nat} (k : Nat) : k ∈ pricksM n g h e t b ↔ ∃ p ∈ placesM n g h t b, p < n ∧ k = (if e = 1 then n - 1 - p else p) := by
  unfold pricksM
  split
  · rw [List.mem_reverse, List.mem_map]
    constructor
    · rintro ⟨p, hp, rfl⟩
      have := List.mem_filter.mp hp
      exact ⟨p, this.1, of_decide_eq_true this.2, rfl⟩
    · rintro ⟨p, hp, lt, rfl⟩
      exact ⟨p, List.mem_filter.mpr ⟨hp, decide_eq_true lt⟩, rfl⟩
  · rw [List.mem_filter]
    constructor
    · rintro ⟨hp, lt⟩
      exact ⟨k, hp, of_decide_eq_true lt, rfl⟩
    · rintro ⟨p, hp, lt, rfl⟩
      exact ⟨hp, decide_eq_true lt⟩
/-- two rising lists with the same members are one -/
theorem rising_eq : ∀ {a b : List Int}, a.Pairwise (· < ·) → b.Pairwise (· < ·) → (∀ k, k ∈ a ↔ k ∈ b) → a = b
  | [], [], _, _, _ => rfl
  | [], y :: b, _, _, h => absurd ((h y).2 List.mem_cons_self) (by simp)
  | x :: a, [], _, _, h => absurd ((h x).1 List.mem_cons_self) (by simp)
  | x :: a, y :: b, ha, hb, h => by
    have pa := List.pairwise_cons.mp ha
    have pb := List.pairwise_cons.mp hb
    have e : x = y := by
      rcases List.mem_cons.mp ((h x).1 List.mem_cons_self) with z | z
      · exact z
      · rcases List.mem_cons.mp ((h y).2 List.mem_cons_self) with z' | z'
        · exact z'.symm
        · have h1 := pb.1 _ z
          have h2 := pa.1 _ z'
          omega
    subst e
    rw [rising_eq pa.2 pb.2 fun k => ?_]
    constructor
    · intro hk
      rcases List.mem_cons.mp ((h k).1 (List.mem_cons_of_mem _ hk)) with z | z
      · have := pa.1 _ hk; omega
      · exact z
    · intro hk
      rcases List.mem_cons.mp ((h k).2 (List.mem_cons_of_mem _ hk)) with z | z
      · have := pb.1 _ hk; omega
      · exact z
theorem ints_of_rising {ns : List Int} {ks : List Nat} (h1 : ns.Pairwise (· < ·)) (h2 : ks.Pairwise (· < ·)) (h : ∀ i : Int, i ∈ ns ↔ ∃ k ∈ ks, i = (k : Int)) : ns = ks.map (fun k : Nat => (k : Int)) := by
  refine rising_eq h1 (List.pairwise_map.mpr (h2.imp fun {a b} lt => by omega)) fun k => ?_
  rw [h k, List.mem_map]
  constructor
  · rintro ⟨a, b, rfl⟩; exact ⟨a, b, rfl⟩
  · rintro ⟨a, b, rfl⟩; exact ⟨a, b, rfl⟩

section
variable {P : Program} {w : World} {K : PySem.W.Frag} {mg : Str → Option Value} {base : Heap}
abbrev sPricked : Stmt := topS 8
abbrev nPricked : List Str := ["many", "winding", "angle", "top", "bottom", "places", "begin", "length", "place"]
theorem scPricked : FnScope nPricked ["many", "winding", "angle"] (defScope sPricked) := ⟨rfl, rfl, rfl, by decide +kernel, rfl, by decide +kernel, by decide +kernel⟩
def spPricked (K : PySem.W.Frag) : Sp := fun vs H Q _ => ∃ (n g h e t b : Nat) (v u : V), vs = [.int n, v, u] ∧ Dp K H v (wD g h e) ∧ Dp K H u (td (t, b)) ∧ 2 ≤ g ∧ g ≤ 1000 ∧ h ≤ 1000 ∧ n ≤ 31 ∧ 0 < b ∧ b < 2 ^ 200 ∧
  RetL ((pricksM n g h e t b).map vi) H Q
theorem ok_pricked {f : Addr} {fd : FuncData} {tc : Tok} (F : Fun K "pricked" "pricked" sPricked f fd) (gC : mg "CELL" = some (.int 2 tc)) (ms : mg "sorted" = none)
    {ft : Addr} {fdt : FuncData} (G : Can P w K mg base "turns" 1 ft fdt ["many", "winding"] (spTurns K)) {fc : Addr} {fdc : FuncData} (C : Can P w K mg base "cell_at" 1 fc fdc ["many", "winding", "place"] (spCellAt K)) :
    FnOk P w K mg base CX0 2 f fd ["many", "winding", "angle"] (spPricked K) := by
  refine F.ok scPricked (fun vs H Q E h => ?_) (fun cdv A outer s H vs Q E hr h => ?_)
  · obtain ⟨n, g, h, e, t, b, v, u, rfl, _⟩ := h
    rfl
  obtain ⟨n, g, h, e, t, b, v, u, rfl, hw, hu, hg, hg2, hh, hn, hb, hb2, q⟩ := h
  obtain ⟨ua, rfl, hq⟩ := td_get hu
  refine ⟨_, pss_cons (ps_asg (pv 2) (pg_tup rfl (pgs_cons (pg_name (i := 3) scPricked.nd rfl (.inr rfl)) (pgs_cons (pg_name (i := 4) scPricked.nd rfl (.inr rfl)) pgs_nil))))
    (pss_cons (ps_setLc (i := 5) (own := [("begin", 6), ("length", 7)]) (g := gTup K 2 (gCons (gName 6) (gCons (gName 7) gNil))) (tt := tYes) (by rfl) scPricked.nd rfl rfl (sw_true rfl rfl rfl (by decide +kernel)) (pi_list (pcall G hr (pa_cons (pv 0) (pa_cons (pv 1) pa_nil))))
      (blkOk_by (N := nPricked) (sc := defScope sPricked) (by decide +kernel))
      (fun _ _ _ _ _ => pg_tup rfl (pgs_cons (pg_name (i := 6) scPricked.nd rfl (.inl rfl)) (pgs_cons (pg_name (i := 7) scPricked.nd rfl (.inl rfl)) pgs_nil))) (fun _ _ _ _ _ => pts_nil)
      (fun _ _ _ _ _ => pe_op op_fdivW (pe_op op_add (pe_op op_mul (pv 6) (pv 4)) (pe_op op_mul (pv 7) (pv 3))) (pe_op op_mul (pe_glob (v := .int 2) (by rfl) gC ⟨_, rfl⟩) (pv 4))))
    (pss_one (ps_ret (pe_callB (cr_sortedSet (by rfl)) (by rfl) ms boot_sorted (pa_cons (pe_scI (own := [("place", 8)]) (g := gName 8) (by rfl) scPricked.nd (pi_list (pv 5)) (blkOk_by (N := nPricked) (sc := defScope sPricked) (by decide +kernel))
      (fun _ _ _ _ _ => pg_name (i := 8) scPricked.nd rfl (.inl rfl)) (fun _ _ _ _ _ => pts_one (pt_cmpR op_lt (pv 8) (pv 0) (nomark _)))
      (fun _ _ _ _ _ => pcall C hr (pa_cons (pv 0) (pa_cons (pv 1) (pa_cons (pv 8) pa_nil))))) pa_nil))))), ?_⟩
  refine ⟨_, rfl, ua, _, rfl, hq, rfl, vi t, _, rfl, vi b, _, rfl, rfl, ?_⟩
  -- places
  refine ⟨vi n, rfl, v, rfl, n, g, h, e, v, rfl, hw, by omega, by omega, fun p xs H1 hp e1 hpx hd => ?_⟩
  have hlen : xs.length = (turnsM n g h).length := by rw [dpa_len hd, List.length_map]
  have hlen2 : xs.length ≤ 2 * n := by rw [hlen]; exact turnsF_len _ _ _ _ _
  refine ⟨p, rfl, ⟨xs, sq_of hpx⟩, fun Dl hDl => ?_⟩
  refine lc_list (xs := xs) (fun i H' => Ex H1 H' ∧ H' Dl = some (.lst ((((turnsM n g h).take i).map (placeN t b)).map vi))) ⟨Ex.new hDl, upd_same⟩ (fun i H' _ p' => sq_of (p'.1 _ _ hpx)) (fun i x H' hx p' => ?_) fun H2 p' => ?_
  · obtain ⟨e2, hl⟩ := p'
    obtain ⟨d, hd1, hd2⟩ := dpa_get hd hx
    rw [List.getElem?_map] at hd1
    obtain ⟨r, hr1, rfl⟩ := Option.map_eq_some_iff.mp hd1
    have hm := turnsF_mem _ _ _ _ _ r (List.mem_of_getElem? hr1)
    have hm2 : 2 * n * h ≤ 62 * 1000 := Nat.mul_le_mul (by omega) hh
    obtain ⟨ra, rfl, hra⟩ := td_get (dp_ex e2 _ _ hd2)
    refine ⟨ra, _, rfl, hra, rfl, vi r.1, _, rfl, vi r.2, _, rfl, rfl, rfl, ?_⟩
    refine ⟨vi r.1, rfl, vi b, rfl, _, _, rfl, rfl, .inl ⟨by omega, by omega⟩, vi r.2, rfl, vi t, rfl, _, _, rfl, rfl, .inl ⟨by omega, by omega⟩, _, _, rfl, rfl, vi b, rfl, _, _, rfl, rfl, .inl ⟨by decide, by decide⟩, _, _, rfl, rfl, ?_, ?_⟩
    · refine wide_div (b := 201) (by omega) ?_ (by decide) (by decide)
      omega
    · refine ⟨_, hl, ?_, Ex.mut e2 hDl, ?_⟩
      · rw [List.length_map, List.length_map, List.length_take]
        refine small1000 ?_
        omega
      · rw [upd_same, List.take_add_one, hr1]
        simp only [List.map_append, Option.toList, List.map_cons, List.map_nil]
        rfl
  obtain ⟨e2, hl⟩ := p'
  rw [hlen, List.take_length] at hl
  have hl : H2 Dl = some (.lst ((placesM n g h t b).map vi)) := hl
  have hpl : (placesM n g h t b).length = xs.length := by unfold placesM; rw [List.length_map, hlen]
  -- the set
  refine ⟨.ref Dl, rfl, Dl, rfl, ⟨_, sq_of hl⟩, fun D hD => ?_⟩
  refine sc_list (xs := (placesM n g h t b).map vi) (fun i H' => ∃ (S : Int → Bool) (m : Nat), Ex H2 H' ∧ H' D = some (SetO w D S m) ∧ m ≤ i ∧ ∀ k : Int, S k = true ↔ ∃ p ∈ (placesM n g h t b).take i, p < n ∧ k = cellI n e (p : Int))
    ⟨fun _ => false, 0, Ex.new hD, upd_same, Nat.le_refl _, fun k => by simp⟩ (fun i H' _ ⟨S, m, ex, _⟩ => sq_of (ex _ _ hl)) (fun i x H' hx ⟨S, m, ex, hS, hmi, hmem⟩ => ?_) fun H3 ⟨S, m, ex, hS, hmi, hmem⟩ => ?_
  · rw [List.getElem?_map] at hx
    obtain ⟨pl, hpi, rfl⟩ := Option.map_eq_some_iff.mp hx
    have hi : i < (placesM n g h t b).length := (List.getElem?_eq_some_iff.mp hpi).1
    refine ⟨rfl, vi pl, rfl, vi n, rfl, _, _, rfl, rfl, _, rfl, ite2 (fun hlt => ?_) (fun hlt => ?_)⟩
    · have hlt := of_decide_eq_true hlt
      refine ⟨vi n, rfl, v, rfl, vi pl, rfl, n, g, h, e, (pl : Int), v, rfl, dp_ex ((e1.trans e2).trans ex) _ _ hw, fun H4 e4 => ?_⟩
      refine ⟨_, S, m, rfl, e4 _ _ hS, by have : scanBound = 4096 := rfl; omega, _, _, Ex.mut (ex.trans e4) hD, upd_same, by split <;> omega, fun k => ?_⟩
      rw [Bool.or_eq_true, decide_eq_true_eq, hmem k, List.take_add_one, hpi]
      constructor
      · rintro (⟨p', hp', a, b⟩ | rfl)
        · exact ⟨p', List.mem_append_left _ hp', a, b⟩
        · exact ⟨pl, List.mem_append_right _ (by simp), by omega, rfl⟩
      · rintro ⟨p', hp', a, b⟩
        rcases List.mem_append.mp hp' with z | z
        · exact .inl ⟨p', z, a, b⟩
        · simp at z
          subst z
          exact .inr b
    · have hlt : ¬ ((pl : Int) < (n : Int)) := fun z => hlt (decide_eq_true z)
      refine ⟨S, m, ex, hS, by omega, fun k => ?_⟩
      rw [hmem k, List.take_add_one, hpi]
      constructor
      · rintro ⟨p', hp', a, b⟩
        exact ⟨p', List.mem_append_left _ hp', a, b⟩
      · rintro ⟨p', hp', a, b⟩
        rcases List.mem_append.mp hp' with z | z
        · exact ⟨p', z, a, b⟩
        · simp at z
          subst z
          omega
  · rw [List.length_map] at hmi
    rw [List.length_map, List.take_length] at hmem
    refine ⟨D, S, m, rfl, hS, by omega, fun ns r hs hk hnl hr => ?_⟩
    have en : ns = (pricksM n g h e t b).map (fun k : Nat => (k : Int)) := by
      refine ints_of_rising hs (pricks_sorted hb hg) fun i => ?_
      rw [hk i, hmem i]
      constructor
      · rintro ⟨p', hp', a, rfl⟩
        refine ⟨_, (pricks_mem _).mpr ⟨p', hp', a, rfl⟩, ?_⟩
        unfold cellI
        split <;> omega
      · rintro ⟨k, hk', rfl⟩
        obtain ⟨p', hp', a, rfl⟩ := (pricks_mem _).mp hk'
        refine ⟨p', hp', a, ?_⟩
        unfold cellI
        split <;> omega
    refine q r _ (fresh_back ((e1.trans e2).trans ex) hr) (((e1.trans e2).trans ex).trans (Ex.new hr)) ?_
    rw [upd_same, en, List.map_map]
    rfl
end
end Nr
namespace Nr
open PySem PySem.Spec PyProof.Rows L2 Evl

/-! rising lists without doubles -/
def insU (x : Nat) : List Nat → List Nat
  | [] => [x]
  | y :: l => if x < y then x :: y :: l else if x = y then y :: l else y :: insU x l
def sortU (l : List Nat) : List Nat := l.foldr insU []
theorem insU_mem (x : Nat) : ∀ (l : List Nat) (k : Nat), k ∈ insU x l ↔ k = x ∨ k ∈ l
  | [], k => by simp [insU]
  | y :: l, k => by
    rw [insU]
    split
    · simp
    · split
      · rename_i h; subst h; simp
      · rw [List.mem_cons, insU_mem x l k, List.mem_cons]
        constructor
        · rintro (a | a | a)
          · exact .inr (.inl a)
          · exact .inl a
          · exact .inr (.inr a)
        · rintro (a | a | a)
          · exact .inr (.inl a)
          · exact .inl a
          · exact .inr (.inr a)
theorem insU_up (x : Nat) : ∀ (l : List Nat), l.Pairwise (· < ·) → (insU x l).Pairwise (· < ·)
  | [], _ => by simp [insU]
  | y :: l, h => by
    have p := List.pairwise_cons.mp h
    rw [insU]
    split
    · rename_i lt
      refine List.pairwise_cons.mpr ⟨fun k hk => ?_, h⟩
      rcases List.mem_cons.mp hk with rfl | hk
      · exact lt
      · have := p.1 k hk; omega
    · split
      · exact h
      · refine List.pairwise_cons.mpr ⟨fun k hk => ?_, insU_up x l p.2⟩
        rcases (insU_mem x l k).mp hk with rfl | hk
        · omega
        · exact p.1 k hk
theorem sortU_up : ∀ l : List Nat, (sortU l).Pairwise (· < ·)
  | [] => .nil
  | x :: l => insU_up x _ (sortU_up l)
theorem sortU_mem : ∀ (l : List Nat) (k : Nat), k ∈ sortU l ↔ k ∈ l
  | [], k => Iff.rfl
  | x :: l, k => by
    show k ∈ insU x (sortU l) ↔ _
    rw [insU_mem, sortU_mem l k, List.mem_cons]

/-! marks -/
def inRow (b l p : Nat) : Bool := decide (b ≤ 2 * p) && decide (2 * p < b + l)
def rowPre (whole : Nat) (q : Nat × Nat) (j : Nat) : List Nat := ((List.range j).filter (inRow q.1 q.2)).map (fun p => (2 * p - q.1) * (whole / q.2))
def rawM (n whole : Nat) (rws : List (Nat × Nat)) : List Nat := (rws.map (fun q => rowPre whole q (n + 1))).flatten
def marksM (n whole : Nat) (rws : List (Nat × Nat)) : List Nat := sortU (0 :: rawM n whole rws)
theorem rowPre_yes {whole : Nat} {q : Nat × Nat} {j : Nat} (h : inRow q.1 q.2 j = true) : rowPre whole q (j + 1) = rowPre whole q j ++ [(2 * j - q.1) * (whole / q.2)] := by
  unfold rowPre
  rw [List.range_succ, List.filter_append, List.map_append, List.filter_cons, if_pos h]
  rfl
theorem rowPre_no {whole : Nat} {q : Nat × Nat} {j : Nat} (h : inRow q.1 q.2 j = false) : rowPre whole q (j + 1) = rowPre whole q j := by
  unfold rowPre
  rw [List.range_succ, List.filter_append, List.map_append, List.filter_cons, if_neg (by rw [h]; decide)]
  simp
theorem rawM_take {n whole : Nat} {rws : List (Nat × Nat)} {i : Nat} {q : Nat × Nat} (h : rws[i]? = some q) : rawM n whole (rws.take (i + 1)) = rawM n whole (rws.take i) ++ rowPre whole q (n + 1) := by
  unfold rawM
  rw [List.take_add_one, h, List.map_append, List.flatten_append]
  simp
theorem rowPre_len {whole : Nat} {q : Nat × Nat} (j k : Nat) : (rowPre whole q j).length ≤ (rowPre whole q (j + k)).length := by
  induction k with
  | zero => exact Nat.le_refl _
  | succ k ih =>
    cases h : inRow q.1 q.2 (j + k) with
    | true => rw [← Nat.add_assoc, rowPre_yes h, List.length_append]; omega
    | false => rw [← Nat.add_assoc, rowPre_no h]; exact ih
theorem rawM_len {n whole : Nat} {rws : List (Nat × Nat)} {i : Nat} {q : Nat × Nat} (h : rws[i]? = some q) : (rawM n whole (rws.take i)).length + (rowPre whole q (n + 1)).length ≤ (rawM n whole rws).length := by
  have e : rws = rws.take (i + 1) ++ rws.drop (i + 1) := (List.take_append_drop _ _).symm
  have k := rawM_take (n := n) (whole := whole) h
  have e2 : rawM n whole rws = rawM n whole (rws.take (i + 1)) ++ rawM n whole (rws.drop (i + 1)) := by
    unfold rawM
    rw [← List.flatten_append, ← List.map_append, List.take_append_drop]
  rw [e2, k, List.length_append, List.length_append]
  omega

theorem et_chain {σ : L2.St} {H : Hp} {ta tb tc : TE} {x y z : V} {r r' : R2} {b b' : Bool} (ha : Ev ta σ H x) (hb : Ev tb σ H y) (hr : RV r x y H (.bl b)) (hc : b = true → Ev tc σ H z) (hr' : b = true → RV r' y z H (.bl b')) :
    EvT (tTest (tChain r r' ta tb tc)) σ H (b && b') := fun H1 e Q q =>
  ha H1 e _ fun H2 e2 => hb H2 (e.trans e2) _ fun H3 e3 => hr H3 ((e.trans e2).trans e3) _ fun H4 e4 => ⟨b, rfl, by
    have e5 := ((e2.trans e3).trans e4)
    cases b with
    | false => exact ⟨false, rfl, q H4 e5⟩
    | true => exact hc rfl H4 (e.trans e5) _ fun H5 e6 => hr' rfl H5 ((e.trans e5).trans e6) _ fun H6 e7 => ⟨b', rfl, by rw [Bool.true_and] at q; exact q H6 ((e5.trans e6).trans e7)⟩⟩

section
variable {P : Program} {w : World} {K : PySem.W.Frag} {mg : Str → Option Value} {base : Heap}
abbrev sMarks : Stmt := topS 9
theorem scMarks : FnScope ["many", "rows", "whole", "found", "begin", "length", "place", "behind"] ["many", "rows", "whole"] (defScope sMarks) := ⟨rfl, rfl, rfl, by decide +kernel, rfl, by decide +kernel, by decide +kernel⟩
def spMarks (K : PySem.W.Frag) : Sp := fun vs H Q _ => ∃ (n whole : Nat) (ra : Addr) (xs : List V) (rws : List (Nat × Nat)), vs = [.int n, .ref ra, .int whole] ∧ SqL K H ra xs ∧ DpAll K H xs (rws.map td) ∧ n ≤ 1000 ∧
  (∀ q ∈ rws, 0 < q.2 ∧ q.2 < 1073741824) ∧ (rawM n whole rws).length ≤ 60 ∧ RetL ((marksM n whole rws).map vi) H Q
theorem ok_marks {f : Addr} {fd : FuncData} {k : Nat} {tc : Tok} (F : Fun K "marks" "marks" sMarks f fd) (gC : mg "CELL" = some (.int 2 tc)) (ms : mg "sorted" = none) (mr : mg "range" = none) :
    FnOk P w K mg base CX0 (k + 1) f fd ["many", "rows", "whole"] (spMarks K) := by
  refine fun_okC F scMarks (fun vs H Q E h => ?_) (fun cdv A outer s H vs Q E hcd hr h => ?_)
  · obtain ⟨n, whole, ra, xs, rws, rfl, _⟩ := h
    rfl
  obtain ⟨n, whole, ra, xs, rws, rfl, hs, hd, hn, hl, h60, q⟩ := h
  refine ⟨_, pss_cons (ps_set (i := 3) scMarks.nd rfl (.inl rfl) (pe_set1 pe_int hcd))
    (pss_cons (ps_for PassesOwn.never rfl (pi_list (pv 1)) (pg_tup rfl (pgs_cons (pg_name (i := 4) scMarks.nd rfl (.inl rfl)) (pgs_cons (pg_name (i := 5) scMarks.nd rfl (.inl rfl)) pgs_nil)))
      (pss_one (ps_for PassesOwn.never rfl (pi_range1 rfl mr (pa_cons (pe_op op_add (pv 0) pe_int) pa_nil)) (pg_name (i := 6) scMarks.nd rfl (.inl rfl))
        (pss_cons (ps_set (i := 7) scMarks.nd rfl (.inl rfl) (pe_op op_sub (pe_op op_mul (pe_glob (v := .int 2) (by rfl) gC ⟨_, rfl⟩) (pv 6)) (pv 4)))
        (pss_one (ps_if (pt_chain op_le op_lt pe_int (pv 7) (pv 5))
          (pss_one (ps_expr (pe_sadd (pv 3) (pa_cons (pe_op op_mul (pv 7) (pe_op op_fdiv (pv 2) (pv 5))) pa_nil))))
          pss_nil))))))
    (pss_one (ps_ret (pe_callB (cr_sortedSet (by rfl)) (by rfl) ms boot_sorted (pa_cons (pv 3) pa_nil))))), ?_⟩
  refine fun D hD => ⟨0, rfl, upd_same, ?_⟩
  rw [upd_upd]
  refine q_forL (ev_var rfl) (ex_l (Ex.new hD) hs) (fun i σ' H' => ∃ (y4 y5 y6 y7 : Option V) (S : Int → Bool) (m : Nat), σ' = [some (vi n), some (.ref ra), some (vi whole), some (.ref D), y4, y5, y6, y7] ∧ Ex H H' ∧ H' D = some (SetO w D S m) ∧ m ≤ 1 + (rawM n whole (rws.take i)).length ∧
      ∀ k : Int, S k = true ↔ k = 0 ∨ ∃ r ∈ rawM n whole (rws.take i), k = (r : Int))
    (fun H1 e1 => ⟨none, none, none, none, _, 1, rfl, (Ex.new hD).trans e1, e1 _ _ upd_same, by omega, fun k => by simp [rawM]⟩) (fun i σ' H' _ ⟨_, _, _, _, _, _, _, ex, _⟩ => ex_l ex hs) ?_ ?_
  · rintro i x σ' H1 hx ⟨y4, y5, y6, y7, S, m, rfl, ex, hS, hm, hmem⟩
    obtain ⟨d, hd1, hd2⟩ := dpa_get hd hx
    rw [List.getElem?_map] at hd1
    obtain ⟨r, hr1, rfl⟩ := Option.map_eq_some_iff.mp hd1
    obtain ⟨xa, rfl, hxa⟩ := td_get (dp_ex ex _ _ hd2)
    have hr := hl r (List.mem_of_getElem? hr1)
    have hlen := rawM_len (n := n) (whole := whole) hr1
    refine ⟨xa, _, rfl, hxa, rfl, vi r.1, _, rfl, vi r.2, _, rfl, rfl, ?_⟩
    refine s_forR1 (n := (n : Int) + 1) (ea_cons (ev_op (ev_var rfl) ev_c rv_I0) ea_nil) (by omega) (fun j σ' H' => ∃ (y6 y7 : Option V) (S : Int → Bool) (m : Nat), σ' = [some (vi n), some (.ref ra), some (vi whole), some (.ref D), some (vi r.1), some (vi r.2), y6, y7] ∧ Ex H H' ∧ H' D = some (SetO w D S m) ∧
        m ≤ 1 + (rawM n whole (rws.take i)).length + (rowPre whole r j).length ∧ ∀ k : Int, S k = true ↔ (k = 0 ∨ ∃ r ∈ rawM n whole (rws.take i), k = (r : Int)) ∨ ∃ c ∈ rowPre whole r j, k = (c : Int))
      (fun H2 e2 => ⟨y6, y7, S, m, rfl, ex.trans e2, e2 _ _ hS, by omega, fun k => by rw [hmem k]; simp [rowPre]⟩) ?_ ?_
    · rintro j σ' H2 hj ⟨y6, y7, S, m, rfl, ex, hS, hm, hmem⟩
      refine q_asg (v := .int (2 * (j : Int) - (r.1 : Int))) (ev_op (ev_op ev_c (ev_var rfl) (rv_I (.inl ⟨by decide, by decide⟩))) (ev_var rfl) rv_I0) fun H3 e3 => ?_
      refine s_when (et_chain ev_c (ev_var rfl) rv_I0 (fun _ => ev_var rfl) (fun _ => rv_I0)) (fun hb H4 e4 => ?_) (fun hb H4 e4 => ?_)
      · rw [Bool.and_eq_true, decide_eq_true_eq, decide_eq_true_eq] at hb
        have hin : inRow r.1 r.2 j = true := by
          unfold inRow
          rw [Bool.and_eq_true, decide_eq_true_eq, decide_eq_true_eq]
          omega
        have hlj := rowPre_len (whole := whole) (q := r) (j + 1) (n + 1 - (j + 1))
        rw [show j + 1 + (n + 1 - (j + 1)) = n + 1 by omega, rowPre_yes hin, List.length_append, List.length_cons, List.length_nil] at hlj
        have hS4 := (e3.trans e4) _ _ hS
        refine ⟨.ref D, rfl, ⟨D, S, m, rfl, hS4⟩, .int (2 * (j : Int) - (r.1 : Int)), rfl, vi whole, rfl, vi r.2, rfl, _, _, rfl, rfl, ⟨by omega, by omega⟩, _, _, rfl, rfl, .inl ⟨by omega, by omega⟩, D, _, S, m, rfl, rfl, hS4, by have : scanBound = 4096 := rfl; omega, ?_⟩
        refine ⟨_, _, _, _, rfl, Ex.mut (ex.trans (e3.trans e4)) hD, upd_same, ?_, fun k => ?_⟩
        · rw [rowPre_yes hin, List.length_append, List.length_cons, List.length_nil]
          split <;> omega
        · have ek : (2 * (j : Int) - (r.1 : Int)) * ((whole : Int) / (r.2 : Int)) = (((2 * j - r.1) * (whole / r.2) : Nat) : Int) := by
            rw [Int.natCast_mul, Int.natCast_ediv, Int.natCast_sub (by omega)]
            rfl
          rw [Bool.or_eq_true, decide_eq_true_eq, hmem k, rowPre_yes hin, ek]
          constructor
          · rintro ((z | z) | rfl)
            · exact .inl z
            · obtain ⟨c, hc, e⟩ := z
              exact .inr ⟨c, List.mem_append_left _ hc, e⟩
            · exact .inr ⟨_, List.mem_append_right _ (List.mem_singleton.mpr rfl), rfl⟩
          · rintro (z | ⟨c, hc, rfl⟩)
            · exact .inl (.inl z)
            · rcases List.mem_append.mp hc with hc | hc
              · exact .inl (.inr ⟨c, hc, rfl⟩)
              · rw [List.mem_singleton.mp hc]
                exact .inr rfl
      · have hin : inRow r.1 r.2 j = false := by
          unfold inRow
          rw [Bool.and_eq_false_iff, decide_eq_false_iff_not, decide_eq_false_iff_not] at hb ⊢
          omega
        refine ⟨_, _, S, m, rfl, ex.trans (e3.trans e4), (e3.trans e4) _ _ hS, ?_, ?_⟩
        · rw [rowPre_no hin]; exact hm
        · rw [rowPre_no hin]; exact hmem
    · rintro σ' H2 ⟨y6, y7, S, m, rfl, ex, hS, hm, hmem⟩
      rw [show ((n : Int) + 1).toNat = n + 1 by omega] at hm hmem
      refine ⟨_, _, _, _, S, m, rfl, ex, hS, ?_, fun k => ?_⟩
      · rw [rawM_take hr1, List.length_append]
        omega
      · rw [hmem k, rawM_take hr1]
        constructor
        · rintro ((z | ⟨c, hc, z⟩) | ⟨c, hc, z⟩)
          · exact .inl z
          · exact .inr ⟨c, List.mem_append_left _ hc, z⟩
          · exact .inr ⟨c, List.mem_append_right _ hc, z⟩
        · rintro (z | ⟨c, hc, z⟩)
          · exact .inl (.inl z)
          · rcases List.mem_append.mp hc with hc | hc
            · exact .inl (.inr ⟨c, hc, z⟩)
            · exact .inr ⟨c, hc, z⟩
  · rintro σ' H1 ⟨y4, y5, y6, y7, S, m, rfl, ex, hS, hm, hmem⟩
    rw [dpa_len hd, List.length_map, List.take_length] at hm hmem
    refine ⟨.ref D, rfl, D, S, m, rfl, hS, by omega, fun ns p hs' hk hnl hp => ?_⟩
    have en : ns = (marksM n whole rws).map (fun k : Nat => (k : Int)) := by
      refine ints_of_rising hs' (sortU_up _) fun i => ?_
      rw [hk i, hmem i]
      constructor
      · rintro (rfl | ⟨c, hc, rfl⟩)
        · exact ⟨0, (sortU_mem _ _).mpr (List.mem_cons_self), rfl⟩
        · exact ⟨c, (sortU_mem _ _).mpr (List.mem_cons_of_mem _ hc), rfl⟩
      · rintro ⟨c, hc, rfl⟩
        rcases List.mem_cons.mp ((sortU_mem _ _).mp hc) with rfl | hc
        · exact .inl rfl
        · exact .inr ⟨c, hc, rfl⟩
    refine q p _ (fresh_back ex hp) (ex.trans (Ex.new hp)) ?_
    rw [upd_same, en, List.map_map]
    rfl
end
end Nr
namespace Nr
open PySem PySem.Spec PyProof.Rows L2 Evl

def wholeM (n g h : Nat) : Nat := lcmL ((turnsM n g h).map (·.2))
def topsM (n g h : Nat) : List Nat := marksM n (wholeM n g h) (turnsM n g h)
def strD (n g h e w : Nat) (q : Nat × Nat) : PyData := .tuple [lowD q.1 w, lowD q.2 w, .tuple ((pricksM n g h e q.1 w).map di)]
def pairsM (n g h : Nat) : List (Nat × Nat) := (topsM n g h).zip ((topsM n g h).drop 1 ++ [wholeM n g h])
def strM (n g h e : Nat) : List PyData := (pairsM n g h).map (strD n g h e (wholeM n g h))
def okAt (n g h : Nat) : Bool := decide (wholeM n g h < 1000000) && decide ((rawM n (wholeM n g h) (turnsM n g h)).length ≤ 60)
def okAll : Bool := (List.range 25).all fun n => (List.range 17).all fun g => (List.range 9).all fun h => decide (g < 4) || okAt n g h
theorem okAll_true : okAll = true := by decide +kernel
theorem ok_at6 {n g h : Nat} (hn : n ≤ 24) (hg : 4 ≤ g) (hg2 : g ≤ 16) (hh : h ≤ 8) : wholeM n g h < 1000000 ∧ (rawM n (wholeM n g h) (turnsM n g h)).length ≤ 60 := by
  have a := List.all_eq_true.mp okAll_true n (List.mem_range.mpr (by omega))
  have b := List.all_eq_true.mp a g (List.mem_range.mpr (by omega))
  have c := List.all_eq_true.mp b h (List.mem_range.mpr (by omega))
  rw [Bool.or_eq_true, decide_eq_true_eq] at c
  rcases c with c | c
  · omega
  · unfold okAt at c
    rw [Bool.and_eq_true, decide_eq_true_eq, decide_eq_true_eq] at c
    exact c
theorem ok_at {n g h : Nat} (hn : n ≤ 24) (hg : 4 ≤ g) (hg2 : g ≤ 16) (hh : h ≤ 8) : wholeM n g h < 1073741824 ∧ (rawM n (wholeM n g h) (turnsM n g h)).length ≤ 60 := by
  have := ok_at6 hn hg hg2 hh
  exact ⟨by omega, this.2⟩
end Nr
namespace Nr
open PySem PySem.Spec PyProof.Rows L2 Evl
theorem cut_1 (xs : List V) : cutV xs (some 1) none = xs.drop 1 := by
  unfold cutV
  rw [show HT.sIx xs.length 0 (some 1) = min 1 xs.length from HT.sIx_nat xs.length 0 1, HT.sIx_none]
  cases xs with
  | nil => rfl
  | cons x r =>
    have e : min 1 (x :: r).length = 1 := by rw [List.length_cons]; omega
    rw [e]
    show List.take ((x :: r).length - 1) r = r
    rw [List.length_cons, Nat.add_sub_cancel]
    exact List.take_length
theorem noL_low (a b : Nat) : noL (lowD a b) = true := by simp [lowD, noL, noLs]
theorem noLs_dis (l : List Nat) : noLs (l.map di) = true := noLs_map (fun _ => by simp [noL]) l
theorem noL_str (n g h e w : Nat) (q : Nat × Nat) : noL (strD n g h e w q) = true := by
  unfold strD
  rw [noL, noLs, noLs, noLs, noLs, noL_low, noL_low, noL, noLs_dis]
  rfl
theorem dis_vis {K : PySem.W.Frag} {H : Hp} (l : List Nat) : DpAll K H (l.map vi) (l.map di) := by
  have k := dpa_ints_of (K := K) (H := H) (l.map fun k : Nat => (k : Int))
  rw [List.map_map, List.map_map] at k
  exact k
theorem zip_tops (l : List Nat) (w : Nat) (hl : 0 < l.length) : (l.drop 1 ++ [w]).length = l.length := by
  rw [List.length_append, List.length_drop, List.length_cons, List.length_nil]
  omega
theorem sortU_pos (l : List Nat) (h : l ≠ []) : 0 < (sortU l).length := by
  cases l with
  | nil => exact absurd rfl h
  | cons x r => exact List.length_pos_of_mem ((sortU_mem _ x).mpr List.mem_cons_self)
theorem wholeM_pos {n g h : Nat} (hg : 0 < g) : 0 < wholeM n g h := by
  refine lcm_pos _ 1 (by decide) fun x hx => ?_
  obtain ⟨q, hq, rfl⟩ := List.mem_map.mp hx
  have := turnsF_mem _ _ _ _ _ q hq
  omega
theorem insU_len (x : Nat) : ∀ l : List Nat, (insU x l).length ≤ l.length + 1
  | [] => Nat.le_refl _
  | y :: l => by
    rw [insU]
    split
    · exact Nat.le_refl _
    · split
      · exact Nat.le_succ _
      · have := insU_len x l
        rw [List.length_cons, List.length_cons]
        omega
theorem sortU_len : ∀ l : List Nat, (sortU l).length ≤ l.length
  | [] => Nat.le_refl _
  | x :: l => by
    have a := insU_len x (sortU l)
    have b := sortU_len l
    show (insU x (sortU l)).length ≤ l.length + 1
    omega
section
variable {P : Program} {w : World} {K : PySem.W.Frag} {mg : Str → Option Value} {base : Heap}
abbrev sStretches : Stmt := topS 10
abbrev nStretches : List Str := ["many", "winding", "rows", "whole", "tops", "told", "top", "after", "cells", "begin", "length"]
theorem scStretches : FnScope nStretches ["many", "winding"] (defScope sStretches) := ⟨rfl, rfl, rfl, by decide +kernel, rfl, by decide +kernel, by decide +kernel⟩
def spStretches (K : PySem.W.Frag) : Sp := fun vs H Q _ => ∃ (n g h e : Nat) (v : V), vs = [.int n, v] ∧ Dp K H v (wD g h e) ∧ n ≤ 24 ∧ 4 ≤ g ∧ g ≤ 16 ∧ h ≤ 8 ∧ RetFL K (strM n g h e) H Q
theorem ok_stretches {f : Addr} {fd : FuncData} (F : Fun K "stretches" "stretches" sStretches f fd) (mz : mg "zip" = none) (mt : mg "tuple" = none)
    {ft : Addr} {fdt : FuncData} (G : Can P w K mg base "turns" 1 ft fdt ["many", "winding"] (spTurns K)) {fl : Addr} {fdl : FuncData} (L : Can P w K mg base "common_multiple" 2 fl fdl ["numbers"] (spLcm K))
    {fm : Addr} {fdm : FuncData} (M : Can P w K mg base "marks" 1 fm fdm ["many", "rows", "whole"] (spMarks K)) {fp : Addr} {fdp : FuncData} (C : Can P w K mg base "pricked" 2 fp fdp ["many", "winding", "angle"] (spPricked K))
    {fo : Addr} {fdo : FuncData} (O : Can P w K mg base "lowest" 2 fo fdo ["top", "bottom"] (spLowest K)) :
    FnOk P w K mg base CX0 3 f fd ["many", "winding"] (spStretches K) := by
  refine F.ok scStretches (fun vs H Q E h => ?_) (fun cdv A outer s H vs Q E hr h => ?_)
  · obtain ⟨n, g, h, e, v, rfl, _⟩ := h
    rfl
  obtain ⟨n, g, h, e, v, rfl, hw, hn, hg, hg2, hh, q⟩ := h
  obtain ⟨hwh, hraw⟩ := ok_at hn hg hg2 hh
  have hwp : 0 < wholeM n g h := wholeM_pos (by omega)
  have hlt : (topsM n g h).length ≤ 61 := by
    have := sortU_len (0 :: rawM n (wholeM n g h) (turnsM n g h))
    rw [List.length_cons] at this
    unfold topsM marksM
    omega
  have hlp : 0 < (topsM n g h).length := sortU_pos _ (by simp)
  refine ⟨_, pss_cons (ps_set (i := 2) scStretches.nd rfl (.inl rfl) (pcall G hr (pa_cons (pv 0) (pa_cons (pv 1) pa_nil))))
    (pss_cons (ps_set (i := 3) scStretches.nd rfl (.inl rfl) (pcall L hr (pa_cons (pe_lc (own := [("begin", 9), ("length", 10)]) (g := gTup K 2 (gCons (gName 9) (gCons (gName 10) gNil))) (tt := tYes) (by rfl) scStretches.nd (pi_list (pv 2))
      (blkOk_by (N := nStretches) (sc := defScope sStretches) (by decide +kernel))
      (fun _ _ _ _ _ => pg_tup rfl (pgs_cons (pg_name (i := 9) scStretches.nd rfl (.inl rfl)) (pgs_cons (pg_name (i := 10) scStretches.nd rfl (.inl rfl)) pgs_nil))) (fun _ _ _ _ _ => pts_nil) (fun _ _ _ _ _ => pv 10)) pa_nil)))
    (pss_cons (ps_set (i := 4) scStretches.nd rfl (.inl rfl) (pcall M hr (pa_cons (pv 0) (pa_cons (pv 2) (pa_cons (pv 3) pa_nil)))))
    (pss_cons (ps_set (i := 5) scStretches.nd rfl (.inl rfl) (pe_lst pa_nil))
    (pss_cons (ps_for PassesOwn.never rfl (pi_zip (by rfl) mz (pa_cons (pv 4) (pa_cons (pe_op op_cat (pe_slice sl_list (pv 4) (po_some pe_int) po_none) (pe_lst (pa_cons (pv 3) pa_nil))) pa_nil)))
        (pg_tup rfl (pgs_cons (pg_name (i := 6) scStretches.nd rfl (.inl rfl)) (pgs_cons (pg_name (i := 7) scStretches.nd rfl (.inl rfl)) pgs_nil)))
      (pss_cons (ps_set (i := 8) scStretches.nd rfl (.inl rfl) (pe_callTy call_tuple_of (by rfl) mt PyProof.Rows.boot_tuple (pa_cons (pcall C hr (pa_cons (pv 0) (pa_cons (pv 1) (pa_cons (pe_tup (pa_cons (pv 6) (pa_cons (pv 3) pa_nil))) pa_nil)))) pa_nil)))
      (pss_one (ps_expr (pe_bm PySem.F.plainAttrs_list PySem.F.slot_list_append PySem.F.type_list_append mt_append (pv 5) (pa_cons (pe_tup (pa_cons (pcall O hr (pa_cons (pv 6) (pa_cons (pv 3) pa_nil)))
        (pa_cons (pcall O hr (pa_cons (pv 7) (pa_cons (pv 3) pa_nil))) (pa_cons (pv 8) pa_nil)))) pa_nil))))))
    (pss_one (ps_ret (pv 5))))))), ?_⟩
  -- rows
  refine ⟨vi n, rfl, v, rfl, n, g, h, e, v, rfl, hw, by omega, by omega, fun rp rx H1 hrp e1 hrx hrd => ?_⟩
  have hlen : rx.length = (turnsM n g h).length := by rw [dpa_len hrd, List.length_map]
  have hlen2 : rx.length ≤ 2 * n := by rw [hlen]; exact turnsF_len _ _ _ _ _
  -- whole
  refine ⟨.ref rp, rfl, rp, rfl, ⟨rx, sq_of hrx⟩, fun Dl hDl => ?_⟩
  refine lc_list (xs := rx) (fun i H' => Ex H1 H' ∧ H' Dl = some (.lst ((((turnsM n g h).take i).map (·.2)).map vi))) ⟨Ex.new hDl, upd_same⟩ (fun i H' _ p' => sq_of (p'.1 _ _ hrx)) (fun i x H' hx p' => ?_) fun H2 p' => ?_
  · obtain ⟨e2, hl⟩ := p'
    obtain ⟨d, hd1, hd2⟩ := dpa_get hrd hx
    rw [List.getElem?_map] at hd1
    obtain ⟨r, hr1, rfl⟩ := Option.map_eq_some_iff.mp hd1
    obtain ⟨ra, rfl, hra⟩ := td_get (dp_ex e2 _ _ hd2)
    refine ⟨ra, _, rfl, hra, rfl, vi r.1, _, rfl, vi r.2, _, rfl, rfl, rfl, ?_⟩
    refine ⟨vi r.2, rfl, _, hl, ?_, Ex.mut e2 hDl, ?_⟩
    · rw [List.length_map, List.length_map, List.length_take]
      exact small1000 (by omega)
    · rw [upd_same, List.take_add_one, hr1]
      simp only [List.map_append, Option.toList, List.map_cons, List.map_nil]
  obtain ⟨e2, hl⟩ := p'
  rw [hlen, List.take_length] at hl
  refine ⟨Dl, _, rfl, sq_of hl, fun x hx => ?_, fun H3 e3 => ?_⟩
  · obtain ⟨r, hr1, rfl⟩ := List.mem_map.mp hx
    have := turnsF_mem _ _ _ _ _ r hr1
    have hm2 : 2 * n * h ≤ 48 * 8 := Nat.mul_le_mul (by omega) hh
    omega
  have e13 : Ex H1 H3 := e2.trans e3
  -- tops
  refine ⟨vi n, rfl, .ref rp, rfl, vi (wholeM n g h), rfl, n, wholeM n g h, rp, rx, turnsM n g h, rfl, sq_of (e13 _ _ hrx), dpa_ex e13 _ _ hrd, by omega, fun x hx => ?_, hraw, fun tp H4 htp e4 htx => ?_⟩
  · have := turnsF_mem _ _ _ _ _ x hx
    have hm2 : 2 * n * h ≤ 48 * 8 := Nat.mul_le_mul (by omega) hh
    omega
  have htx : H4 tp = some (.lst ((topsM n g h).map vi)) := htx
  have e04 : Ex H H4 := (e1.trans e13).trans e4
  -- told
  refine ⟨Nat.zero_le _, fun to hto => ?_⟩
  have n1 : tp ≠ to := ne_of_none htx hto
  refine ⟨.ref tp, rfl, .ref tp, rfl, 1, rfl, tp, _, rfl, sq_of (by rw [upd_ne n1]; exact htx), fun c1 hc1 => ?_⟩
  refine ⟨vi (wholeM n g h), rfl, by show 1 ≤ sizeLine; decide, fun c2 hc2 => ?_⟩
  have n2 : c1 ≠ c2 := ne_of_none upd_same hc2
  have n3 : to ≠ c1 := ne_of_none upd_same hc1
  refine ⟨c1, c2, _, _, rfl, rfl, by rw [upd_ne n2, upd_same], upd_same, ?_, fun c3 hc3 => ?_⟩
  · rw [cut_1, List.length_drop, List.length_map, List.length_cons, List.length_nil]
    exact Nat.le_of_lt (small1000 (by omega))
  have x5 : Ex H4 (upd H4 to (.lst [])) := Ex.new hto
  have x6 : Ex (upd H4 to (.lst [])) _ := Ex.new (o := .lst (cutV ((topsM n g h).map vi) (some 1) none)) hc1
  have x7 := Ex.new (o := .lst [vi (wholeM n g h)]) hc2
  have x8 := Ex.new (o := .lst (cutV ((topsM n g h).map vi) (some 1) none ++ [vi (wholeM n g h)])) hc3
  have x58 := (x6.trans x7).trans x8
  have h8to := x58 _ _ (upd_same (H := H4) (a := to) (o := .lst []))
  have h8tp := (x5.trans x58) _ _ htx
  have h8c3 := upd_same (H := upd (upd (upd H4 to (.lst [])) c1 (.lst (cutV ((topsM n g h).map vi) (some 1) none))) c2 (.lst [vi (wholeM n g h)])) (a := c3) (o := .lst (cutV ((topsM n g h).map vi) (some 1) none ++ [vi (wholeM n g h)]))
  have e08 := e04.trans (x5.trans x58)
  have n4 : to ≠ c3 := by
    have z := (x6.trans x7) _ _ (upd_same (H := H4) (a := to) (o := .lst []))
    exact ne_of_none z hc3
  have hto0 : H to = none := fresh_back e04 hto
  revert h8to h8tp h8c3 e08
  generalize upd (upd (upd (upd H4 to (.lst [])) c1 (.lst (cutV ((topsM n g h).map vi) (some 1) none))) c2 (.lst [vi (wholeM n g h)])) c3 (.lst (cutV ((topsM n g h).map vi) (some 1) none ++ [vi (wholeM n g h)])) = H8
  intro h8to h8tp h8c3 e08
  rw [cut_1, ← List.map_drop, show ([vi (wholeM n g h)] : List V) = [wholeM n g h].map vi from rfl, ← List.map_append] at h8c3
  have hpl : (pairsM n g h).length = (topsM n g h).length := by
    unfold pairsM
    rw [List.length_zip, zip_tops _ _ hlp, Nat.min_self]
  refine ⟨tp, c3, _, _, rfl, sq_of h8tp, sq_of h8c3, ?_⟩
  refine RZ.for_zipL (by rw [List.length_map, List.length_map, zip_tops _ _ hlp]) (fun i σ' H' => ∃ (y6 y7 y8 : Option V) (xs : List V), σ' = [some (vi n), some v, some (.ref rp), some (vi (wholeM n g h)), some (.ref tp), some (.ref to), y6, y7, y8, none, none] ∧
      Ex H H' ∧ H' tp = some (.lst ((topsM n g h).map vi)) ∧ H' c3 = some (.lst (((topsM n g h).drop 1 ++ [wholeM n g h]).map vi)) ∧ H' to = some (.lst xs) ∧ DpAll K H' xs ((strM n g h e).take i))
    ⟨none, none, none, [], rfl, e08, h8tp, h8c3, h8to, .nil⟩ (fun i σ' H' ⟨_, _, _, _, _, _, a, b, _⟩ => ⟨sq_of a, sq_of b⟩) ?_ ?_
  · rintro i x y T σ' H' hx hy ⟨y6, y7, y8, xs, rfl, ex, htp', hc3', hto', hd'⟩ hT
    rw [List.getElem?_map] at hx hy
    obtain ⟨t, ht, rfl⟩ := Option.map_eq_some_iff.mp hx
    obtain ⟨a, ha, rfl⟩ := Option.map_eq_some_iff.mp hy
    have hp : (pairsM n g h)[i]? = some (t, a) := by
      unfold pairsM
      rw [List.getElem?_zip_eq_some]
      exact ⟨ht, ha⟩
    have hst : (strM n g h e)[i]? = some (strD n g h e (wholeM n g h) (t, a)) := by
      unfold strM
      rw [List.getElem?_map, hp]
      rfl
    have hi : i < (topsM n g h).length := (List.getElem?_eq_some_iff.mp ht).1
    have xT : Ex H' (upd H' T (.tup [vi t, vi a])) := Ex.new hT
    refine ⟨T, _, rfl, st_of upd_same, rfl, vi t, _, rfl, vi a, _, rfl, rfl, ?_⟩
    generalize upd H' T (.tup [vi t, vi a]) = H9 at xT
    -- cells
    refine ⟨vi n, rfl, v, rfl, vi t, rfl, vi (wholeM n g h), rfl, by show 2 ≤ sizeLine; decide, fun A1 hA1 => ?_⟩
    have xA := Ex.new (o := .tup [vi t, vi (wholeM n g h)]) hA1
    refine ⟨n, g, h, e, t, wholeM n g h, v, .ref A1, rfl, dp_ex (ex.trans (xT.trans xA)) _ _ hw, .tup (st_of upd_same) (.cons (.int _) (.cons (.int _) .nil)), by omega, by omega, by omega, by omega, hwp, by omega, fun cp H10 hcp e10 hcx => ?_⟩
    refine ⟨cp, _, rfl, .inl ⟨sq_of hcx, fun ct hct => ?_⟩⟩
    have x11 : Ex H10 (upd H10 ct (.tup ((pricksM n g h e t (wholeM n g h)).map vi))) := Ex.new hct
    have hc11 := upd_same (H := H10) (a := ct) (o := .tup ((pricksM n g h e t (wholeM n g h)).map vi))
    have xx := (xT.trans xA).trans (e10.trans x11)
    generalize upd H10 ct (.tup ((pricksM n g h e t (wholeM n g h)).map vi)) = H11 at x11 hc11 xx
    -- told.append
    refine ⟨.ref to, rfl, .inl ⟨rfl, _, sq_of (xx _ _ hto')⟩, vi t, rfl, vi (wholeM n g h), rfl, t, wholeM n g h, rfl, hwp, hwh, fun v1 H12 e12 d1 => ?_⟩
    refine ⟨vi a, rfl, vi (wholeM n g h), rfl, a, wholeM n g h, rfl, hwp, hwh, fun v2 H13 e13 d2 => ?_⟩
    refine ⟨.ref ct, rfl, by show 3 ≤ sizeLine; decide, fun r hr' => ?_⟩
    have x14 := Ex.new (o := .tup [v1, v2, .ref ct]) hr'
    have h14r := upd_same (H := H13) (a := r) (o := .tup [v1, v2, .ref ct])
    have y14 := e12.trans (e13.trans x14)
    generalize upd H13 r (.tup [v1, v2, .ref ct]) = H14 at x14 h14r y14
    have z14 : Ex H' H14 := xx.trans y14
    refine ⟨to, xs, .ref r, rfl, rfl, z14 _ _ hto', ?_, some (vi t), some (vi a), some (.ref ct), xs ++ [.ref r], rfl, Ex.mut (ex.trans z14) hto0, ?_, ?_, upd_same, ?_⟩
    · have l1 := dpa_len hd'
      rw [List.length_take] at l1
      exact small1000 (by omega)
    · rw [upd_ne n1]
      exact z14 _ _ htp'
    · rw [upd_ne (Ne.symm n4)]
      exact z14 _ _ hc3'
    · rw [List.take_add_one, hst]
      refine dpa_mut (noT_lst (z14 _ _ hto')) _ _ ?_ (dpa_append (dpa_ex z14 _ _ hd') (.cons (.tup (st_of h14r) (.cons (dp_ex (e13.trans x14) _ _ d1) (.cons (dp_ex x14 _ _ d2) (.cons (.tup (st_of (y14 _ _ hc11)) (dis_vis _)) .nil)))) .nil))
      rw [noLs_append]
      have k1 : noLs ((strM n g h e).take i) = true := by
        unfold strM
        rw [← List.map_take]
        exact noLs_map (noL_str n g h e _) _
      rw [k1]
      show noLs [strD n g h e (wholeM n g h) (t, a)] = true
      rw [noLs, noLs, noL_str]
      rfl
  · rintro σ' H' ⟨y6, y7, y8, xs, rfl, ex, htp', hc3', hto', hd'⟩
    rw [List.length_map, List.take_of_length_le (by unfold strM; rw [List.length_map, hpl]; exact Nat.le_refl _)] at hd'
    exact ⟨.ref to, rfl, q to xs H' hto0 ex hto' hd'⟩
end
end Nr
namespace Nr
open PySem PySem.Spec PyProof.Rows L2 Evl

/-! the bag: a list of two ints that is drawn from -/
def Bx (p : Addr) (H H' : Hp) : Prop := ∀ a o, a ≠ p → H a = some o → H' a = some o
theorem Bx.refl (p : Addr) (H : Hp) : Bx p H H := fun _ _ _ h => h
theorem Bx.trans {p : Addr} {H H1 H2 : Hp} (a : Bx p H H1) (b : Bx p H1 H2) : Bx p H H2 := fun x o n h => b x o n (a x o n h)
theorem Bx.of {p : Addr} {H H1 : Hp} (a : Ex H H1) : Bx p H H1 := fun x o _ h => a x o h
theorem Bx.upd {p : Addr} {H H1 : Hp} {o : HO} (a : Bx p H H1) : Bx p H (upd H1 p o) := fun x u n h => by
  rw [upd_ne n]
  exact a x u n h
theorem Bx.ex {p : Addr} {H0 H H1 : Hp} (n : H0 p = none) (e : Ex H0 H) (a : Bx p H H1) : Ex H0 H1 := fun x u h => a x u (ne_of_none h n) (e x u h)
def Bag (H : Hp) (p : Addr) : Prop := ∃ c s : Nat, H p = some (.lst [vi c, vi s])
theorem Bag.noT {H : Hp} {p : Addr} (b : Bag H p) : NoT H p := by
  obtain ⟨c, s, h⟩ := b
  exact noT_lst h
theorem Bag.ex {H H' : Hp} {p : Addr} (b : Bag H p) (e : Ex H H') : Bag H' p := by
  obtain ⟨c, s, h⟩ := b
  exact ⟨c, s, e _ _ h⟩
section
variable {K : PySem.W.Frag} {H H' : Hp} {p : Addr}
theorem sqt_bx {a : Addr} {xs : List V} (n : NoT H p) (b : Bx p H H') (h : SqT K H a xs) : SqT K H' a xs := by
  rcases h with h | h
  · have hne : a ≠ p := fun z => n xs (z ▸ h)
    refine .inl ?_
    rcases h with h | ⟨u, h⟩
    · exact .inl (b _ _ hne h)
    · exact .inr ⟨u, b _ _ hne h⟩
  · exact .inr h
mutual
theorem dp_bx (n : NoT H p) (b : Bx p H H') : ∀ (d : PyData) (v : V), noL d = true → Dp K H v d → Dp K H' v d
  | .none, _, _, h => by cases h; exact .non
  | .bool b, _, _, h => by cases h; exact .bl b
  | .int i, _, _, h => by cases h; exact .int i
  | .str x, _, _, h => by cases h; exact .str x
  | .list ds, _, z, h => by rw [noL] at z; cases z
  | .tuple ds, _, z, h => by
    rw [noL] at z
    cases h with
    | tup hs ha => exact .tup (sqt_bx n b hs) (dpa_bx n b ds _ z ha)
  | .dict _, _, _, h => by cases h
theorem dpa_bx (n : NoT H p) (b : Bx p H H') : ∀ (ds : List PyData) (vs : List V), noLs ds = true → DpAll K H vs ds → DpAll K H' vs ds
  | [], _, _, h => by cases h; exact .nil
  | d :: ds, _, z, h => by
    rw [noLs, Bool.and_eq_true] at z
    cases h with
    | cons h1 h2 => exact .cons (dp_bx n b d _ z.1 h1) (dpa_bx n b ds _ z.2 h2)
end
end
/-- what is drawn: the bag is changed, all else stands -/
def RetB (p : Addr) (C : V → Hp → Prop) (H : Hp) (Q : VK) : Prop := ∀ v H2, Bx p H H2 → Bag H2 p → C v H2 → Q v H2

section
variable {P : Program} {w : World} {K : PySem.W.Frag} {mg : Str → Option Value} {base : Heap}
/-! _law_bag -/
abbrev sBag : Stmt := topS 16
theorem scBag : FnScope ["script", "k", "cell", "seed"] ["script", "k"] (defScope sBag) := ⟨rfl, rfl, rfl, by decide +kernel, rfl, by decide +kernel, by decide +kernel⟩
def spBag (K : PySem.W.Frag) : Sp := fun vs H Q _ => ∃ (a : Addr) (ns : List Int) (k : Nat), vs = [.ref a, .int k] ∧ SqL K H a (ns.map V.int) ∧ k < 1000 ∧ ∀ p H2, H p = none → Ex H H2 → Bag H2 p → Q (.ref p) H2
theorem ok_bag {f : Addr} {fd : FuncData} {k : Nat} (F : Fun K "_law_bag" "_law_bag" sBag f fd) (ml : mg "len" = none) : FnOk P w K mg base CX0 (k + 1) f fd ["script", "k"] (spBag K) := by
  refine F.ok scBag (fun vs H Q E h => ?_) (fun cdv A outer s H vs Q E hr h => ?_)
  · obtain ⟨a, ns, k, rfl, _⟩ := h
    rfl
  obtain ⟨a, ns, k, rfl, hs, hk, q⟩ := h
  refine ⟨_, pss_cons (ps_set (i := 2) scBag.nd rfl (.inl rfl) pe_int)
    (pss_cut (ps_if (pt_cmpR op_lt (pv 1) (pe_callB call_len_seq (by rfl) ml PySem.boot_len (pa_cons (pv 0) pa_nil)) (nomark _))
      (pss_one (ps_set (i := 2) scBag.nd rfl (.inl rfl) (pe_op op_mod (pe_ix ix_list (pv 0) (pv 1) (fun _ _ => rfl)) (pe_op op_pow pe_int pe_int)))) pss_nil)
    (pss_cons (ps_set (i := 3) scBag.nd rfl (.inl rfl) (pe_op op_add pe_int (pe_op op_mod (pe_op op_add (pe_op op_add (pe_op op_add (pe_op op_mul (pe_op op_mod (pv 2) pe_int) pe_int) (pe_op op_mul (pe_op op_mul pe_int (pv 1)) (pv 1))) (pe_op op_mul pe_int (pv 1))) pe_int) pe_int)))
    (pss_cons (ps_if (pt_cmpR op_lt (pv 2) (pe_op op_pow pe_int pe_int) (nomark _)) (pss_one (ps_ret (pe_lst (pa_cons pe_int (pa_cons (pv 3) pa_nil))))) pss_nil)
    (pss_one (ps_ret (pe_lst (pa_cons (pv 2) (pa_cons (pv 3) pa_nil)))))))), ?_⟩
  refine q_asg ev_c fun H1 e1 => ?_
  have hs1 := ex_l e1 hs
  refine ⟨fun σ' H' => Ex H H' ∧ ∃ c : Nat, σ' = [some (.ref a), some (vi k), some (vi c), none], ?_, ?_⟩
  · refine ⟨vi k, rfl, .ref a, rfl, a, _, rfl, .inl hs1, _, _, rfl, rfl, _, rfl, ite2 (fun hlt => ?_) (fun hlt => ?_)⟩
    · have hlt := of_decide_eq_true hlt
      rw [List.length_map] at hlt
      have hk2 : k < ns.length := by omega
      have hx : (ns.map V.int)[k]? = some (.int ns[k]) := by rw [List.getElem?_map, List.getElem?_eq_getElem hk2]; rfl
      refine ⟨.ref a, rfl, vi k, rfl, a, _, _, _, rfl, rfl, hs1, atI_nat hx, _, _, rfl, rfl, ⟨by decide, by decide, by decide⟩, _, _, rfl, rfl, (by show (0 : Int) < 10 ^ (60 : Int).toNat; decide), e1, (ns[k] % (10 : Int) ^ (60 : Int).toNat).toNat, ?_⟩
      have e : (((ns[k] % (10 : Int) ^ (60 : Int).toNat).toNat : Nat) : Int) = ns[k] % (10 : Int) ^ (60 : Int).toNat := Int.toNat_of_nonneg (Int.emod_nonneg _ (by decide))
      show _ = [some (.ref a), some (vi k), some (V.int _), none]
      rw [e]
      rfl
    · exact ⟨e1, 0, rfl⟩
  · rintro σ' H2 ⟨e2, c, rfl⟩
    refine ⟨vi c, rfl, _, _, rfl, rfl, (by show (0 : Int) < 2147483629; decide), _, _, rfl, rfl, .inr ⟨by decide, by decide⟩, vi k, rfl, _, _, rfl, rfl, .inl ⟨by decide, by decide⟩, vi k, rfl, _, _, rfl, rfl, .inr ⟨by omega, by omega⟩, _, _, rfl, rfl, vi k, rfl, _, _, rfl, rfl, .inl ⟨by decide, by decide⟩, _, _, rfl, rfl, _, _, rfl, rfl, _, _, rfl, rfl, (by show (0 : Int) < 2147483645; decide), _, _, rfl, rfl, ?_⟩
    dsimp only
    have hz : ∃ z : Nat, (z : Int) = 1 + ((c : Int) % 2147483629 * 16807 + 40009 * (k : Int) * (k : Int) + 7919 * (k : Int) + 1009) % 2147483645 :=
      ⟨(1 + ((c : Int) % 2147483629 * 16807 + 40009 * (k : Int) * (k : Int) + 7919 * (k : Int) + 1009) % 2147483645).toNat, Int.toNat_of_nonneg (by
        have := Int.emod_nonneg ((c : Int) % 2147483629 * 16807 + 40009 * (k : Int) * (k : Int) + 7919 * (k : Int) + 1009) (b := 2147483645) (by decide)
        omega)⟩
    obtain ⟨z, hz⟩ := hz
    rw [← hz]
    refine q_when (et_test (ev_op (ev_var rfl) (ev_op ev_c ev_c (rv_I ⟨by decide, by decide, by decide⟩)) rv_I0)) (fun hb H3 e3 => ?_) (fun hb H3 e3 => ?_)
    · refine ⟨vi z, rfl, by show 2 ≤ sizeLine; decide, fun p hp => q p _ (fresh_back (e2.trans e3) hp) ((e2.trans e3).trans (Ex.new hp)) ⟨0, z, upd_same⟩⟩
    · refine ⟨vi c, rfl, vi z, rfl, by show 2 ≤ sizeLine; decide, fun p hp => q p _ (fresh_back (e2.trans e3) hp) ((e2.trans e3).trans (Ex.new hp)) ⟨c, z, upd_same⟩⟩

/-! _law_take -/
abbrev sTake : Stmt := topS 17
theorem scTake : FnScope ["bag", "count", "found"] ["bag", "count"] (defScope sTake) := ⟨rfl, rfl, rfl, by decide +kernel, rfl, by decide +kernel, by decide +kernel⟩
def spTake : Sp := fun vs H Q _ => ∃ (p : Addr) (n : Nat), vs = [.ref p, .int n] ∧ Bag H p ∧ 0 < n ∧ n < 100000 ∧ RetB p (fun v _ => ∃ r : Nat, v = vi r ∧ r < n) H Q
theorem ok_take {f : Addr} {fd : FuncData} {k : Nat} (F : Fun K "_law_take" "_law_take" sTake f fd) : FnOk P w K mg base CX0 (k + 1) f fd ["bag", "count"] spTake := by
  refine F.ok scTake (fun vs H Q E h => ?_) (fun cdv A outer s H vs Q E hr h => ?_)
  · obtain ⟨p, n, rfl, _⟩ := h
    rfl
  obtain ⟨p, n, rfl, ⟨c, z, hp⟩, hn, hn2, q⟩ := h
  have hq : SqL K H p [vi c, vi z] := sq_of hp
  refine ⟨_, pss_cons (ps_if (pt_cmpR op_gt (pe_ix ix_list (pv 0) pe_int (fun _ _ => rfl)) pe_int (nomark _))
      (pss_cons (ps_set (i := 2) scTake.nd rfl (.inl rfl) (pe_op op_mod (pe_ix ix_list (pv 0) pe_int (fun _ _ => rfl)) (pv 1)))
      (pss_cons (ps_asg (pe_op op_fdiv (pe_ix ix_list (pv 0) pe_int (fun _ _ => rfl)) (pv 1)) (pg_sub (pv 0) pe_int set_list))
      (pss_one (ps_ret (pv 2))))) pss_nil)
    (pss_cons (ps_asg (pe_op op_mod (pe_op op_mul (pe_ix ix_list (pv 0) pe_int (fun _ _ => rfl)) pe_int) pe_int) (pg_sub (pv 0) pe_int set_list))
    (pss_one (ps_ret (pe_op op_mod (pe_op op_fdiv (pe_op op_mod (pe_op op_mul (pe_op op_fdiv (pe_ix ix_list (pv 0) pe_int (fun _ _ => rfl)) pe_int) (pe_op op_add (pe_op op_mod (pe_ix ix_list (pv 0) pe_int (fun _ _ => rfl)) pe_int) pe_int)) pe_int) pe_int) (pv 1))))), ?_⟩
  refine ⟨.ref p, rfl, p, _, _, vi c, rfl, rfl, hq, atI_nat (j := 0) rfl, _, _, rfl, rfl, _, rfl, ite2 (fun hlt => ?_) (fun hlt => ?_)⟩
  · refine ⟨.ref p, rfl, p, _, _, vi c, rfl, rfl, hq, atI_nat (j := 0) rfl, vi n, rfl, _, _, rfl, rfl, by show (0 : Int) < (n : Int); omega, ?_⟩
    refine ⟨.ref p, rfl, p, _, _, vi c, rfl, rfl, hq, atI_nat (j := 0) rfl, vi n, rfl, _, _, rfl, rfl, ⟨by omega, by omega⟩, .ref p, rfl, p, _, _, 0, rfl, rfl, hp, rfl, ?_⟩
    refine ⟨_, rfl, q _ _ (Bx.refl p H).upd ⟨c / n, z, ?_⟩ ⟨c % n, rfl, Nat.mod_lt _ hn⟩⟩
    rw [upd_same]
    rfl
  · obtain ⟨y, hy⟩ : ∃ y : Nat, (y : Int) = (z : Int) * 48271 % 2147483647 := ⟨z * 48271 % 2147483647, by omega⟩
    refine ⟨.ref p, rfl, p, _, _, vi z, rfl, rfl, hq, atI_nat (j := 1) rfl, _, _, rfl, rfl, .inr ⟨by decide, by decide⟩, _, _, rfl, rfl, by show (0 : Int) < 2147483647; decide, .ref p, rfl, p, _, _, 1, rfl, rfl, hp, rfl, ?_⟩
    dsimp only
    rw [← hy]
    have hp2 : (upd H p (.lst ([vi c, vi z].set 1 (V.int (y : Int))))) p = some (.lst [vi c, vi y]) := upd_same
    have hq2 : SqL K (upd H p (.lst ([vi c, vi z].set 1 (V.int (y : Int))))) p [vi c, vi y] := sq_of hp2
    have bx : Bx p H (upd H p (.lst ([vi c, vi z].set 1 (V.int (y : Int))))) := (Bx.refl p H).upd
    generalize upd H p (.lst ([vi c, vi z].set 1 (V.int (y : Int)))) = H2 at hp2 hq2 bx
    refine ⟨.ref p, rfl, p, _, _, vi y, rfl, rfl, hq2, atI_nat (j := 1) rfl, _, _, rfl, rfl, ⟨by decide, by decide⟩, .ref p, rfl, p, _, _, vi y, rfl, rfl, hq2, atI_nat (j := 1) rfl, _, _, rfl, rfl, by show (0 : Int) < 32749; decide, _, _, rfl, rfl, ?_⟩
    refine ⟨_, _, rfl, rfl, .inr ⟨by omega, by omega⟩, _, _, rfl, rfl, by show (0 : Int) < 2147483629; decide, _, _, rfl, rfl, ⟨by decide, by decide⟩, vi n, rfl, _, _, rfl, rfl, by show (0 : Int) < (n : Int); omega, ?_⟩
    refine q _ _ bx ⟨c, y, hp2⟩ ⟨(y / 13 * (y % 32749 + 17) % 2147483629 / 32) % n, ?_, Nat.mod_lt _ hn⟩
    show V.int _ = V.int _
    rfl
end
end Nr
namespace Nr
open PySem PySem.Spec PyProof.Rows L2 Evl

section
variable {P : Program} {w : World} {K : PySem.W.Frag} {mg : Str → Option Value} {base : Heap}
/-! _law_of -/
abbrev sOf : Stmt := topS 18
theorem scOf : FnScope ["bag", "some"] ["bag", "some"] (defScope sOf) := ⟨rfl, rfl, rfl, by decide +kernel, rfl, by decide +kernel, by decide +kernel⟩
def spOf (K : PySem.W.Frag) : Sp := fun vs H Q _ => ∃ (p l : Addr) (xs : List V), vs = [.ref p, .ref l] ∧ Bag H p ∧ H l = some (.lst xs) ∧ l ≠ p ∧ xs ≠ [] ∧ xs.length ≤ 1000 ∧ RetB p (fun v _ => v ∈ xs) H Q
theorem ok_of {f : Addr} {fd : FuncData} (F : Fun K "_law_of" "_law_of" sOf f fd) (ml : mg "len" = none) {ft : Addr} {fdt : FuncData} (T : Can P w K mg base "_law_take" 1 ft fdt ["bag", "count"] spTake) : FnOk P w K mg base CX0 2 f fd ["bag", "some"] (spOf K) := by
  refine F.ok scOf (fun vs H Q E h => ?_) (fun cdv A outer s H vs Q E hr h => ?_)
  · obtain ⟨p, l, xs, rfl, _⟩ := h
    rfl
  obtain ⟨p, l, xs, rfl, hb, hl, hne, hx, hx2, q⟩ := h
  have h0 : 0 < xs.length := List.length_pos_iff.mpr hx
  refine ⟨_, pss_one (ps_ret (pe_ix ix_list (pv 1) (pcall T hr (pa_cons (pv 0) (pa_cons (pe_callB call_len_seq (by rfl) ml PySem.boot_len (pa_cons (pv 1) pa_nil)) pa_nil))) (fun _ _ => rfl))), ?_⟩
  refine ⟨.ref l, rfl, .ref p, rfl, .ref l, rfl, l, xs, rfl, .inl (sq_of hl), p, xs.length, rfl, hb, h0, by omega, ?_⟩
  rintro v H2 bx hb2 ⟨r, rfl, hr2⟩
  exact ⟨l, xs, _, _, rfl, rfl, sq_of (bx _ _ hne hl), atI_nat (List.getElem?_eq_getElem hr2), q _ _ bx hb2 (List.getElem_mem hr2)⟩

/-! _law_winding -/
abbrev sWind : Stmt := topS 19
theorem scWind : FnScope ["bag", "girth"] ["bag"] (defScope sWind) := ⟨rfl, rfl, rfl, by decide +kernel, rfl, by decide +kernel, by decide +kernel⟩
def IsWd (K : PySem.W.Frag) (v : V) (H : Hp) : Prop := ∃ g h e : Nat, 4 ≤ g ∧ g ≤ 16 ∧ h ≤ 8 ∧ e ≤ 1 ∧ Dp K H v (wD g h e)
def spWind (K : PySem.W.Frag) : Sp := fun vs H Q _ => ∃ p : Addr, vs = [.ref p] ∧ Bag H p ∧ RetB p (IsWd K) H Q
theorem bag_ne {H : Hp} {p q : Addr} (b : Bag H p) (n : H q = none) : q ≠ p := by
  obtain ⟨c, s, h⟩ := b
  exact (ne_of_none h n).symm
theorem ok_wind {f : Addr} {fd : FuncData} (F : Fun K "_law_winding" "_law_winding" sWind f fd) {ft : Addr} {fdt : FuncData} (T : Can P w K mg base "_law_take" 1 ft fdt ["bag", "count"] spTake)
    {fo : Addr} {fdo : FuncData} (O : Can P w K mg base "_law_of" 2 fo fdo ["bag", "some"] (spOf K)) : FnOk P w K mg base CX0 3 f fd ["bag"] (spWind K) := by
  refine F.ok scWind (fun vs H Q E h => ?_) (fun cdv A outer s H vs Q E hr h => ?_)
  · obtain ⟨p, rfl, _⟩ := h
    rfl
  obtain ⟨p, rfl, hb, q⟩ := h
  refine ⟨_, pss_cons (ps_set (i := 1) scWind.nd rfl (.inl rfl) (pe_op op_add pe_int (pcall O hr (pa_cons (pv 0) (pa_cons (pe_lst (pa_cons (pcall T hr (pa_cons (pv 0) (pa_cons pe_int pa_nil))) (pa_cons (pcall T hr (pa_cons (pv 0) (pa_cons pe_int pa_nil))) pa_nil))) pa_nil)))))
    (pss_one (ps_ret (pe_tup (pa_cons (pv 1) (pa_cons (pcall O hr (pa_cons (pv 0) (pa_cons (pe_lst (pa_cons pe_int (pa_cons pe_int (pa_cons pe_int (pa_cons (pcall T hr (pa_cons (pv 0) (pa_cons pe_int pa_nil))) pa_nil))))) pa_nil)))
      (pa_cons (pcall T hr (pa_cons (pv 0) (pa_cons pe_int pa_nil))) pa_nil)))))), ?_⟩
  refine ⟨.ref p, rfl, .ref p, rfl, p, 13, rfl, hb, by decide, by decide, ?_⟩
  rintro _ H1 b1 hb1 ⟨r1, rfl, hr1⟩
  refine ⟨.ref p, rfl, p, 4, rfl, hb1, by decide, by decide, ?_⟩
  rintro _ H2 b2 hb2 ⟨r2, rfl, hr2⟩
  refine ⟨by show 2 ≤ sizeLine; decide, fun l hl => ?_⟩
  refine ⟨p, l, _, rfl, hb2.ex (Ex.new hl), upd_same, bag_ne hb2 hl, by simp, by show 2 ≤ 1000; decide, ?_⟩
  intro v H3 b3 hb3 hv
  obtain ⟨r, rfl, hr3⟩ : ∃ r : Nat, v = vi r ∧ r < 13 := by
    rcases List.mem_cons.mp hv with rfl | hv
    · exact ⟨r1, rfl, hr1⟩
    · rw [List.mem_singleton.mp hv]; exact ⟨r2, rfl, by omega⟩
  have B3 : Bx p H H3 := (b1.trans b2).trans ((Bx.of (Ex.new hl)).trans b3)
  refine ⟨_, _, rfl, rfl, .int (4 + (r : Int)), rfl, .ref p, rfl, .ref p, rfl, p, 9, rfl, hb3, by decide, by decide, ?_⟩
  rintro _ H4 b4 hb4 ⟨r4, rfl, hr4⟩
  refine ⟨by show 4 ≤ sizeLine; decide, fun l2 hl2 => ?_⟩
  refine ⟨p, l2, _, rfl, hb4.ex (Ex.new hl2), upd_same, bag_ne hb4 hl2, by simp, by show 4 ≤ 1000; decide, ?_⟩
  intro v H5 b5 hb5 hv
  obtain ⟨h, rfl, hh⟩ : ∃ r : Nat, v = vi r ∧ r ≤ 8 := by
    rcases List.mem_cons.mp hv with rfl | hv
    · exact ⟨0, rfl, by decide⟩
    rcases List.mem_cons.mp hv with rfl | hv
    · exact ⟨1, rfl, by decide⟩
    rcases List.mem_cons.mp hv with rfl | hv
    · exact ⟨2, rfl, by decide⟩
    · rw [List.mem_singleton.mp hv]; exact ⟨r4, rfl, by omega⟩
  refine ⟨.ref p, rfl, p, 2, rfl, hb5, by decide, by decide, ?_⟩
  rintro _ H6 b6 hb6 ⟨e, rfl, he⟩
  refine ⟨by show 3 ≤ sizeLine; decide, fun t ht => ?_⟩
  refine q _ _ (B3.trans ((b4.trans (Bx.of (Ex.new hl2))).trans (b5.trans (b6.trans (Bx.of (Ex.new ht)))))) (hb6.ex (Ex.new ht)) ⟨4 + r, h, e, by omega, by omega, hh, by omega, .tup (st_of upd_same) (.cons ?_ (.cons (.int _) (.cons (.int _) .nil)))⟩
  have : ((4 + r : Nat) : Int) = 4 + (r : Int) := by omega
  show Dp K _ (V.int (4 + (r : Int))) (.int ((4 + r : Nat) : Int))
  rw [this]
  exact .int _

/-! _law_lowest -/
abbrev sLow2 : Stmt := topS 20
theorem scLow2 : FnScope ["top", "bottom", "one", "other"] ["top", "bottom"] (defScope sLow2) := ⟨rfl, rfl, rfl, by decide +kernel, rfl, by decide +kernel, by decide +kernel⟩
def spLow2 : Sp := fun vs H Q _ => ∃ a b : Nat, vs = [.int a, .int b] ∧ 0 < b ∧ b < 1073741824 ∧ ∀ t H2, Ex H H2 → H2 t = some (.tup [vi (a / Nat.gcd a b), vi (b / Nat.gcd a b)]) → Q (.ref t) H2
theorem ok_low2 {f : Addr} {fd : FuncData} {k : Nat} (F : Fun K "_law_lowest" "_law_lowest" sLow2 f fd) : FnOk P w K mg base CX0 (k + 1) f fd ["top", "bottom"] spLow2 := by
  refine F.ok scLow2 (fun vs H Q E h => ?_) (fun cdv A outer s H vs Q E hr h => ?_)
  · obtain ⟨a, b, rfl, _⟩ := h
    rfl
  obtain ⟨a, b, rfl, hb, hb2, q⟩ := h
  have hg := gcd_lt (a := a) hb hb2
  refine ⟨_, pss_cons (ps_par (i := 2) (j := 3) (by rfl) scLow2.nd rfl rfl (by decide) rfl rfl (pa_cons (pv 0) (pa_cons (pv 1) pa_nil)) (by rfl))
    (pss_cons (ps_while PassesOwn.never (pt_cmpR op_ne (pv 3) pe_int (nomark _))
      (pss_one (ps_par (i := 2) (j := 3) (by rfl) scLow2.nd rfl rfl (by decide) rfl rfl (pa_cons (pv 3) (pa_cons (pe_op op_mod (pv 2) (pv 3)) pa_nil)) (by rfl))))
    (pss_one (ps_ret (pe_tup (pa_cons (pe_op op_fdiv (pv 0) (pv 2)) (pa_cons (pe_op op_fdiv (pv 1) (pv 2)) pa_nil)))))), ?_⟩
  refine ⟨vi a, rfl, vi b, rfl, vi a, vi b, rfl, ?_⟩
  refine q_while (fun m σ' H' => ∃ c d : Nat, σ' = [some (vi a), some (vi b), some (vi c), some (vi d)] ∧ Nat.gcd c d = Nat.gcd a b ∧ m = d ∧ Ex H H') b ⟨a, b, rfl, rfl, rfl, Ex.refl H⟩ ?_
  rintro m σ' H' ⟨c, d, rfl, hcd, rfl, hx⟩
  refine ⟨_, et_test (ev_op (ev_var rfl) ev_c (rv_ne rfl)), fun hb H1 e1 => ?_, fun hb H1 e1 => ?_⟩
  · have hd : m ≠ 0 := by
      rintro rfl
      simp at hb
    refine ⟨fun σ2 H2 => ∃ c d : Nat, σ2 = [some (vi a), some (vi b), some (vi c), some (vi d)] ∧ Nat.gcd c d = Nat.gcd a b ∧ d < m ∧ Ex H H2, ?_, ?_⟩
    · rintro σ2 H2 ⟨c2, d2, rfl, g2, l2, x2⟩
      exact ⟨d2, l2, c2, d2, rfl, g2, rfl, x2⟩
    · refine ⟨vi m, rfl, vi c, rfl, vi m, rfl, c, m, rfl, rfl, by show (0 : Int) < (m : Int); omega, vi m, .int ((c : Int) % (m : Int)), rfl, m, c % m, rfl, ?_, Nat.mod_lt _ (by omega), hx.trans e1⟩
      rw [← hcd, Nat.gcd_comm c m, Nat.gcd_rec m c, Nat.gcd_comm]
  · have hd : m = 0 := by
      simp at hb
      omega
    subst hd
    have ec : c = Nat.gcd a b := by rw [← hcd]; simp
    subst ec
    refine ⟨vi a, rfl, .int (Nat.gcd a b : Nat), rfl, _, _, rfl, rfl, ⟨by omega, by omega⟩, vi b, rfl, .int (Nat.gcd a b : Nat), rfl, _, _, rfl, rfl, ⟨by omega, by omega⟩, by show 2 ≤ sizeLine; decide, fun t ht => ?_⟩
    exact q _ _ ((hx.trans e1).trans (Ex.new ht)) upd_same

/-! _law_angle -/
abbrev sAngle : Stmt := topS 21
theorem scAngle : FnScope ["bag", "bottom"] ["bag"] (defScope sAngle) := ⟨rfl, rfl, rfl, by decide +kernel, rfl, by decide +kernel, by decide +kernel⟩
def IsAng (K : PySem.W.Frag) (v : V) (H : Hp) : Prop := ∃ t b : Nat, t < b ∧ b ≤ 1000 ∧ Nat.gcd t b = 1 ∧ Dp K H v (td (t, b))
def spAngle (K : PySem.W.Frag) : Sp := fun vs H Q _ => ∃ p : Addr, vs = [.ref p] ∧ Bag H p ∧ RetB p (IsAng K) H Q
theorem ok_angle {f : Addr} {fd : FuncData} (F : Fun K "_law_angle" "_law_angle" sAngle f fd) {ft : Addr} {fdt : FuncData} (T : Can P w K mg base "_law_take" 1 ft fdt ["bag", "count"] spTake)
    {fo : Addr} {fdo : FuncData} (O : Can P w K mg base "_law_of" 2 fo fdo ["bag", "some"] (spOf K)) {fl : Addr} {fdl : FuncData} (L : Can P w K mg base "_law_lowest" 1 fl fdl ["top", "bottom"] spLow2) :
    FnOk P w K mg base CX0 3 f fd ["bag"] (spAngle K) := by
  refine F.ok scAngle (fun vs H Q E h => ?_) (fun cdv A outer s H vs Q E hr h => ?_)
  · obtain ⟨p, rfl, _⟩ := h
    rfl
  obtain ⟨p, rfl, hb, q⟩ := h
  refine ⟨_, pss_cons (ps_set (i := 1) scAngle.nd rfl (.inl rfl) (pe_op op_add pe_int (pcall O hr (pa_cons (pv 0) (pa_cons (pe_lst (pa_cons (pcall T hr (pa_cons (pv 0) (pa_cons pe_int pa_nil))) (pa_cons (pcall T hr (pa_cons (pv 0) (pa_cons pe_int pa_nil))) pa_nil))) pa_nil)))))
    (pss_one (ps_ret (pcall L hr (pa_cons (pcall T hr (pa_cons (pv 0) (pa_cons (pv 1) pa_nil))) (pa_cons (pv 1) pa_nil))))), ?_⟩
  refine ⟨.ref p, rfl, .ref p, rfl, p, 12, rfl, hb, by decide, by decide, ?_⟩
  rintro _ H1 b1 hb1 ⟨r1, rfl, hr1⟩
  refine ⟨.ref p, rfl, p, 1000, rfl, hb1, by decide, by decide, ?_⟩
  rintro _ H2 b2 hb2 ⟨r2, rfl, hr2⟩
  refine ⟨by show 2 ≤ sizeLine; decide, fun l hl => ?_⟩
  refine ⟨p, l, _, rfl, hb2.ex (Ex.new hl), upd_same, bag_ne hb2 hl, by simp, by show 2 ≤ 1000; decide, ?_⟩
  intro v H3 b3 hb3 hv
  obtain ⟨r, rfl, hr3⟩ : ∃ r : Nat, v = vi r ∧ r < 1000 := by
    rcases List.mem_cons.mp hv with rfl | hv
    · exact ⟨r1, rfl, by omega⟩
    · rw [List.mem_singleton.mp hv]; exact ⟨r2, rfl, hr2⟩
  have B3 : Bx p H H3 := (b1.trans b2).trans ((Bx.of (Ex.new hl)).trans b3)
  refine ⟨_, _, rfl, rfl, ?_⟩
  have eb : (1 : Int) + (r : Int) = ((1 + r : Nat) : Int) := by omega
  dsimp only
  rw [eb]
  refine ⟨.ref p, rfl, vi (1 + r), rfl, p, 1 + r, rfl, hb3, by omega, by omega, ?_⟩
  rintro _ H4 b4 hb4 ⟨t, rfl, ht⟩
  refine ⟨vi (1 + r), rfl, t, 1 + r, rfl, by omega, by omega, ?_⟩
  intro v H5 e5 hd0
  have hd : Dp K H5 (.ref v) (td (t / Nat.gcd t (1 + r), (1 + r) / Nat.gcd t (1 + r))) := .tup (st_of hd0) (.cons (.int _) (.cons (.int _) .nil))
  have hg0 : 0 < Nat.gcd t (1 + r) := Nat.gcd_pos_of_pos_right _ (by omega)
  refine q _ _ (B3.trans (b4.trans (Bx.of e5))) (hb4.ex e5) ⟨t / Nat.gcd t (1 + r), (1 + r) / Nat.gcd t (1 + r), ?_, ?_, ?_, hd⟩
  · exact Nat.div_lt_div_of_lt_of_dvd (Nat.gcd_dvd_right _ _) ht
  · exact Nat.le_trans (Nat.div_le_self _ _) (by omega)
  · exact Nat.gcd_div_gcd_div_gcd_of_pos_right (by omega)
end
end Nr
namespace Nr
open PySem PySem.Spec PyProof.Rows L2 Evl

def foundL (n e t b : Nat) (l : List (Nat × Nat)) : List Nat := ((l.map (placeN t b)).filter (fun p => decide (p < n))).map (fun p => if e = 0 then p else n - 1 - p)
theorem foundL_yes {n e t b : Nat} {l : List (Nat × Nat)} {q : Nat × Nat} (h : placeN t b q < n) : foundL n e t b (l ++ [q]) = foundL n e t b l ++ [if e = 0 then placeN t b q else n - 1 - placeN t b q] := by
  unfold foundL
  rw [List.map_append, List.filter_append, List.map_append]
  simp [h]
theorem foundL_no {n e t b : Nat} {l : List (Nat × Nat)} {q : Nat × Nat} (h : ¬ placeN t b q < n) : foundL n e t b (l ++ [q]) = foundL n e t b l := by
  unfold foundL
  rw [List.map_append, List.filter_append, List.map_append]
  simp [h]
theorem foundL_len {n e t b : Nat} (l : List (Nat × Nat)) : (foundL n e t b l).length ≤ l.length := by
  unfold foundL
  rw [List.length_map]
  refine Nat.le_trans (List.length_filter_le _ _) ?_
  rw [List.length_map]
  exact Nat.le_refl _
theorem foundL_perm {n g h e t b : Nat} (he : e ≤ 1) : (foundL n e t b (turnsM n g h)).Perm (pricksM n g h e t b) := by
  unfold foundL pricksM
  rcases Nat.lt_or_ge e 1 with z | z
  · have : e = 0 := by omega
    subst this
    rw [if_neg (by decide)]
    simp only [if_true, List.map_id']
    exact List.Perm.refl _
  · have : e = 1 := by omega
    subst this
    rw [if_pos rfl]
    simp only [Nat.one_ne_zero, if_false]
    exact (List.reverse_perm _).symm
theorem sorted_is {ns : List Int} {ks ms : List Nat} (hp : ns.Perm (ks.map fun k : Nat => (k : Int))) (hk : ks.Perm ms) (ho : ns.Pairwise (· ≤ ·)) (hm : ms.Pairwise (· < ·)) : ns = ms.map fun k : Nat => (k : Int) :=
  PySem.W.ksm_same (hp.trans (hk.map _)) ho (List.pairwise_map.mpr (hm.imp fun {a b} lt => by omega))

section
variable {P : Program} {w : World} {K : PySem.W.Frag} {mg : Str → Option Value} {base : Heap}
abbrev sLPr : Stmt := topS 22
theorem scLPr : FnScope ["many", "winding", "angle", "found", "begin", "length", "point", "cell"] ["many", "winding", "angle"] (defScope sLPr) := ⟨rfl, rfl, rfl, by decide +kernel, rfl, by decide +kernel, by decide +kernel⟩
def spLPr (K : PySem.W.Frag) : Sp := fun vs H Q _ => ∃ (n g h e t b : Nat) (v u : V), vs = [.int n, v, u] ∧ Dp K H v (wD g h e) ∧ Dp K H u (td (t, b)) ∧ 2 ≤ g ∧ g ≤ 1000 ∧ h ≤ 1000 ∧ e ≤ 1 ∧ n ≤ 31 ∧ 0 < b ∧ b < 2 ^ 200 ∧ t < 2 ^ 200 ∧
  RetL ((pricksM n g h e t b).map vi) H Q
theorem ok_lpr {f : Addr} {fd : FuncData} {k : Nat} (F : Fun K "_law_pricked" "_law_pricked" sLPr f fd) (ms : mg "sorted" = none) : FnOk P w K mg base CX0 (k + 1) f fd ["many", "winding", "angle"] (spLPr K) := by
  refine F.ok scLPr (fun vs H Q E h => ?_) (fun cdv A outer s H vs Q E hr h => ?_)
  · obtain ⟨n, g, h, e, t, b, v, u, rfl, _⟩ := h
    rfl
  obtain ⟨n, g, h, e, t, b, v, u, rfl, hw, hu, hg, hg2, hh, he, hn, hb, hb2, ht2, q⟩ := h
  obtain ⟨wa, rfl, hwq⟩ := wd_get hw
  obtain ⟨ua, rfl, huq⟩ := td_get hu
  have A0 : ∀ {X : Cx} {pos p2 : Pos}, True := trivial
  refine ⟨_, pss_cons (ps_par3 (i := 3) (j := 4) (l := 5) (by rfl) scLPr.nd rfl rfl rfl (by decide) (by decide) (by decide) rfl rfl rfl (pa_cons (pe_lst pa_nil) (pa_cons pe_int (pa_cons (pe_ix ix_tup (pv 1) pe_int (fun _ _ => rfl)) pa_nil))) (by rfl))
    (pss_cons (ps_while PassesOwn.never (pt_cmpR op_lt (pv 4) (pe_op op_mul pe_int (pv 0)) (nomark _))
      (pss_cons (ps_set (i := 6) scLPr.nd rfl (.inl rfl) (pe_op op_add (pe_op op_mulW (pv 4) (pe_ix ix_tup (pv 2) pe_int (fun _ _ => rfl))) (pe_op op_mulW (pe_ix ix_tup (pv 2) pe_int (fun _ _ => rfl)) (pv 5))))
      (pss_cut (ps_if (pt_cmpR op_lt (pv 6) (pe_op op_mulW (pe_op op_mul pe_int (pv 0)) (pe_ix ix_tup (pv 2) pe_int (fun _ _ => rfl))) (nomark _))
        (pss_cons (ps_set (i := 7) scLPr.nd rfl (.inl rfl) (pe_op op_fdivW (pv 6) (pe_op op_mul pe_int (pe_ix ix_tup (pv 2) pe_int (fun _ _ => rfl)))))
        (pss_one (ps_expr (pe_bm PySem.F.plainAttrs_list PySem.F.slot_list_append PySem.F.type_list_append mt_append (pv 3) (pa_cons (pe_ifExp (pt_cmpR op_eq (pe_ix ix_tup (pv 1) pe_int (fun _ _ => rfl)) pe_int (nomark _)) (pv 7) (pe_op op_sub (pe_op op_sub (pv 0) pe_int) (pv 7))) pa_nil))))) pss_nil)
      (pss_one (ps_par (i := 4) (j := 5) (by rfl) scLPr.nd rfl rfl (by decide) rfl rfl (pa_cons (pe_op op_add (pv 4) (pv 5)) (pa_cons (pe_op op_add (pv 5) (pe_ix ix_tup (pv 1) pe_int (fun _ _ => rfl))) pa_nil)) (by rfl))))))
    (pss_one (ps_ret (pe_callB cr_sorted (by rfl) ms boot_sorted (pa_cons (pv 3) pa_nil))))), ?_⟩
  refine ⟨Nat.zero_le _, fun D hD => ?_⟩
  have ex0 : Ex H (upd H D (.lst [])) := Ex.new hD
  refine ⟨.ref wa, rfl, wa, _, _, vi g, rfl, rfl, ex_t ex0 hwq, atI_nat (j := 0) rfl, .ref D, .int 0, vi g, rfl, ?_⟩
  refine q_while (fun m σ' H' => ∃ (bg l fu : Nat) (pre : List (Nat × Nat)) (y6 y7 : Option V), σ' = [some (vi n), some (.ref wa), some (.ref ua), some (.ref D), some (vi bg), some (vi l), y6, y7] ∧
    turnsM n g h = pre ++ turnsF fu (2 * n) bg l h ∧ 2 * n - bg ≤ fu ∧ 2 ≤ l ∧ l ≤ g + bg * h ∧ m = 2 * n - bg ∧ Ex H H' ∧ H' D = some (.lst ((foundL n e t b pre).map vi))) (2 * n)
    ⟨0, g, 2 * n, [], none, none, rfl, rfl, by omega, hg, by omega, by omega, ex0, upd_same⟩ ?_
  rintro m σ' H' ⟨bg, l, fu, pre, y6, y7, rfl, hT, hfu, hl2, hlg, rfl, ex, hDx⟩
  refine ⟨_, et_test (ev_op (ev_var rfl) (ev_op ev_c (ev_var rfl) (rv_I (.inl ⟨by decide, by decide⟩))) rv_I0), fun hbb H1 e1 => ?_, fun hbb H1 e1 => ?_⟩
  · have hbg : bg < 2 * n := by
      simp at hbb
      omega
    obtain ⟨fu, rfl⟩ : ∃ k, fu = k + 1 := ⟨fu - 1, by omega⟩
    rw [turnsF, if_pos hbg] at hT
    have hprelen : pre.length ≤ 2 * n := by
      have l2 := congrArg List.length hT
      have l3 := turnsF_len (2 * n) (2 * n) 0 g h
      rw [List.length_append] at l2
      unfold turnsM at l2
      omega
    have hlb : l ≤ 100000 := by
      have : bg * h ≤ 62 * 1000 := Nat.mul_le_mul (by omega) hh
      omega
    have exx := ex.trans e1
    obtain ⟨b0, eb0⟩ : ∃ b0, b0 = bg := ⟨bg, rfl⟩
    rw [show 2 * n - bg = 2 * n - b0 by rw [eb0]]
    refine ⟨fun σ2 H2 => ∃ (bg l fu : Nat) (pre : List (Nat × Nat)) (y6 y7 : Option V), σ2 = [some (vi n), some (.ref wa), some (.ref ua), some (.ref D), some (vi bg), some (vi l), y6, y7] ∧
      turnsM n g h = pre ++ turnsF fu (2 * n) bg l h ∧ 2 * n - bg ≤ fu ∧ 2 ≤ l ∧ l ≤ g + bg * h ∧ 2 * n - bg < 2 * n - b0 ∧ Ex H H2 ∧ H2 D = some (.lst ((foundL n e t b pre).map vi)), ?_, ?_⟩
    · rintro σ2 H2 ⟨a1, a2, a3, a4, a5, a6, h1, h2, h3, h4, h5, h6, h7, h8⟩
      exact ⟨_, h6, a1, a2, a3, a4, a5, a6, h1, h2, h3, h4, h5, rfl, h7, h8⟩
    have hu1 := ex_t exx huq
    have hw1 := ex_t exx hwq
    have w1 : CMulW (bg : Int) (b : Int) := wide_mul (a := 64) (b := 200) (by omega) (by omega) (by decide) (by decide) (by decide)
    have w2 : CMulW (t : Int) (l : Int) := wide_mul (a := 200) (b := 64) (by omega) (by omega) (by decide) (by decide) (by decide)
    have w3 : CMulW (2 * (n : Int)) (b : Int) := wide_mul (a := 64) (b := 200) (by omega) (by omega) (by decide) (by decide) (by decide)
    refine q_asg (v := .int ((bg : Int) * (b : Int) + (t : Int) * (l : Int))) (ev_op (ev_op (ev_var rfl) (ev_op (ev_var rfl) ev_c (rv_ixT hu1 (atI_nat (j := 1) rfl))) (rv_I w1)) (ev_op (ev_op (ev_var rfl) ev_c (rv_ixT hu1 (atI_nat (j := 0) rfl))) (ev_var rfl) (rv_I w2)) rv_I0) fun H2 e2 => ?_
    have hu2 := ex_t e2 hu1
    have hw2 := ex_t e2 hw1
    refine q_cut (M := fun σ2 H2 => ∃ y7, σ2 = [some (vi n), some (.ref wa), some (.ref ua), some (.ref D), some (vi bg), some (vi l), some (.int ((bg : Int) * (b : Int) + (t : Int) * (l : Int))), y7] ∧ Ex H H2 ∧ H2 D = some (.lst ((foundL n e t b (pre ++ [(bg, l)])).map vi))) ?_ ?_
    · have hpt : (bg : Int) * (b : Int) + (t : Int) * (l : Int) = ((bg * b + l * t : Nat) : Int) := by
        rw [Int.natCast_add, Int.natCast_mul, Int.natCast_mul, Int.mul_comm (t : Int)]
      have hdiv : placeN t b (bg, l) < n ↔ bg * b + l * t < n * (2 * b) := Nat.div_lt_iff_lt_mul (by omega)
      have hnb : 2 * (n : Int) * (b : Int) = ((n * (2 * b) : Nat) : Int) := by
        rw [Int.natCast_mul, Int.natCast_mul]
        show 2 * (n : Int) * (b : Int) = (n : Int) * (2 * (b : Int))
        rw [Int.mul_comm 2 (n : Int), Int.mul_assoc]
      refine s_when (et_test (ev_op (ev_var rfl) (ev_op (ev_op ev_c (ev_var rfl) (rv_I (.inl ⟨by decide, by decide⟩))) (ev_op (ev_var rfl) ev_c (rv_ixT hu2 (atI_nat (j := 1) rfl))) (rv_I w3)) rv_I0)) (fun hc H3 e3 => ?_) (fun hc H3 e3 => ?_)
      · have hc := of_decide_eq_true hc
        rw [hpt, hnb] at hc
        have hlt : placeN t b (bg, l) < n := hdiv.mpr (by omega)
        have hu3 := ex_t e3 hu2
        have hw3 := ex_t e3 hw2
        have w4 : CDivW ((bg : Int) * (b : Int) + (t : Int) * (l : Int)) (2 * (b : Int)) := wide_div (b := 201) (by omega) (by omega) (by decide) (by decide)
        refine q_asg (v := vi (placeN t b (bg, l))) (ev_is (ev_op (ev_var rfl) (ev_op ev_c (ev_op (ev_var rfl) ev_c (rv_ixT hu3 (atI_nat (j := 1) rfl))) (rv_I (.inl ⟨by decide, by decide⟩))) (rv_I w4)) ?_) fun H4 e4 => ?_
        · show V.int _ = V.int _
          rw [hpt]
          rfl
        · have hw4 := ex_t e4 hw3
          refine s_app (v := vi (if e = 0 then placeN t b (bg, l) else n - 1 - placeN t b (bg, l))) (((e2.trans e3).trans e4) _ _ (e1 _ _ hDx)) (ev_var rfl) (ev_if (et_test (ev_op (ev_op (ev_var rfl) ev_c (rv_ixT hw4 (atI_nat (j := 2) rfl))) ev_c (rv_eq rfl))) (fun hz => ?_) (fun hz => ?_)) ?_ fun H5 e5 => ?_
          · refine ev_is (ev_var rfl) ?_
            simp at hz
            rw [if_pos (by omega)]
          · refine ev_is (ev_op (ev_op (ev_var rfl) ev_c rv_I0) (ev_var rfl) rv_I0) ?_
            simp at hz
            rw [if_neg (by omega)]
            show V.int _ = V.int _
            congr 1
            omega
          · rw [List.length_map]
            have := foundL_len (n := n) (e := e) (t := t) (b := b) pre
            omega
          · refine ⟨_, rfl, Ex.mut (exx.trans ((e2.trans e3).trans (e4.trans e5))) hD, ?_⟩
            rw [upd_same, foundL_yes hlt, List.map_append]
            rfl
      · have hc := of_decide_eq_false hc
        rw [hpt, hnb] at hc
        have hlt : ¬ placeN t b (bg, l) < n := fun z => hc (by have := hdiv.mp z; omega)
        refine ⟨_, rfl, exx.trans (e2.trans e3), ?_⟩
        rw [foundL_no hlt]
        exact (e2.trans e3) _ _ (e1 _ _ hDx)
    · rintro σ2 H3 ⟨y7, rfl, ex3, hD3⟩
      refine ⟨vi bg, rfl, vi l, rfl, _, _, rfl, rfl, vi l, rfl, .ref wa, rfl, wa, _, _, vi h, rfl, rfl, ex_t ex3 hwq, atI_nat (j := 1) rfl, _, _, rfl, rfl, _, _, rfl, ?_⟩
      refine ⟨bg + l, l + h, fu, pre ++ [(bg, l)], _, _, rfl, ?_, by omega, by omega, ?_, by omega, ex3, hD3⟩
      · rw [hT, List.append_assoc]; rfl
      · have : h ≤ l * h := by
          have := Nat.mul_le_mul_right h (show 1 ≤ l by omega)
          omega
        rw [Nat.add_mul]
        omega
  · have hbg : ¬ bg < 2 * n := by
      simp at hbb
      omega
    rw [turnsF_done _ _ _ _ _ hbg, List.append_nil] at hT
    subst hT
    have hlen := foundL_len (n := n) (e := e) (t := t) (b := b) (turnsM n g h)
    have hlen2 : (turnsM n g h).length ≤ 2 * n := turnsF_len _ _ _ _ _
    refine ⟨.ref D, rfl, D, (foundL n e t b (turnsM n g h)).map (fun k : Nat => (k : Int)), rfl, ?_, ?_, fun ns p hp ho hpf => ?_⟩
    · rw [List.map_map]
      exact sq_of (e1 _ _ hDx)
    · rw [List.length_map]
      omega
    · have en := sorted_is hp (foundL_perm he) ho (pricks_sorted hb hg)
      refine q p _ (fresh_back (ex.trans e1) hpf) ((ex.trans e1).trans (Ex.new hpf)) ?_
      rw [upd_same, en, List.map_map]
      rfl
end
end Nr
namespace Nr
open PySem PySem.Spec PyProof.Rows L2 Evl

/-! lambda x: x[0] * 10 ** 9 // x[1], called on a pair of ints -/
def keyBody (x : Str) (p1 p2 p3 p4 p5 p6 p7 p8 p9 p10 p11 : Pos) (j1 j2 j3 j4 : Nat) : Expr :=
  .BinOp (.BinOp (.Subscript (.Name x p1) (.Constant (.int 0) j1 p2) p3) .Mult (.BinOp (.Constant (.int 10) j2 p4) .Pow (.Constant (.int 9) j3 p5) p6) p7) .FloorDiv (.Subscript (.Name x p8) (.Constant (.int 1) j4 p9) p10) p11
def keyI (a b : Int) : Int := (a * 1000000000) / b
section
variable {prog : Program} {w : World} {A : Around} {E : Value → Shared → Prop} {s : Shared}
theorem key_call {x q : Str} {params : Arguments} {scope : Scope} {pm ctv : Value} {f c' t : Addr} {a b : Int} {ta tb : Tok} {Q : Value → Shared → Prop} {p1 p2 p3 p4 p5 p6 p7 p8 p9 p10 p11 : Pos} {j1 j2 j3 j4 : Nat}
    (hroom : A.depth < recursionLimit) (hf : s.heap.get? f = some (PySem.W.kla_obj "<lambda>" q params (keyBody x p1 p2 p3 p4 p5 p6 p7 p8 p9 p10 p11 j1 j2 j3 j4) scope [] pm c' ctv)) (hcd : s.heap.CodeRec (.ref c') q) (hlim : s.heap.NoLimit)
    (ht : IsTup s.heap t #[.int a ta, .int b tb]) (ha : a.natAbs < 2 ^ 60) (hb0 : 0 < b) (hb : b < 1073741824)
    (hbind : bindArgs (PySem.W.kla_fn "<lambda>" q params (keyBody x p1 p2 p3 p4 p5 p6 p7 p8 p9 p10 p11 j1 j2 j3 j4) scope [] pm (.ref c') ctv) ⟨[.ref t], []⟩ = pure [(x, .ref t)])
    (hco : scope.isCoroutine = false) (hgen : scope.isGenerator = false) (hk : scope.kind = .function) (hcell : ∀ y ∈ scope.names, y.2 ≠ .cell) (hx : scope.names.lookup x = some .local) (hdb : (x == ("__debug__" : Str)) = false)
    (h : ∀ h' tk t', (∀ b o, s.heap.get? b = some o → h'.get? b = some o) → Q (.int (keyI a b) t') { s with heap := h', toks := tk }) :
    wpAny (model prog w) A (call (.ref f) [.ref t]) Q E s := by
  refine wpAny_call (PySem.W.kla_callFunE hroom hf rfl hco hgen rfl hcd ?_)
  rw [hbind]
  refine wpAny_pure (wpAny_newFunctionEnv hcell (fun y hy => by rw [List.mem_singleton.mp hy]; exact hx) (fun h1 hns hsb => ⟨hlim.fresh _ hsb, ?_⟩) hk)
  have kp : ∀ b o, s.heap.get? b = some o → h1.get? b = some o := fun b o e => hsb.extBut b o (Nat.ne_of_lt (Heap.lt_size e)) (Heap.get?_push_of_some _ e)
  change codeAny _ _ (.expr (keyBody x p1 p2 p3 p4 p5 p6 p7 p8 p9 p10 p11 j1 j2 j3 j4) (envOf q scope s.heap.objs.size f (.ref c'))) _ _
  refine PySem.W.kla_codeExpr ?_
  have F : Fr s.heap s.heap.objs.size h1 (fun y => [(x, Value.ref t)].reverse.lookup y) := ⟨hns, kp, Nat.le_refl _⟩
  have hv : (fun y => [(x, Value.ref t)].reverse.lookup y) x = some (Value.ref t) := by simp
  have hkx : (envOf q scope s.heap.objs.size f (.ref c')).kindOf x = some .local := hx
  have ht1 : IsTup h1 t #[.int a ta, .int b tb] := by
    obtain ⟨o, e, r⟩ := ht
    exact ⟨o, kp t o e, r⟩
  unfold keyBody
  refine wpAny_BinOp (wpAny_BinOp (Subscript_ (ld (s := { s with heap := h1, toks := s.toks + [(x, Value.ref t)].length }) F hv (wpAny_Constant_int ?_) hk hkx hdb)))
  refine item_tuple (j := 0) ht1 (by decide) (by decide) rfl rfl ?_
  refine wpAny_BinOp (wpAny_Constant_int (wpAny_Constant_int (pow_int_small (by decide) (by decide) (by decide) ?_)))
  refine mul_int ?_ ?_
  · refine Subscript_ (ld (s := { s with heap := h1, toks := _ }) F hv (wpAny_Constant_int ?_) hk hkx hdb)
    refine item_tuple (j := 1) ht1 (by decide) (by decide) rfl rfl ?_
    refine floordiv_int (by omega) ?_ (.inl (PyProof.noPylong_small (by omega)))
    rw [Int.fdiv_eq_ediv_of_nonneg _ (by omega)]
    exact h h1 _ _ kp
  · exact CMul.ok (.inl ⟨by omega, by omega⟩)
end
end Nr
namespace Nr
open PySem PySem.Spec PyProof.Rows L2 Evl

theorem perm_map_inv {α β : Type} {g : α → β} : ∀ {ps : List β} {l : List α}, ps.Perm (l.map g) → ∃ ys : List α, ys.Perm l ∧ ps = ys.map g
  | [], l, h => by
    have : l.map g = [] := h.symm.eq_nil
    have : l = [] := List.map_eq_nil_iff.mp this
    subst this
    exact ⟨[], List.Perm.refl _, rfl⟩
  | p :: ps, l, h => by
    obtain ⟨x, hx, rfl⟩ := List.mem_map.mp (h.mem_iff.mp List.mem_cons_self)
    obtain ⟨l1, l2, rfl⟩ := List.append_of_mem hx
    have h2 : (g x :: ps).Perm (g x :: (l1 ++ l2).map g) := by
      refine h.trans ?_
      rw [List.map_append, List.map_cons, List.map_append]
      exact List.perm_middle
    obtain ⟨ys, h3, rfl⟩ := perm_map_inv (List.Perm.cons_inv h2)
    exact ⟨x :: ys, (List.Perm.cons x h3).trans List.perm_middle.symm, rfl⟩
theorem paired_get {α β : Type} {F : α → β → Prop} : ∀ {l1 : List α} {l2 : List β} {i : Nat} {a : α}, Paired F l1 l2 → l1[i]? = some a → ∃ b, l2[i]? = some b ∧ F a b
  | _, _, _, _, .nil, e => by simp at e
  | _, _, 0, _, .cons r _, e => by simp at e; subst e; exact ⟨_, rfl, r⟩
  | _, _, i + 1, a, .cons _ t, e => by
    obtain ⟨b, h1, h2⟩ := paired_get (i := i) (a := a) t (by simpa using e)
    exact ⟨b, by simpa using h1, h2⟩
theorem paired_map {α β γ : Type} {F : α → β → Prop} {f : α → γ} {g : β → γ} : ∀ {l1 : List α} {l2 : List β}, Paired F l1 l2 → (∀ a b, F a b → f a = g b) → l1.map f = l2.map g
  | _, _, .nil, _ => rfl
  | _, _, .cons r t, h => by rw [List.map_cons, List.map_cons, h _ _ r, paired_map t h]
theorem paired_mem {α β : Type} {F : α → β → Prop} : ∀ {l1 : List α} {l2 : List β}, Paired F l1 l2 → ∀ b ∈ l2, ∃ a ∈ l1, F a b
  | _, _, .nil, b, h => by cases h
  | _, _, .cons r t, b, h => by
    rcases List.mem_cons.mp h with rfl | h
    · exact ⟨_, List.mem_cons_self, r⟩
    · obtain ⟨a, h1, h2⟩ := paired_mem t b h
      exact ⟨a, List.mem_cons_of_mem _ h1, h2⟩
theorem zip_maps {α β γ : Type} (f : α → β) (g : α → γ) : ∀ l : List α, (l.map f).zip (l.map g) = l.map fun x => (f x, g x)
  | [] => rfl
  | x :: l => by rw [List.map_cons, List.map_cons, List.zip_cons_cons, zip_maps f g l]; rfl
theorem vals_refs {α : Type} (f : α → Addr) : ∀ l : List α, Vals (l.map fun x => V.ref (f x)) (l.map fun x => Value.ref (f x))
  | [] => .nil
  | x :: l => .cons rfl (vals_refs f l)
def keyK : List Key → Int
  | [.inl a, .inl b] => keyI a b
  | _ => 0
/-- a pair of ints that the key can be reckoned of -/
def KeyOk (k : List Key) : Prop := ∃ a b : Int, k = [.inl a, .inl b] ∧ a.natAbs < 2 ^ 60 ∧ 0 < b ∧ b < 1073741824
def LamO (f : Addr) (o : Obj) : HO := .ext fun h => h.get? f = some o
theorem lamO_ok {P : Program} {w : World} {H : Hp} {h : Heap} {f : Addr} {o : Obj} (e : h.get? f = some o) : ObjOk P w H h f (LamO f o) := ⟨e, ⟨o, e⟩, fun h1 h2 q k => k _ q⟩

section
variable {X : Cx} {x q : Str} {params : Arguments} {scope : Scope} {p1 p2 p3 p4 p5 p6 p7 p8 p9 p10 p11 : Pos} {j1 j2 j3 j4 : Nat}
abbrev kbody (x : Str) (p1 p2 p3 p4 p5 p6 p7 p8 p9 p10 p11 : Pos) (j1 j2 j3 j4 : Nat) : Expr := keyBody x p1 p2 p3 p4 p5 p6 p7 p8 p9 p10 p11 j1 j2 j3 j4
/-- sorted(d, key=f), d a dict of pairs, f such a lambda -/
def rSortLam (q : Str) (params : Arguments) (body : Expr) (scope : Scope) : List V → List V → Hp → VK → Prop := fun vs zs H Q => ∃ (d f c' : Addr) (kvs : List (List Key × V)) (pm ctv : Value), vs = [.ref d] ∧ zs = [.ref f] ∧ H d = some (.dT kvs) ∧
  H f = some (LamO f (PySem.W.kla_obj "<lambda>" q params body scope [] pm c' ctv)) ∧ H c' = some (LamX.CodeO c' q) ∧ kvs.length < 64 ∧ (∀ kv ∈ kvs, KeyOk kv.1) ∧
  ∀ (ys : List (List Key × Addr)) (p : Addr), (ys.map (·.1)).Perm (kvs.map (·.1)) → (∀ y ∈ ys, H y.2 = some (.tup (y.1.map kV))) → ys.Pairwise (fun u v => keyK u.1 ≤ keyK v.1) → H p = none → Q (.ref p) (upd H p (.lst (ys.map fun y => V.ref y.2)))
theorem cr_sortLam {k : Nat} (hr : Room k X.A) (hcalm : X.calm = true)
    (hbind : ∀ (pm cv ctv : Value) (t : Addr), bindArgs (PySem.W.kla_fn "<lambda>" q params (kbody x p1 p2 p3 p4 p5 p6 p7 p8 p9 p10 p11 j1 j2 j3 j4) scope [] pm cv ctv) ⟨[.ref t], []⟩ = pure [(x, .ref t)])
    (hco : scope.isCoroutine = false) (hgen : scope.isGenerator = false) (hk : scope.kind = .function) (hcell : ∀ y ∈ scope.names, y.2 ≠ .cell) (hx : scope.names.lookup x = some .local) (hdb : (x == ("__debug__" : Str)) = false) :
    CallRK X (.builtin "sorted") [Str.ofString "key"] (rSortLam q params (kbody x p1 p2 p3 p4 p5 p6 p7 p8 p9 p10 p11 j1 j2 j3 j4) scope) := by
  intro pins s σ H xs zs us ws Q I r1 r2 h
  obtain ⟨d, f, c', kvs, pm, ctv, rfl, rfl, hd, hf, hc, h64, hok, qq⟩ := h
  rw [Vals.ref1 r1, Vals.ref1 r2]
  obtain ⟨z, lo, es0, pr, o, es, ep, ho, hex, hdat, hes, nd⟩ := (show ObjOk X.prog X.w H s.heap d (.dT kvs) from I.hok d _ hd)
  have raw : s.heap.DictRaw d es ep := ⟨o, ho, hex, hdat⟩
  have hsz : es.size = es0.length := by rw [← Array.length_toList, hes, List.length_map]
  have hle : kvs.length = es0.length := Paired.length pr
  have h16 : es.size ≤ sizeLine := by rw [hsz, ← hle, sizeLine_eq]; omega
  change wpAny _ _ (call (.builtin "sorted") [.ref d] [(Str.ofString "key", .ref f)]) _ _ s
  refine call_function_entry_kw kind_sorted plain_sorted entry_sorted (PyProof.Rows.ksk_s1 _ _) ?_
  unfold Builtin.«sorted»
  refine wpAny_bind (m := checkCount "sorted" 1 1 _) (wpAny_pure ?_)
  refine wpAny_bind (PySem.W.kdu_collect (A := X.A.in1) (KdlSrc.rawDict lo) (I.ok.hd hcalm) raw h16 fun h1 tk acc hk1 hacc => ?_)
  have hacc2 : acc.toList = es0.map fun e => Value.ref e.2.1 := by
    refine List.ext_getElem? fun j => ?_
    rw [Array.getElem?_toList]
    rcases Nat.lt_or_ge j acc.size with lt | ge
    · have e1 : acc[j]? = some acc[j] := Array.getElem?_eq_getElem lt
      obtain ⟨hi, e2⟩ := hacc.2 j _ e1
      have e3 : es.toList[j]? = some es[j] := by rw [Array.getElem?_toList, Array.getElem?_eq_getElem hi]
      rw [hes, List.getElem?_map] at e3
      obtain ⟨y, hy, e4⟩ := Option.map_eq_some_iff.mp e3
      rw [e1, e2, List.getElem?_map, hy, ← e4]
      rfl
    · rw [Array.getElem?_eq_none ge, List.getElem?_eq_none (by rw [List.length_map, ← hsz, ← hacc.1]; exact ge)]
  have hal : acc.toList.length = es0.length := by rw [hacc2, List.length_map]
  refine wpAny_bind (wpAny_newList ?_ (by rw [hal, ← hle, sizeLine_eq]; omega))
  have hoL : (h1.push (seqObj "list" acc.toList.toArray 0)).get? h1.objs.size = some (seqObj "list" acc.toList.toArray 0) := Heap.get?_push_size _ rfl
  change wpAny _ _ _ _ _ { s with heap := h1.push (seqObj "list" acc.toList.toArray 0), toks := tk }
  have I1 : Inv X pins σ H { s with heap := h1, toks := tk } := I.kept hk1
  have kpush : ∀ b o, h1.get? b = some o → (h1.push (seqObj "list" acc.toList.toArray 0)).get? b = some o := fun b o e => Heap.get?_push_of_some _ e
  have I2 : Inv X pins σ H { s with heap := h1.push (seqObj "list" acc.toList.toArray 0), toks := tk } := I1.kept kpush
  have hDn : H h1.objs.size = none := I1.hok.fresh (Nat.le_refl _)
  obtain ⟨m, F⟩ := I2.fr
  have hLD : h1.objs.size ≠ X.env.locals := Nat.ne_of_gt I1.lt
  have hbD : X.base.get? h1.objs.size = none := Heap.get?_none_of_le I1.env0.bsz
  have neD : ∀ b o, h1.get? b = some o → b ≠ h1.objs.size := fun b o e => Nat.ne_of_lt (Heap.lt_size e)
  have neL : ∀ b o, H b = some o → b ≠ X.env.locals := fun b o e z => by
    rw [z, I.free] at e
    cases e
  generalize eD : h1.objs.size = D at *
  have N : News X.base X.env.locals (h1.push (seqObj "list" acc.toList.toArray 0)) (rest X.base (h1.push (seqObj "list" acc.toList.toArray 0)) X.env.locals D) := fun p hp => news_all p (List.mem_filter.mp hp).1
  refine wpAny_bind (wpAny_holding (wpAny_call_entry_kw slot_list_sort ⟨_, hoL, rfl⟩ entry_list_sort ?body (PyProof.Rows.ksk_l1 _ _)))
  case body =>
    change wpAny (model X.prog X.w) X.A.in1.in1 (Builtin.«list.sort» ⟨[.ref D], [(Str.ofString "key", .ref f)]⟩) _ _ _
    rw [PyProof.Rows.ksk_t1]
    refine PyProof.Rows.ksk_sort (kz := es0.map fun e => keyK e.1) (s := { s with heap := h1.push (seqObj "list" acc.toList.toArray 0), toks := tk }) F N hoL hLD hbD rest_ne (by rw [List.length_map, hal]) (by rw [hal, ← hle]; exact h64) ?turn fun h' tk' out c F' N' kout => ⟨_, rfl, ?fin⟩
    case turn =>
      intro i v kk hv hkk h2 tk2 own F2 N2
      have kept : ∀ b o, b ≠ X.env.locals → b ≠ D → (h1.push (seqObj "list" acc.toList.toArray 0)).get? b = some o → h2.get? b = some o := kept_of_news I2.bk F2 fun p hp => N2 p (List.mem_append_left _ hp)
      have keptT : ∀ b u o, H b = some u → h1.get? b = some o → h2.get? b = some o := fun b u o e e1 => kept b o (neL b u e) (neD b o e1) (kpush b o e1)
      rw [hacc2, List.getElem?_map] at hv
      obtain ⟨e, he, rfl⟩ := Option.map_eq_some_iff.mp hv
      rw [List.getElem?_map, he] at hkk
      have hkk : keyK e.1 = kk := Option.some.inj hkk
      have hi : i < kvs.length := by rw [hle]; exact (List.getElem?_eq_some_iff.mp he).1
      obtain ⟨e', he', h1e, h2e, _⟩ := paired_get pr (List.getElem?_eq_getElem hi)
      rw [he] at he'
      have he' := (Option.some.inj he').symm
      subst he'
      obtain ⟨a, b, ek, ha, hb0, hb⟩ := hok _ (List.getElem_mem hi)
      rw [ek] at h2e
      rw [h1e.symm.trans ek] at hkk
      have hkk : keyI a b = kk := hkk
      subst hkk
      obtain ⟨_, its, rv, o3, e3, r3⟩ := (show ObjOk X.prog X.w H s.heap _ (.tup [.int a, .int b]) from I.hok _ _ h2e)
      obtain ⟨u1, u2, rfl, ⟨ta, rfl⟩, ⟨tb, rfl⟩⟩ := vals2 rv
      have ht2 : IsTup h2 _ #[.int a ta, .int b tb] := ⟨o3, keptT _ _ _ h2e (hk1 _ _ e3), r3⟩
      have hfo : s.heap.get? f = some (PySem.W.kla_obj "<lambda>" q params (kbody x p1 p2 p3 p4 p5 p6 p7 p8 p9 p10 p11 j1 j2 j3 j4) scope [] pm c' ctv) := (I.hok f _ hf).1
      obtain ⟨⟨oc, vs, t4, hoc, hdc, hvc⟩, _, _⟩ := I.hok c' _ hc
      refine key_call (s := { s with heap := h2, toks := tk2 }) (show X.A.in1.in1.depth < recursionLimit from hr.depth) (keptT _ _ _ hf (hk1 _ _ hfo)) ⟨c', oc, vs, t4, rfl, keptT _ _ _ hc (hk1 _ _ hoc), hdc, hvc⟩ (I.mod.nolimit.keeps F2.keep) ht2 ha hb0 hb (hbind _ _ _ _) hco hgen hk hcell hx hdb fun h3 tk3 t3 kp3 => ?_
      exact ⟨h3, tk3, t3, rfl, rfl, F2.kept kp3, N2.grown kp3⟩
    case fin =>
      have kept : ∀ b o, b ≠ X.env.locals → b ≠ D → (h1.push (seqObj "list" acc.toList.toArray 0)).get? b = some o → h'.get? b = some o := kept_of_news I2.bk F' fun p hp => N' p (List.mem_cons_of_mem _ hp)
      have keep1 : ∀ b o, b ≠ X.env.locals → h1.get? b = some o → h'.get? b = some o := fun b o n e => kept b o n (neD b o e) (kpush b o e)
      obtain ⟨ps, hperm, hout, hsorted⟩ := kout
      have ezip : (es0.map fun e => keyK e.1).zip acc.toList = es0.map fun e => (keyK e.1, Value.ref e.2.1) := by
        rw [hacc2, zip_maps]
      rw [ezip] at hperm
      obtain ⟨ys0, hp0, rfl⟩ := perm_map_inv hperm
      have hout : out.toList = ys0.map fun e => Value.ref e.2.1 := by rw [hout, List.map_map]; rfl
      have hD' : h'.get? D = some (seqObj "list" out c) := (N' _ List.mem_cons_self).1
      have hlen : (ys0.map fun e => V.ref e.2.1).length ≤ sizeLine := by
        rw [List.length_map, hp0.length_eq, ← hle, sizeLine_eq]
        omega
      have nD : ∀ b u, H b = some u → b ≠ D := fun b u e => ne_of_none e hDn
      have J : Inv X pins σ (upd H D (.lst (ys0.map fun e => V.ref e.2.1))) { ({ s with heap := h1, toks := tk } : Shared) with heap := h', gens := s.gens, drawn := s.drawn, toks := tk' } := by
        refine I1.step (g' := s.gens) (d' := s.drawn) (t' := tk') (ch := []) (fun _ z => nomatch z) (fun b o nL _ _ e _ => keep1 b o nL e) (fun b o nL _ _ e _ => ⟨o.slots, keep1 b o nL e⟩) (fun b o _ e n => by rw [upd_ne (neD b o e)]; exact n)
          (fun b o _ e => ?_) (fun b xs e => by rw [upd_ne (nD b _ e)]; exact e) (fun b o u e => by rw [upd_ne (nD b _ e)]; exact e) (fun b ps e => ⟨#[], by rw [upd_ne (nD b _ e), e]; simp⟩) (fun m' hm => ?_) (fun b u e => ?_) I1.bare
        · by_cases hb : b = X.env.locals
          · obtain ⟨o', _, _, e', _⟩ := F'.ns
            exact ⟨o', by rw [hb]; exact e'⟩
          · exact ⟨o, keep1 b o hb e⟩
        · have hm2 : (h1.push (seqObj "list" acc.toList.toArray 0)).Ns X.env.locals m' := by
            obtain ⟨o', es', ep', e', r'⟩ := hm
            exact ⟨o', es', ep', kpush _ _ e', r'⟩
          rw [SlX.ns_only hm2 F.ns]
          exact F'.ns
        · by_cases hb : b = D
          · subst hb
            rw [upd_same] at e
            cases e
            refine ⟨hlen, ys0.map fun e => Value.ref e.2.1, c, vals_refs _ ys0, ?_⟩
            rw [hD', ← hout]
          · rw [upd_ne hb] at e
            refine (I1.hok b u e).stay (fun b' v hb' e' => keep1 b' v ?_ e') (fun b' e' => by rw [upd_ne (nD b' _ e')]; exact e') (fun b' xs e' => by rw [upd_ne (nD b' _ e')]; exact e')
            rcases hb' with rfl | hb'
            · exact neL _ _ e
            · exact neL _ _ hb'
      refine wpAny_pure ⟨_, rfl, .ref D, _, J, rfl, ?_⟩
      have fin := qq (ys0.map fun e => (e.1, e.2.1)) D ?_ ?_ ?_ hDn
      · rw [List.map_map] at fin
        exact fin
      · rw [List.map_map]
        have e1 : kvs.map (·.1) = es0.map (·.1) := paired_map pr fun a b z => z.1
        rw [e1]
        exact hp0.map _
      · intro y hy
        obtain ⟨e, he, rfl⟩ := List.mem_map.mp hy
        obtain ⟨kv, _, z1, z2, _⟩ := paired_mem pr e (hp0.mem_iff.mp he)
        rw [z1] at z2
        exact z2
      · rw [List.pairwise_map] at hsorted ⊢
        exact hsorted.imp fun {a b} z => by simpa using z
end
end Nr
namespace Nr
open PySem PySem.Spec PyProof.Rows L2 Evl
open LamX (TabS TabB CodeO ExtN)

/-- a lambda that captures nothing, as a value: its code object is made once, and told by the table at P -/
def tLamV (P : Addr) (q : Str) (params : Arguments) (body : Expr) (scope : Scope) : TE := fun σ H Q => TabS H P q ∧ ∀ (f c' : Addr) (pm ctv : Value) (G : Hp), ExtN H G → TabS G P q → G f = none → G c' = some (CodeO c' q) →
  Q (.ref f) (upd G f (LamO f (PySem.W.kla_obj "<lambda>" q params body scope [] pm c' ctv)))
theorem pe_lam {X : Cx} {c P : Addr} {params : Arguments} {body : Expr} {scope : Scope} {pos : Pos} (TB : TabB X.base X.mg c P) (hcode : X.env.code = .ref c) (hdef : defaultsOf params X.env = ([], [])) (hclo : closureFor scope X.env = pure []) :
    PE X (.Lambda params body scope pos) (tLamV P (X.env.qual ++ "<lambda>") params body scope) := by
  refine ⟨fun pins s σ H Q I h => ?_⟩
  obtain ⟨⟨ps, hP, ht, told⟩, h⟩ := h
  refine PySem.W.kla_eval hdef ?_
  have hPo : s.heap.get? P = some { cls := .none, data := .fields ps } := I.hok P _ hP
  cases hcm : codeAmong pos ps.toList with
  | none =>
    refine PySem.W.kla_makeFunction (mg := X.mg) (c := c) (P := P) (ps := ps) hclo I.ok.glob (I.mod.glob.keeps I.bk) hcode (TB.code.keeps I.bk) hPo ht hcm TB.gP (TB.bm.keeps I.bk) fun c' ctv h' tk kept hge hlt hrec htab => ?_
    obtain ⟨c2, oc, vs, t, e2, hoc, hdc, hvc⟩ := hrec
    cases e2
    have nC : H c' = none := I.hok.fresh hge
    have nPc : P ≠ c' := ne_of_none hP nC
    have J := LamX.inv_table (t' := tk) (q := X.env.qual ++ "<lambda>") (more := #[rawInt pos.line, rawInt pos.col, .ref c']) I hP kept htab hge ⟨oc, vs, t, hoc, hdc, hvc⟩
    have hE : ExtN H (upd (upd H P (.tbl (ps ++ #[rawInt pos.line, rawInt pos.col, .ref c']))) c' (CodeO c' (X.env.qual ++ "<lambda>"))) := fun b o e n => by
      have hbP : b ≠ P := fun z => n ps (by rw [z, hP] at e; exact (Option.some.inj e).symm)
      rw [upd_ne (ne_of_none e nC), upd_ne hbP]
      exact e
    have hTab : TabS (upd (upd H P (.tbl (ps ++ #[rawInt pos.line, rawInt pos.col, .ref c']))) c' (CodeO c' (X.env.qual ++ "<lambda>"))) P (X.env.qual ++ "<lambda>") := by
      have eL : (ps ++ #[rawInt pos.line, rawInt pos.col, .ref c']).toList = ps.toList ++ [rawInt pos.line, rawInt pos.col, .ref c'] := by simp
      refine ⟨_, by rw [upd_ne nPc, upd_same], by rw [eL]; exact PySem.TriplesOk_snoc _ _ _ _ ht, fun p' cv hcv => ?_⟩
      rw [eL] at hcv
      rcases LamX.among_app _ ht hcv with z | z
      · obtain ⟨c0, e1, e2⟩ := told p' cv z
        exact ⟨c0, e1, hE _ _ e2 LamX.codeO_ne⟩
      · exact ⟨c', z, upd_same⟩
    have hGc := upd_same (H := upd H P (.tbl (ps ++ #[rawInt pos.line, rawInt pos.col, .ref c']))) (a := c') (o := CodeO c' (X.env.qual ++ "<lambda>"))
    generalize upd (upd H P (.tbl (ps ++ #[rawInt pos.line, rawInt pos.col, .ref c']))) c' (CodeO c' (X.env.qual ++ "<lambda>")) = G at J hE hTab hGc
    have hfn : G h'.objs.size = none := J.hok.fresh (Nat.le_refl _)
    refine ⟨.ref h'.objs.size, _, J.laid (t' := tk) (fun b o e => Heap.get?_push_of_some _ e) (Nat.le_refl _) (lamO_ok (Heap.get?_push_size _ rfl)), rfl, h _ c' _ ctv G hE hTab hfn hGc⟩
  | some cv =>
    obtain ⟨c', rfl, hco⟩ := told pos cv hcm
    refine PySem.W.kla_makeFunctionHit (mg := X.mg) (c := c) (P := P) (ps := ps) hclo I.ok.glob (I.mod.glob.keeps I.bk) hcode (TB.code.keeps I.bk) hPo ht hcm (TB.bm.keeps I.bk) fun ctv h' tk kept hsz => ?_
    have J : Inv X pins σ H { s with heap := h', toks := tk } := I.kept kept
    refine ⟨.ref h'.objs.size, _, J.laid (t' := tk) (fun b o e => Heap.get?_push_of_some _ e) (Nat.le_refl _) (lamO_ok (Heap.get?_push_size _ rfl)), rfl, h _ c' _ ctv H (ExtN.refl H) ⟨ps, hP, ht, told⟩ (J.hok.fresh (Nat.le_refl _)) hco⟩
end Nr
namespace Nr
open PySem PySem.Spec PyProof.Rows L2 Evl
open LamX (TabS TabB CodeO ExtN)

/-! {k: v}, k a pair -/
def tDisp1 (tk tv : TE) : TE := fun σ H Q => ∀ p, H p = none → tk σ (upd H p (.dT [])) fun x H1 => tv σ H1 fun y H2 => H2 p = some (.dT []) ∧ ∃ b k, x = .ref b ∧ H2 b = some (.tup (k.map kV)) ∧ Q (.ref p) (upd H2 p (.dT (putK [] k y)))
section
variable {X : Cx} {k v : Expr} {pos : Pos} {tk tv : TE}
theorem pe_disp1 (hu : X.A.units + 1 < cLine) (hk : PE X k tk) (hv : PE X v tv) : PE X (.Dict [some k] [v] pos) (tDisp1 tk tv) := by
  refine ⟨fun pins s σ H Q I q => ?_⟩
  have hn := I.hok.fresh (Nat.le_refl s.heap.objs.size)
  have I1 := I.laid (a := s.heap.objs.size) (o := .dT []) (h' := s.heap.push { cls := .type "dict", data := .dict #[] }) (t' := s.toks) (fun _ _ q => Heap.get?_push_of_some _ q) (Nat.le_refl _) (dt_empty s.heap I.big)
  have hp : (evalEachOpt [some k] X.env).zip ((evalEach [v] X.env).map fun v => do let x ← v; standAt pos; pure x) = (pairTrees [some k] [v] X.env pos).map fun p => (some p.1, p.2) := zip_pairTrees _ _ _ _ rfl rfl
  rw [arm_eval_Dict, hp, dictDisplay_pairs _ (by simp [pairTrees]) (by simp [pairTrees])]
  refine wpAny_bind (wpAny_standAt (wpAny_bind ?_))
  unfold subDict
  refine wpAny_bind (wpAny_alloc ?_)
  refine wpAny_bind (wpAny_holding ?_)
  rw [if_pos (show (pairTrees [some k] [v] X.env pos).length ≤ 15 from by simp [pairTrees])]
  refine wpAny_bind (pairTrees_cons_walk (thn (hk.run pins _ σ _ _ I1 (q _ hn)) fun u s1 ⟨x, H1, I2, rx, q1⟩ => thn (hv.run pins s1 σ H1 _ I2 q1) fun r s2 ⟨y, H2, I3, ry, hD, b, kk, ex, eb, q2⟩ => pairTrees_nil_walk ?_))
  subst ex
  cases (show u = Value.ref b from rx)
  obtain ⟨z, hd, xs, rel, dd⟩ := dt_of I3.hok hD
  cases rel
  refine wpAny_holding ?_
  rw [List.forIn_cons]
  refine wpAny_bind (wpAny_bind (wpAny_bind (wpAny_dictSet_heap (hsz := Nat.zero_le _) (Nat.lt_of_le_of_lt (Nat.le_succ _) hu) (key_of I3.hok eb) dd fun h' dd' hs => ?_)))
  refine wpAny_pure ?_
  dsimp only
  rw [List.forIn_nil]
  refine wpAny_pure (wpAny_pure (wpAny_pure (wpAny_pure ⟨.ref s.heap.objs.size, _, ?_, rfl, q2⟩)))
  obtain ⟨o, es, ep, hq, h2, h3, h4, _, h5⟩ := dd'
  refine d_write I3 (by rw [hD]; exact True.intro) hs ⟨o, hq⟩ ⟨by show (putK [] kk y).length ≤ sizeLine; exact Nat.le_trans (length_putK [] kk y) (by decide), hd, _, (KT.put (H := H2) (kvs := []) (xs := []) .nil kk eb ry).keeps fun c ys ec => ?_, o, es, ep, hq, h2, h3, h4, h5⟩
  rw [upd_ne (ne_of ec hD (fun z => nomatch z))]
  exact ec
end
end Nr
namespace Nr
open PySem PySem.Spec PyProof.Rows L2 Evl
open LamX (TabS TabB CodeO ExtN)

/-! the angles at which a cell begins, in lowest terms -/
abbrev lowP (a b : Nat) : Nat × Nat := (a / Nat.gcd a b, b / Nat.gcd a b)
def rowB (q : Nat × Nat) (j : Nat) : List (Nat × Nat) := ((List.range j).filter (inRow q.1 q.2)).map (fun p => lowP (2 * p - q.1) q.2)
def rawB (n : Nat) (rws : List (Nat × Nat)) : List (Nat × Nat) := (rws.map (fun q => rowB q (n + 1))).flatten
theorem rowB_yes {q : Nat × Nat} {j : Nat} (h : inRow q.1 q.2 j = true) : rowB q (j + 1) = rowB q j ++ [lowP (2 * j - q.1) q.2] := by
  unfold rowB
  rw [List.range_succ, List.filter_append, List.map_append, List.filter_cons, if_pos h]
  rfl
theorem rowB_no {q : Nat × Nat} {j : Nat} (h : inRow q.1 q.2 j = false) : rowB q (j + 1) = rowB q j := by
  unfold rowB
  rw [List.range_succ, List.filter_append, List.map_append, List.filter_cons, if_neg (by rw [h]; decide)]
  simp
theorem rowB_len {whole : Nat} (q : Nat × Nat) (j : Nat) : (rowB q j).length = (rowPre whole q j).length := by
  unfold rowB rowPre
  rw [List.length_map, List.length_map]
theorem rawB_snoc {n : Nat} {rws : List (Nat × Nat)} {q : Nat × Nat} : rawB n (rws ++ [q]) = rawB n rws ++ rowB q (n + 1) := by
  unfold rawB
  rw [List.map_append, List.flatten_append]
  simp
theorem rawB_len {n whole : Nat} : ∀ rws : List (Nat × Nat), (rawB n rws).length = (rawM n whole rws).length
  | [] => rfl
  | q :: l => by
    have ih := rawB_len (n := n) (whole := whole) l
    unfold rawB rawM at ih ⊢
    rw [List.map_cons, List.map_cons, List.flatten_cons, List.flatten_cons, List.length_append, List.length_append, ih, rowB_len (whole := whole)]
theorem lowP_scale {x l m : Nat} (hl : 0 < l) (hm : 0 < m) : lowP (x * m) (l * m) = lowP x l := by
  unfold lowP
  have hg : 0 < Nat.gcd x l := Nat.gcd_pos_of_pos_right _ hl
  rw [Nat.gcd_mul_right, Nat.mul_div_mul_right _ _ hm, Nat.mul_div_mul_right _ _ hm]
theorem foldl_dvd : ∀ (l : List Nat) (m : Nat), m ∣ l.foldl (fun m n => m * n / Nat.gcd m n) m
  | [], m => Nat.dvd_refl m
  | x :: l, m => Nat.dvd_trans (Nat.dvd_lcm_left m x) (foldl_dvd l (m * x / Nat.gcd m x))
theorem foldl_mem_dvd : ∀ (l : List Nat) (m x : Nat), x ∈ l → x ∣ l.foldl (fun m n => m * n / Nat.gcd m n) m
  | [], _, _, h => by cases h
  | y :: l, m, x, h => by
    rcases List.mem_cons.mp h with rfl | h
    · exact Nat.dvd_trans (Nat.dvd_lcm_right m x) (foldl_dvd l (m * x / Nat.gcd m x))
    · exact foldl_mem_dvd l _ x h
theorem turnsF_pos : ∀ (f M b l h : Nat), 0 < l → ∀ q ∈ turnsF f M b l h, 0 < q.2
  | 0, _, _, _, _, _, q, hq => by simp [turnsF] at hq
  | f + 1, M, b, l, h, hl, q, hq => by
    rw [turnsF] at hq
    split at hq
    · rcases List.mem_cons.mp hq with rfl | hq
      · exact hl
      · exact turnsF_pos f M _ _ _ (by omega) q hq
    · cases hq
theorem whole_dvd {n g h : Nat} {q : Nat × Nat} (hq : q ∈ turnsM n g h) : q.2 ∣ wholeM n g h :=
  foldl_mem_dvd _ _ _ (List.mem_map.mpr ⟨q, hq, rfl⟩)
theorem whole_pos {n g h : Nat} (hg : 0 < g) : 0 < wholeM n g h := lcm_pos _ _ (by decide) fun x hx => by
  obtain ⟨q, hq, rfl⟩ := List.mem_map.mp hx
  exact turnsF_pos _ _ _ _ _ hg q hq
def brkM (n g h : Nat) : List (Nat × Nat) := (topsM n g h).map fun t => lowP t (wholeM n g h)
theorem mem_rawB {n : Nat} {rws : List (Nat × Nat)} {p : Nat × Nat} : p ∈ rawB n rws ↔ ∃ q ∈ rws, ∃ c, c < n + 1 ∧ inRow q.1 q.2 c = true ∧ p = lowP (2 * c - q.1) q.2 := by
  unfold rawB rowB
  rw [List.mem_flatten]
  constructor
  · rintro ⟨l, hl, hp⟩
    obtain ⟨q, hq, rfl⟩ := List.mem_map.mp hl
    obtain ⟨c, hc, rfl⟩ := List.mem_map.mp hp
    obtain ⟨h1, h2⟩ := List.mem_filter.mp hc
    exact ⟨q, hq, c, List.mem_range.mp h1, h2, rfl⟩
  · rintro ⟨q, hq, c, h1, h2, rfl⟩
    exact ⟨_, List.mem_map.mpr ⟨q, hq, rfl⟩, List.mem_map.mpr ⟨c, List.mem_filter.mpr ⟨List.mem_range.mpr h1, h2⟩, rfl⟩⟩
theorem mem_rawM {n whole : Nat} {rws : List (Nat × Nat)} {p : Nat} : p ∈ rawM n whole rws ↔ ∃ q ∈ rws, ∃ c, c < n + 1 ∧ inRow q.1 q.2 c = true ∧ p = (2 * c - q.1) * (whole / q.2) := by
  unfold rawM rowPre
  rw [List.mem_flatten]
  constructor
  · rintro ⟨l, hl, hp⟩
    obtain ⟨q, hq, rfl⟩ := List.mem_map.mp hl
    obtain ⟨c, hc, rfl⟩ := List.mem_map.mp hp
    obtain ⟨h1, h2⟩ := List.mem_filter.mp hc
    exact ⟨q, hq, c, List.mem_range.mp h1, h2, rfl⟩
  · rintro ⟨q, hq, c, h1, h2, rfl⟩
    exact ⟨_, List.mem_map.mpr ⟨q, hq, rfl⟩, List.mem_map.mpr ⟨c, List.mem_filter.mpr ⟨List.mem_range.mpr h1, h2⟩, rfl⟩⟩
theorem low_same {n g h : Nat} (hg : 0 < g) {q : Nat × Nat} (hq : q ∈ turnsM n g h) (x : Nat) : lowP (x * (wholeM n g h / q.2)) (wholeM n g h) = lowP x q.2 := by
  have hq0 : 0 < q.2 := turnsF_pos _ _ _ _ _ hg q hq
  obtain ⟨m, hm⟩ := whole_dvd hq
  have hw := whole_pos (n := n) (h := h) hg
  have hm0 : 0 < m := by
    rcases Nat.eq_zero_or_pos m with z | z
    · rw [z, Nat.mul_zero] at hm; omega
    · exact z
  rw [hm, Nat.mul_div_cancel_left _ hq0]
  exact lowP_scale hq0 hm0
theorem mem_brk {n g h : Nat} (hg : 0 < g) {p : Nat × Nat} : p ∈ brkM n g h ↔ p ∈ (0, 1) :: rawB n (turnsM n g h) := by
  have hw := whole_pos (n := n) (h := h) hg
  have h0 : lowP 0 (wholeM n g h) = (0, 1) := by
    unfold lowP
    rw [Nat.gcd_zero_left, Nat.zero_div, Nat.div_self hw]
  unfold brkM
  rw [List.mem_map, List.mem_cons, mem_rawB]
  constructor
  · rintro ⟨t, ht, rfl⟩
    rcases List.mem_cons.mp ((sortU_mem _ _).mp ht) with rfl | ht
    · exact .inl h0
    · obtain ⟨q, hq, c, h1, h2, rfl⟩ := mem_rawM.mp ht
      exact .inr ⟨q, hq, c, h1, h2, low_same hg hq _⟩
  · rintro (rfl | ⟨q, hq, c, h1, h2, rfl⟩)
    · exact ⟨0, (sortU_mem _ _).mpr List.mem_cons_self, h0⟩
    · exact ⟨_, (sortU_mem _ _).mpr (List.mem_cons_of_mem _ (mem_rawM.mpr ⟨q, hq, c, h1, h2, rfl⟩)), low_same hg hq _⟩
theorem key_low {t W : Nat} (hW : 0 < W) : keyI ((lowP t W).1 : Nat) ((lowP t W).2 : Nat) = ((t * 1000000000 / W : Nat) : Int) := by
  unfold keyI lowP
  have hg : 0 < Nat.gcd t W := Nat.gcd_pos_of_pos_right _ hW
  obtain ⟨a, ha⟩ := Nat.gcd_dvd_left t W
  obtain ⟨b, hb⟩ := Nat.gcd_dvd_right t W
  have e1 : t / Nat.gcd t W = a := by
    rw [Nat.div_eq_iff_eq_mul_left hg (Nat.gcd_dvd_left t W), Nat.mul_comm]; exact ha
  have e2 : W / Nat.gcd t W = b := by
    rw [Nat.div_eq_iff_eq_mul_left hg (Nat.gcd_dvd_right t W), Nat.mul_comm]; exact hb
  have e3 : t * 1000000000 / W = a * 1000000000 / b := by
    have h1 : t * 1000000000 = Nat.gcd t W * (a * 1000000000) := by rw [← Nat.mul_assoc, ← ha]
    have h2 : t * 1000000000 / W = Nat.gcd t W * (a * 1000000000) / (Nat.gcd t W * b) := by rw [← h1, ← hb]
    rw [h2, Nat.mul_div_mul_left _ _ hg]
  rw [e1, e2, e3, Int.natCast_ediv, Int.natCast_mul]
  rfl
theorem key_up {n g h : Nat} (hn : n ≤ 24) (hg : 4 ≤ g) (hg2 : g ≤ 16) (hh : h ≤ 8) : (brkM n g h).Pairwise fun u v => keyI (u.1 : Nat) (u.2 : Nat) < keyI (v.1 : Nat) (v.2 : Nat) := by
  have hw := whole_pos (n := n) (g := g) (h := h) (by omega)
  have hw6 := (ok_at6 hn hg hg2 hh).1
  unfold brkM
  rw [List.pairwise_map]
  refine (sortU_up _).imp fun {a b} lt => ?_
  rw [key_low hw, key_low hw]
  have h1 : a * 1000000000 + wholeM n g h ≤ b * 1000000000 := by omega
  have h2 : a * 1000000000 / wholeM n g h + 1 ≤ b * 1000000000 / wholeM n g h := by
    rw [← Nat.add_div_right _ hw]
    exact Nat.div_le_div_right h1
  omega
/-- two lists of the same members, the one rising by a key, the other too -/
theorem sorted_key {α : Type} {key : α → Int} : ∀ {l m : List α}, l.Perm m → l.Pairwise (fun u v => key u ≤ key v) → m.Pairwise (fun u v => key u < key v) → l = m
  | [], m, h, _, _ => h.symm.eq_nil.symm
  | x :: l, m, h, s1, s2 => by
    cases m with
    | nil => exact h.eq_nil
    | cons y m =>
      have p1 := List.pairwise_cons.mp s1
      have p2 := List.pairwise_cons.mp s2
      have e : x = y := by
        rcases List.mem_cons.mp (h.mem_iff.mp List.mem_cons_self) with e | hx
        · exact e
        · rcases List.mem_cons.mp (h.symm.mem_iff.mp List.mem_cons_self) with e | hy
          · exact e.symm
          · have a := p1.1 y hy
            have b := p2.1 x hx
            omega
      subst e
      rw [sorted_key (List.Perm.cons_inv h) p1.2 p2.2]
theorem nodup_of_key {α : Type} {key : α → Int} {m : List α} (h : m.Pairwise (fun u v => key u < key v)) : m.Nodup := h.imp fun {a b} lt e => by
  subst e
  omega
theorem perm_of_mem {α : Type} {l m : List α} (h1 : l.Nodup) (h2 : m.Nodup) (h : ∀ x, x ∈ l ↔ x ∈ m) : l.Perm m := (List.perm_ext_iff_of_nodup h1 h2).mpr h
abbrev pk (p : Nat × Nat) : List Key := [.inl (p.1 : Int), .inl (p.2 : Int)]
theorem pk_inj {p q : Nat × Nat} (h : pk p = pk q) : p = q := by
  injection h with h1 h2
  injection h2 with h2 _
  injection h1 with h1
  injection h2 with h2
  exact Prod.ext (Int.ofNat.inj h1) (Int.ofNat.inj h2)
open Classical in
theorem putK_keys {kvs : List (List Key × V)} {k : List Key} {v : V} : (putK kvs k v).map (·.1) = if k ∈ kvs.map (·.1) then kvs.map (·.1) else kvs.map (·.1) ++ [k] := by
  unfold putK
  have e : (kvs.any fun kv => decide (kv.1 = k)) = true ↔ k ∈ kvs.map (·.1) := by
    rw [List.any_eq_true, List.mem_map]
    constructor
    · rintro ⟨x, hx, hk⟩
      exact ⟨x, hx, of_decide_eq_true hk⟩
    · rintro ⟨x, hx, hk⟩
      exact ⟨x, hx, decide_eq_true hk⟩
  by_cases h : k ∈ kvs.map (·.1)
  · rw [if_pos (e.mpr h), if_pos h, List.map_map]
    refine List.map_congr_left fun x _ => ?_
    show (if x.1 = k then (x.1, v) else x).1 = x.1
    split <;> rfl
  · rw [if_neg (fun z => h (e.mp z)), if_neg h, List.map_append]
    rfl
/-- what stands in the dict: the members of S -/
structure Brk (kvs : List (List Key × V)) (S : List (Nat × Nat)) : Prop where
  nd : (kvs.map (·.1)).Nodup
  mem : ∀ k, k ∈ kvs.map (·.1) ↔ ∃ p ∈ S, k = pk p
  len : kvs.length ≤ S.length
theorem Brk.put {kvs : List (List Key × V)} {S : List (Nat × Nat)} {p : Nat × Nat} {v : V} (b : Brk kvs S) : Brk (putK kvs (pk p) v) (S ++ [p]) := by
  refine ⟨?_, fun k => ?_, ?_⟩
  · rw [putK_keys]
    split
    · exact b.nd
    · rename_i h
      refine List.nodup_append.mpr ⟨b.nd, by simp, fun x hx y hy => ?_⟩
      rw [List.mem_singleton.mp hy]
      exact fun e => h (e ▸ hx)
  · rw [putK_keys]
    constructor
    · intro hk
      have : k ∈ kvs.map (·.1) ∨ k = pk p := by
        split at hk
        · exact .inl hk
        · rcases List.mem_append.mp hk with h | h
          · exact .inl h
          · exact .inr (List.mem_singleton.mp h)
      rcases this with h | h
      · obtain ⟨q, hq, e⟩ := (b.mem k).mp h
        exact ⟨q, List.mem_append_left _ hq, e⟩
      · exact ⟨p, List.mem_append_right _ (List.mem_singleton.mpr rfl), h⟩
    · rintro ⟨q, hq, rfl⟩
      rcases List.mem_append.mp hq with hq | hq
      · have := (b.mem (pk q)).mpr ⟨q, hq, rfl⟩
        split
        · exact this
        · exact List.mem_append_left _ this
      · rw [List.mem_singleton.mp hq]
        split
        · assumption
        · exact List.mem_append_right _ (List.mem_singleton.mpr rfl)
  · have := length_putK kvs (pk p) v
    have := b.len
    rw [List.length_append, List.length_cons, List.length_nil]
    omega
theorem brk_one {v : V} : Brk (putK [] (pk (0, 1)) v) [(0, 1)] := by
  have : Brk ([] : List (List Key × V)) [] := ⟨.nil, fun k => by simp, Nat.le_refl _⟩
  exact this.put
theorem brk_sorted {n g h : Nat} (hn : n ≤ 24) (hg : 4 ≤ g) (hg2 : g ≤ 16) (hh : h ≤ 8) {kvs : List (List Key × V)} (b : Brk kvs ((0, 1) :: rawB n (turnsM n g h))) {ys : List (List Key × Addr)} (hp : (ys.map (·.1)).Perm (kvs.map (·.1)))
    (hs : ys.Pairwise fun u v => keyK u.1 ≤ keyK v.1) : ys.map (·.1) = (brkM n g h).map pk := by
  have up := key_up hn hg hg2 hh
  refine sorted_key (key := keyK) (hp.trans (perm_of_mem b.nd ?_ fun k => ?_)) (List.pairwise_map.mpr hs) ?_
  · refine List.pairwise_map.mpr ((nodup_of_key (key := fun p : Nat × Nat => keyI (p.1 : Nat) (p.2 : Nat)) up).imp fun {a b} ne e => ne (pk_inj e))
  · rw [b.mem k, List.mem_map]
    constructor
    · rintro ⟨p, h1, rfl⟩
      exact ⟨p, (mem_brk (by omega)).mpr h1, rfl⟩
    · rintro ⟨p, h1, rfl⟩
      exact ⟨p, (mem_brk (by omega)).mp h1, rfl⟩
  · exact List.pairwise_map.mpr up
end Nr
namespace Nr
open PySem PySem.Spec PyProof.Rows L2 Evl
open LamX (TabS TabB CodeO ExtN)

/-! what stays where all but the tables stays -/
section
variable {K : PySem.W.Frag} {H H' : Hp}
theorem exn_t {a : Addr} {xs : List V} (e : ExtN H H') (h : SqT K H a xs) : SqT K H' a xs := by
  rcases h with (h | ⟨o, h⟩) | h
  · exact .inl (.inl (e _ _ h (fun _ z => by cases z)))
  · exact .inl (.inr ⟨o, e _ _ h (fun _ z => by cases z)⟩)
  · exact .inr h
theorem exn_l {a : Addr} {xs : List V} (e : ExtN H H') (h : SqL K H a xs) : SqL K H' a xs := by
  rcases h with (h | ⟨o, h⟩) | h
  · exact .inl (.inl (e _ _ h (fun _ z => by cases z)))
  · exact .inl (.inr ⟨o, e _ _ h (fun _ z => by cases z)⟩)
  · exact .inr h
mutual
theorem dp_exN (e : ExtN H H') : ∀ (d : PyData) (v : V), Dp K H v d → Dp K H' v d
  | .none, _, h => by cases h; exact .non
  | .bool b, _, h => by cases h; exact .bl b
  | .int i, _, h => by cases h; exact .int i
  | .str x, _, h => by cases h; exact .str x
  | .list ds, _, h => by
    cases h with
    | lst hs ha => exact .lst (exn_l e hs) (dpa_exN e ds _ ha)
  | .tuple ds, _, h => by
    cases h with
    | tup hs ha => exact .tup (exn_t e hs) (dpa_exN e ds _ ha)
  | .dict _, _, h => by cases h
theorem dpa_exN (e : ExtN H H') : ∀ (ds : List PyData) (vs : List V), DpAll K H vs ds → DpAll K H' vs ds
  | [], _, h => by cases h; exact .nil
  | d :: ds, _, h => by
    cases h with
    | cons h1 h2 => exact .cons (dp_exN e d _ h1) (dpa_exN e ds _ h2)
end
theorem exn_of (e : Ex H H') : ExtN H H' := fun b o h _ => e b o h
theorem dpa_keys : ∀ {ys : List (List Key × Addr)} {bs : List (Nat × Nat)}, ys.map (·.1) = bs.map pk → (∀ y ∈ ys, H y.2 = some (.tup (y.1.map kV))) → DpAll K H (ys.map fun y => V.ref y.2) (bs.map td)
  | [], [], _, _ => .nil
  | [], _ :: _, e, _ => by simp at e
  | _ :: _, [], e, _ => by simp at e
  | y :: ys, b :: bs, e, h => by
    rw [List.map_cons, List.map_cons] at e
    injection e with e1 e2
    have h1 := h y List.mem_cons_self
    rw [e1] at h1
    exact .cons (.tup (st_of h1) (.cons (.int _) (.cons (.int _) .nil))) (dpa_keys e2 fun z hz => h z (List.mem_cons_of_mem _ hz))
end
theorem tops_lt {n g h t : Nat} (hg : 0 < g) (ht : t ∈ topsM n g h) : t < wholeM n g h := by
  have hw := whole_pos (n := n) (h := h) hg
  rcases List.mem_cons.mp ((sortU_mem _ _).mp ht) with rfl | ht
  · exact hw
  · obtain ⟨q, hq, c, h1, h2, rfl⟩ := mem_rawM.mp ht
    have hq0 : 0 < q.2 := turnsF_pos _ _ _ _ _ hg q hq
    have hd := Nat.div_pos (Nat.le_of_dvd hw (whole_dvd hq)) hq0
    have hlt : 2 * c - q.1 < q.2 := by
      unfold inRow at h2
      rw [Bool.and_eq_true, decide_eq_true_eq, decide_eq_true_eq] at h2
      omega
    have h3 : (2 * c - q.1) * (wholeM n g h / q.2) < q.2 * (wholeM n g h / q.2) := Nat.mul_lt_mul_of_pos_right hlt hd
    have h4 := Nat.mul_div_le (wholeM n g h) q.2
    omega
theorem rawB_le {n : Nat} : ∀ rws : List (Nat × Nat), (rawB n rws).length ≤ rws.length * (n + 1)
  | [] => Nat.zero_le _
  | q :: l => by
    have ih := rawB_le (n := n) l
    have : (rowB q (n + 1)).length ≤ n + 1 := by
      unfold rowB
      rw [List.length_map]
      exact Nat.le_trans (List.length_filter_le _ _) (by rw [List.length_range]; exact Nat.le_refl _)
    unfold rawB at ih ⊢
    rw [List.map_cons, List.flatten_cons, List.length_append, List.length_cons, Nat.add_mul, Nat.one_mul]
    omega
theorem rowB_le (q : Nat × Nat) (j : Nat) : (rowB q j).length ≤ j := by
  unfold rowB
  rw [List.length_map]
  exact Nat.le_trans (List.length_filter_le _ _) (by rw [List.length_range]; exact Nat.le_refl _)

/-- sorted(e, key=lambda x: x[0] * 10 ** 9 // x[1]) -/
theorem pe_sortLam {X : Cx} {x : Str} {params : Arguments} {scope : Scope} {p1 p2 p3 p4 p5 p6 p7 p8 p9 p10 p11 lpos kpos pos p : Pos} {j1 j2 j3 j4 k : Nat} {e : Expr} {ta : TA} {c T : Addr} (hr : Room k X.A) (hcalm : X.calm = true) (hg : Gl X "sorted") (ms : X.mg "sorted" = none) (ha : PA X [e] ta)
    (TB : TabB X.base X.mg c T) (hcode : X.env.code = .ref c)
    (hdef : defaultsOf params X.env = ([], []) := by rfl) (hclo : closureFor scope X.env = pure [] := by rfl)
    (hbind : ∀ (q : Str) (pm cv ctv : Value) (t : Addr), bindArgs (PySem.W.kla_fn "<lambda>" q params (kbody x p1 p2 p3 p4 p5 p6 p7 p8 p9 p10 p11 j1 j2 j3 j4) scope [] pm cv ctv) ⟨[.ref t], []⟩ = pure [(x, .ref t)] := by intros; rfl)
    (hco : scope.isCoroutine = false := by rfl) (hgen : scope.isGenerator = false := by rfl) (hk : scope.kind = .function := by rfl) (hcell : ∀ y ∈ scope.names, y.2 ≠ .cell := by decide) (hx : scope.names.lookup x = some .local := by rfl) (hdb : (x == ("__debug__" : Str)) = false := by decide)
    (hst : backTo pos (starEach [e] X.env) = (false, eval e X.env) :: backTo pos (starEach [] X.env) := by rfl) (hpl : (backTo pos (starEach [e] X.env)).any (·.1) = false := by rfl) :
    PE X (.Call (.Name "sorted" p) [e] [⟨some "key", .Lambda params (kbody x p1 p2 p3 p4 p5 p6 p7 p8 p9 p10 p11 j1 j2 j3 j4) scope lpos, kpos⟩] pos)
      (tCKw (rSortLam (X.env.qual ++ "<lambda>") params (kbody x p1 p2 p3 p4 p5 p6 p7 p8 p9 p10 p11 j1 j2 j3 j4) scope) ta (tCons (tLamV T (X.env.qual ++ "<lambda>") params (kbody x p1 p2 p3 p4 p5 p6 p7 p8 p9 p10 p11 j1 j2 j3 j4) scope) tNil)) :=
  pe_callBK (cr_sortLam hr hcalm (fun pm cv ctv t => hbind _ pm cv ctv t) hco hgen hk hcell hx hdb) hg ms boot_sorted ha (pk_cons (pe_lam TB hcode hdef hclo) pk_nil) (by decide) (by decide) hst hpl

/-- a def whose code object stands at c -/
structure FunC (K : PySem.W.Frag) (x qual : Str) (st : Stmt) (f c : Addr) (fd : FuncData) : Prop where
  ex : ∃ (oc : Value) (od : Option Addr) (kV doc pm : Value) (an : Option Addr) (ct : Value) (osl : Array (Option Value)),
    fd = PySem.W.fnOf x qual (defArgs st) (defBody st) (defScope st) .none kV doc pm an (.ref c) ct ∧ K.lookup f = some ⟨oc, od, .func fd, osl⟩ ∧ PySem.W.codeIn K (.ref c) qual = true
  kp : PySem.W.keepIn K (.ref f) = true
section
variable {P : Program} {w : World} {K : PySem.W.Frag} {mg : Str → Option Value} {base : Heap}
theorem FunC.ok {x qual : Str} {st : Stmt} {f c : Addr} {fd : FuncData} {N ps : List Str} {k : Nat} {sp : Sp} (F : FunC K x qual st f c fd) (S : FnScope N ps (defScope st)) (len : ∀ vs H Q E, sp vs H Q E → vs.length = ps.length)
    (hbody : ∀ (A : Around) (outer : List Env) (s : Shared) (H : Hp) (vs : List V) (Q : VK) (E : XK), Room k (A.deeper (envOfC qual (defScope st) s.heap.objs.size f (.ref c))) → sp vs H Q E →
      ∃ t, PSs (cxOf CX0 P w K mg base N qual (defScope st) f (.ref c) A outer s H E).nox (defBody st) t ∧ t { nx := fun _ H' => Q .non H', rt := Q } (start N vs) H) : FnOk P w K mg base CX0 (k + 1) f fd ps sp := by
  obtain ⟨oc, od, kV, doc, pm, an, ct, osl, rfl, lk, hcd⟩ := F.ex
  refine fn_of lk hcd S len fun A outer s H vs Q E hr hsp => ?_
  obtain ⟨t, h, q⟩ := hbody A outer s H vs Q E hr hsp
  exact ⟨t, h.nox, q⟩
theorem FunC.fn {x qual : Str} {st : Stmt} {f c : Addr} {fd : FuncData} (F : FunC K x qual st f c fd) : Fun K x qual st f fd := by
  obtain ⟨oc, od, kV, doc, pm, an, ct, osl, e, lk, hcd⟩ := F.ex
  exact ⟨⟨oc, od, kV, doc, pm, an, .ref c, ct, osl, e, lk, hcd⟩, F.kp⟩

/-! _law_breaks -/
abbrev sBreaks : Stmt := topS 23
theorem scBreaks : FnScope ["many", "winding", "found", "begin", "length", "cell"] ["many", "winding"] (defScope sBreaks) := ⟨rfl, rfl, rfl, by decide +kernel, rfl, by decide +kernel, by decide +kernel⟩
abbrev lamQ : Str := "_law_breaks" ++ ".<locals>." ++ "<lambda>"
def RetN (K : PySem.W.Frag) (T : Addr) (ds : List PyData) (H : Hp) (Q : VK) : Prop := ∀ p xs H2, ExtN H H2 → TabS H2 T lamQ → H2 p = some (.lst xs) → DpAll K H2 xs ds → Q (.ref p) H2
def spBreaks (K : PySem.W.Frag) (T : Addr) : Sp := fun vs H Q _ => ∃ (n g h e : Nat) (v : V), vs = [.int n, v] ∧ Dp K H v (wD g h e) ∧ n ≤ 24 ∧ 4 ≤ g ∧ g ≤ 16 ∧ h ≤ 8 ∧ TabS H T lamQ ∧ RetN K T ((brkM n g h).map td) H Q
theorem ok_breaks {f c T : Addr} {fd : FuncData} (F : FunC K "_law_breaks" "_law_breaks" sBreaks f c fd) (TB : TabB base mg c T) (ms : mg "sorted" = none) (mr : mg "range" = none)
    {fl : Addr} {fdl : FuncData} (L : Can P w K mg base "_law_lowest" 1 fl fdl ["top", "bottom"] spLow2) : FnOk P w K mg base CX0 2 f fd ["many", "winding"] (spBreaks K T) := by
  refine F.ok scBreaks (fun vs H Q E h => ?_) (fun A outer s H vs Q E hr h => ?_)
  · obtain ⟨n, g, h, e, v, rfl, _⟩ := h
    rfl
  obtain ⟨n, g, h, e, v, rfl, hw, hn, hg, hg2, hh, hT, q⟩ := h
  obtain ⟨wa, rfl, hwq⟩ := wd_get hw
  have hu := hu_of hr
  refine ⟨_, pss_cons (ps_par3 (i := 2) (j := 3) (l := 4) (by rfl) scBreaks.nd rfl rfl rfl (by decide) (by decide) (by decide) rfl rfl rfl (pa_cons (pe_disp1 hu (pe_tup (pa_cons pe_int (pa_cons pe_int pa_nil))) pe_bl) (pa_cons pe_int (pa_cons (pe_ix ix_tup (pv 1) pe_int (fun _ _ => rfl)) pa_nil))) (by rfl))
    (pss_cons (ps_while PassesOwn.never (pt_cmpR op_lt (pv 3) (pe_op op_mul pe_int (pv 0)) (nomark _))
      (pss_cons (ps_for PassesOwn.never rfl (pi_range1 rfl mr (pa_cons (pe_op op_add (pv 0) pe_int) pa_nil)) (pg_name (i := 5) scBreaks.nd rfl (.inl rfl))
        (pss_one (ps_if (pt_chain op_le op_lt (pv 3) (pe_op op_mul pe_int (pv 5)) (pe_op op_add (pv 3) (pv 4)))
          (pss_one (ps_dput hu (pv 2) (pcall L hr (pa_cons (pe_op op_sub (pe_op op_mul pe_int (pv 5)) (pv 3)) (pa_cons (pv 4) pa_nil))) pe_bl rfl)) pss_nil)))
      (pss_one (ps_par (i := 3) (j := 4) (by rfl) scBreaks.nd rfl rfl (by decide) rfl rfl (pa_cons (pe_op op_add (pv 3) (pv 4)) (pa_cons (pe_op op_add (pv 4) (pe_ix ix_tup (pv 1) pe_int (fun _ _ => rfl))) pa_nil)) (by rfl)))))
    (pss_one (ps_ret (pe_sortLam hr (by rfl) (by rfl) ms (pa_cons (pv 2) pa_nil) TB rfl)))), ?_⟩
  refine fun D hD => ⟨by show 2 ≤ sizeLine; decide, fun t0 ht0 => ?_⟩
  have hDt : D ≠ t0 := by
    rintro rfl
    rw [upd_same] at ht0
    cases ht0
  refine ⟨by rw [upd_ne hDt, upd_same], t0, pk (0, 1), rfl, upd_same, ?_⟩
  have ex0 : Ex H (upd (upd (upd H D (.dT [])) t0 (.tup [.int 0, .int 1])) D (.dT (putK [] (pk (0, 1)) (.bl true)))) := Ex.mut ((Ex.new hD).trans (Ex.new ht0)) hD
  have hD0 := upd_same (H := upd (upd H D (.dT [])) t0 (.tup [.int 0, .int 1])) (a := D) (o := .dT (putK [] (pk (0, 1)) (.bl true)))
  revert ex0 hD0
  generalize upd (upd (upd H D (.dT [])) t0 (.tup [.int 0, .int 1])) D (.dT (putK [] (pk (0, 1)) (.bl true))) = H0
  intro ex0 hD0
  refine ⟨.ref wa, rfl, wa, _, _, vi g, rfl, rfl, ex_t ex0 hwq, atI_nat (j := 0) rfl, .ref D, .int 0, vi g, rfl, ?_⟩
  refine q_while (fun m σ' H' => ∃ (bg l fu : Nat) (pre : List (Nat × Nat)) (y5 : Option V) (kvs : List (List Key × V)), σ' = [some (vi n), some (.ref wa), some (.ref D), some (vi bg), some (vi l), y5] ∧
    turnsM n g h = pre ++ turnsF fu (2 * n) bg l h ∧ 2 * n - bg ≤ fu ∧ 2 ≤ l ∧ l ≤ g + bg * h ∧ m = 2 * n - bg ∧ Ex H H' ∧ H' D = some (.dT kvs) ∧ Brk kvs ((0, 1) :: rawB n pre)) (2 * n)
    ⟨0, g, 2 * n, [], none, _, rfl, rfl, by omega, by omega, by omega, by omega, ex0, hD0, brk_one⟩ ?_
  rintro m σ' H' ⟨bg, l, fu, pre, y5, kvs, rfl, hTu, hfu, hl2, hlg, rfl, ex, hDx, hB⟩
  refine ⟨_, et_test (ev_op (ev_var rfl) (ev_op ev_c (ev_var rfl) (rv_I (.inl ⟨by decide, by decide⟩))) rv_I0), fun hbb H1 e1 => ?_, fun hbb H1 e1 => ?_⟩
  · have hbg : bg < 2 * n := by
      simp at hbb
      omega
    obtain ⟨fu, rfl⟩ : ∃ k, fu = k + 1 := ⟨fu - 1, by omega⟩
    rw [turnsF, if_pos hbg] at hTu
    have hprelen : pre.length ≤ 48 := by
      have l2 := congrArg List.length hTu
      have l3 := turnsF_len (2 * n) (2 * n) 0 g h
      rw [List.length_append] at l2
      unfold turnsM at l2
      omega
    have hlb : l ≤ 100000 := by
      have : bg * h ≤ 62 * 1000 := Nat.mul_le_mul (by omega) (by omega)
      omega
    have hraw : (rawB n pre).length ≤ 1200 := by
      have h1 := rawB_le (n := n) pre
      have h2 : pre.length * (n + 1) ≤ 48 * 25 := Nat.mul_le_mul hprelen (by omega)
      omega
    have exx := ex.trans e1
    obtain ⟨b0, eb0⟩ : ∃ b0, b0 = bg := ⟨bg, rfl⟩
    rw [show 2 * n - bg = 2 * n - b0 by rw [eb0]]
    refine ⟨fun σ2 H2 => ∃ (bg l fu : Nat) (pre : List (Nat × Nat)) (y5 : Option V) (kvs : List (List Key × V)), σ2 = [some (vi n), some (.ref wa), some (.ref D), some (vi bg), some (vi l), y5] ∧
      turnsM n g h = pre ++ turnsF fu (2 * n) bg l h ∧ 2 * n - bg ≤ fu ∧ 2 ≤ l ∧ l ≤ g + bg * h ∧ 2 * n - bg < 2 * n - b0 ∧ Ex H H2 ∧ H2 D = some (.dT kvs) ∧ Brk kvs ((0, 1) :: rawB n pre), ?_, ?_⟩
    · rintro σ2 H2 ⟨a1, a2, a3, a4, a5, a6, h1, h2, h3, h4, h5, h6, h7, h8, h9⟩
      exact ⟨_, h6, a1, a2, a3, a4, a5, a6, h1, h2, h3, h4, h5, rfl, h7, h8, h9⟩
    refine q_forR1 (n := (n : Int) + 1) (ea_cons (ev_op (ev_var rfl) ev_c rv_I0) ea_nil) (by omega) (fun j σ' H' => ∃ (y5 : Option V) (kvs : List (List Key × V)), σ' = [some (vi n), some (.ref wa), some (.ref D), some (vi bg), some (vi l), y5] ∧ Ex H H' ∧ H' D = some (.dT kvs) ∧ Brk kvs (((0, 1) :: rawB n pre) ++ rowB (bg, l) j))
      (fun H2 e2 => ⟨y5, kvs, rfl, exx.trans e2, e2 _ _ (e1 _ _ hDx), by
        have : rowB (bg, l) 0 = [] := rfl
        rw [this, List.append_nil]
        exact hB⟩) ?_ ?_
    · rintro j σ' H2 hj ⟨y5, kvs, rfl, ex2, hD2, hB2⟩
      have hj' : j ≤ n := by omega
      refine s_when (et_chain (ev_var rfl) (ev_op ev_c (ev_var rfl) (rv_I (.inl ⟨by decide, by decide⟩))) rv_I0 (fun _ => ev_op (ev_var rfl) (ev_var rfl) rv_I0) (fun _ => rv_I0)) (fun hb H3 e3 => ?_) (fun hb H3 e3 => ?_)
      · rw [Bool.and_eq_true, decide_eq_true_eq, decide_eq_true_eq] at hb
        have hin : inRow bg l j = true := by
          unfold inRow
          rw [Bool.and_eq_true, decide_eq_true_eq, decide_eq_true_eq]
          omega
        have ea : 2 * (j : Int) - (bg : Int) = ((2 * j - bg : Nat) : Int) := by omega
        refine ⟨.ref D, rfl, vi j, rfl, _, _, rfl, rfl, .inl ⟨by decide, by decide⟩, vi bg, rfl, _, _, rfl, rfl, vi l, rfl, 2 * j - bg, l, ?_, by omega, by omega, ?_⟩
        · show [V.int (2 * (j : Int) - (bg : Int)), V.int (l : Int)] = _
          rw [ea]
        · intro t H4 e4 ht
          have hD4 := e4 _ _ (e3 _ _ hD2)
          have hlen : kvs.length < sizeLine := by
            have h1 := hB2.len
            have h2 := rowB_le (bg, l) j
            rw [List.length_append, List.length_cons] at h1
            exact Nat.lt_of_le_of_lt (show kvs.length ≤ 2000 by omega) (by decide)
          refine ⟨D, _, rfl, DPut.t (k := pk (lowP (2 * j - bg) l)) hD4 ht hlen, _, _, rfl, Ex.mut (ex2.trans (e3.trans e4)) hD, upd_same, ?_⟩
          rw [rowB_yes (q := (bg, l)) hin, ← List.append_assoc]
          exact hB2.put
      · have hin : inRow bg l j = false := by
          unfold inRow
          rw [Bool.and_eq_false_iff, decide_eq_false_iff_not, decide_eq_false_iff_not] at hb ⊢
          omega
        refine ⟨_, _, rfl, ex2.trans e3, e3 _ _ hD2, ?_⟩
        rw [rowB_no (q := (bg, l)) hin]
        exact hB2
    · rintro σ' H2 ⟨y5, kvs, rfl, ex2, hD2, hB2⟩
      rw [show ((n : Int) + 1).toNat = n + 1 by omega] at hB2
      refine ⟨vi bg, rfl, vi l, rfl, _, _, rfl, rfl, vi l, rfl, .ref wa, rfl, wa, _, _, vi h, rfl, rfl, ex_t ex2 hwq, atI_nat (j := 1) rfl, _, _, rfl, rfl, _, _, rfl, ?_⟩
      refine ⟨bg + l, l + h, fu, pre ++ [(bg, l)], _, kvs, rfl, ?_, by omega, by omega, ?_, by omega, ex2, hD2, ?_⟩
      · rw [hTu, List.append_assoc]; rfl
      · have : h ≤ l * h := by
          have := Nat.mul_le_mul_right h (show 1 ≤ l by omega)
          omega
        rw [Nat.add_mul]
        omega
      · rw [rawB_snoc]
        exact hB2
  · have hbg : ¬ bg < 2 * n := by
      simp at hbb
      omega
    rw [turnsF_done _ _ _ _ _ hbg, List.append_nil] at hTu
    subst hTu
    have hlen : kvs.length < 64 := by
      have h1 := hB.len
      have h2 := rawB_len (n := n) (whole := wholeM n g h) (turnsM n g h)
      have h3 := (ok_at6 hn hg hg2 hh).2
      rw [List.length_cons] at h1
      omega
    have exx := ex.trans e1
    refine ⟨.ref D, rfl, hT.ext exx, fun fl c' pm ctv G eN tab nf hc => ?_⟩
    have e5 : ∀ o, Ex G (upd G fl o) := fun o => Ex.new nf
    refine ⟨D, fl, c', kvs, pm, ctv, rfl, rfl, e5 _ _ _ (eN _ _ (e1 _ _ hDx) (fun _ z => by cases z)), upd_same, e5 _ _ _ hc, hlen, ?_, fun ys p hp hy hs hpn => ?_⟩
    · intro kv hkv
      obtain ⟨p, hp, ek⟩ := (hB.mem kv.1).mp (List.mem_map.mpr ⟨kv, hkv, rfl⟩)
      have hp' := (mem_brk (by omega)).mpr hp
      obtain ⟨t, ht, rfl⟩ := List.mem_map.mp hp'
      have hw0 := whole_pos (n := n) (g := g) (h := h) (by omega)
      have hw6 := (ok_at6 hn hg hg2 hh).1
      have ht2 := tops_lt (by omega) ht
      have hg0 : 0 < Nat.gcd t (wholeM n g h) := Nat.gcd_pos_of_pos_right _ hw0
      have h1 : t / Nat.gcd t (wholeM n g h) ≤ t := Nat.div_le_self _ _
      have h2 : wholeM n g h / Nat.gcd t (wholeM n g h) ≤ wholeM n g h := Nat.div_le_self _ _
      have h3 : 0 < wholeM n g h / Nat.gcd t (wholeM n g h) := Nat.div_pos (Nat.le_of_dvd hw0 (Nat.gcd_dvd_right _ _)) hg0
      exact ⟨_, _, ek, by show Int.natAbs ((_ : Nat) : Int) < 2 ^ 60; rw [Int.natAbs_natCast]; show t / Nat.gcd t (wholeM n g h) < 2 ^ 60; omega, by show (0 : Int) < ((wholeM n g h / Nat.gcd t (wholeM n g h) : Nat) : Int); omega, by show ((wholeM n g h / Nat.gcd t (wholeM n g h) : Nat) : Int) < 1073741824; omega⟩
    · have e6 := Ex.new (o := .lst (ys.map fun y => V.ref y.2)) hpn
      refine q p _ _ (((exn_of exx).trans eN).trans ((exn_of (e5 _)).trans (exn_of e6))) ((tab.ext (e5 _)).ext e6) upd_same (dpa_ex e6 _ _ (dpa_keys (brk_sorted hn hg hg2 hh hB hp hs) hy))
end
end Nr
namespace Nr
open PySem PySem.Spec PyProof.Rows L2 Evl
open LamX (TabS TabB CodeO ExtN)

theorem placeN_scale {t b m : Nat} (hm : 0 < m) (q : Nat × Nat) : placeN (t * m) (b * m) q = placeN t b q := by
  unfold placeN
  rw [← Nat.mul_assoc q.1, ← Nat.mul_assoc q.2, ← Nat.add_mul, ← Nat.mul_assoc 2, Nat.mul_div_mul_right _ _ hm]
theorem pricks_scale {n g h e t b m : Nat} (hm : 0 < m) : pricksM n g h e (t * m) (b * m) = pricksM n g h e t b := by
  have : placesM n g h (t * m) (b * m) = placesM n g h t b := List.map_congr_left fun q _ => placeN_scale hm q
  unfold pricksM
  rw [this]
theorem pricks_low {n g h e t W : Nat} (hW : 0 < W) : pricksM n g h e (lowP t W).1 (lowP t W).2 = pricksM n g h e t W := by
  have hg : 0 < Nat.gcd t W := Nat.gcd_pos_of_pos_right _ hW
  have := pricks_scale (n := n) (g := g) (h := h) (e := e) (t := (lowP t W).1) (b := (lowP t W).2) hg
  rw [show (lowP t W).1 * Nat.gcd t W = t from Nat.div_mul_cancel (Nat.gcd_dvd_left _ _), show (lowP t W).2 * Nat.gcd t W = W from Nat.div_mul_cancel (Nat.gcd_dvd_right _ _)] at this
  exact this.symm
theorem lowP_self {W : Nat} (hW : 0 < W) : lowP W W = (1, 1) := by
  unfold lowP
  rw [Nat.gcd_self, Nat.div_self hW]
theorem lowP_pos {t W : Nat} (hW : 0 < W) : 0 < (lowP t W).2 := Nat.div_pos (Nat.le_of_dvd hW (Nat.gcd_dvd_right _ _)) (Nat.gcd_pos_of_pos_right _ hW)
theorem brk_next {n g h : Nat} (hg : 0 < g) : (brkM n g h).drop 1 ++ [(1, 1)] = ((topsM n g h).drop 1 ++ [wholeM n g h]).map fun t => lowP t (wholeM n g h) := by
  rw [List.map_append, List.map_drop, List.map_cons, List.map_nil, lowP_self (whole_pos hg)]
  rfl
theorem dpa_drop {K : PySem.W.Frag} {H : Hp} : ∀ {as : List V} {ds : List PyData}, DpAll K H as ds → ∀ k, DpAll K H (as.drop k) (ds.drop k)
  | _, _, h, 0 => h
  | [], _, h, k + 1 => by cases h; exact .nil
  | _ :: _, _, h, k + 1 => by
    cases h with
    | cons h1 h2 => exact dpa_drop h2 k
section
variable {P : Program} {w : World} {K : PySem.W.Frag} {mg : Str → Option Value} {base : Heap}
/-! _law_stretches -/
abbrev sLStr : Stmt := topS 24
theorem scLStr : FnScope ["many", "winding", "marks_v", "found", "first", "last"] ["many", "winding"] (defScope sLStr) := ⟨rfl, rfl, rfl, by decide +kernel, rfl, by decide +kernel, by decide +kernel⟩
def spLStr (K : PySem.W.Frag) (T : Addr) : Sp := fun vs H Q _ => ∃ (n g h e : Nat) (v : V), vs = [.int n, v] ∧ Dp K H v (wD g h e) ∧ n ≤ 24 ∧ 4 ≤ g ∧ g ≤ 16 ∧ h ≤ 8 ∧ e ≤ 1 ∧ TabS H T lamQ ∧ RetN K T (strM n g h e) H Q
theorem ok_lstr {f T : Addr} {fd : FuncData} (F : Fun K "_law_stretches" "_law_stretches" sLStr f fd) (mz : mg "zip" = none) (mt : mg "tuple" = none)
    {fb : Addr} {fdb : FuncData} (B : Can P w K mg base "_law_breaks" 2 fb fdb ["many", "winding"] (spBreaks K T)) {fp : Addr} {fdp : FuncData} (C : Can P w K mg base "_law_pricked" 1 fp fdp ["many", "winding", "angle"] (spLPr K)) :
    FnOk P w K mg base CX0 3 f fd ["many", "winding"] (spLStr K T) := by
  refine F.ok scLStr (fun vs H Q E h => ?_) (fun cdv A outer s H vs Q E hr h => ?_)
  · obtain ⟨n, g, h, e, v, rfl, _⟩ := h
    rfl
  obtain ⟨n, g, h, e, v, rfl, hw, hn, hg, hg2, hh, he, hT, q⟩ := h
  obtain ⟨hwh, hraw⟩ := ok_at6 hn hg hg2 hh
  have hwp : 0 < wholeM n g h := whole_pos (by omega)
  have hlt : (topsM n g h).length ≤ 61 := by
    have := sortU_len (0 :: rawM n (wholeM n g h) (turnsM n g h))
    rw [List.length_cons] at this
    unfold topsM marksM
    omega
  have hlp : 0 < (topsM n g h).length := sortU_pos _ (by simp)
  refine ⟨_, pss_cons (ps_set (i := 2) scLStr.nd rfl (.inl rfl) (pcall B hr (pa_cons (pv 0) (pa_cons (pv 1) pa_nil))))
    (pss_cons (ps_set (i := 3) scLStr.nd rfl (.inl rfl) (pe_lst pa_nil))
    (pss_cons (ps_for PassesOwn.never rfl (pi_zip (by rfl) mz (pa_cons (pv 2) (pa_cons (pe_op op_cat (pe_slice sl_list (pv 2) (po_some pe_int) po_none) (pe_lst (pa_cons (pe_tup (pa_cons pe_int (pa_cons pe_int pa_nil))) pa_nil))) pa_nil)))
        (pg_tup rfl (pgs_cons (pg_name (i := 4) scLStr.nd rfl (.inl rfl)) (pgs_cons (pg_name (i := 5) scLStr.nd rfl (.inl rfl)) pgs_nil)))
      (pss_one (ps_expr (pe_bm PySem.F.plainAttrs_list PySem.F.slot_list_append PySem.F.type_list_append mt_append (pv 3) (pa_cons (pe_tup (pa_cons (pv 4) (pa_cons (pv 5)
        (pa_cons (pe_callTy call_tuple_of (by rfl) mt PyProof.Rows.boot_tuple (pa_cons (pcall C hr (pa_cons (pv 0) (pa_cons (pv 1) (pa_cons (pv 4) pa_nil)))) pa_nil)) pa_nil)))) pa_nil)))))
    (pss_one (ps_ret (pv 3))))), ?_⟩
  -- marks
  refine ⟨vi n, rfl, v, rfl, n, g, h, e, v, rfl, hw, hn, hg, hg2, hh, hT, fun tp mx H4 e4 tab htx hmd => ?_⟩
  have hw4 := dp_exN e4 _ _ hw
  have hml : mx.length = (topsM n g h).length := by
    rw [dpa_len hmd, List.length_map]
    unfold brkM
    rw [List.length_map]
  -- found
  refine ⟨Nat.zero_le _, fun to hto => ?_⟩
  have n1 : tp ≠ to := ne_of_none htx hto
  refine ⟨.ref tp, rfl, .ref tp, rfl, 1, rfl, tp, _, rfl, sq_of (by rw [upd_ne n1]; exact htx), fun c1 hc1 => ?_⟩
  refine ⟨by show 2 ≤ sizeLine; decide, fun o1 ho1 => ?_⟩
  refine ⟨by show 1 ≤ sizeLine; decide, fun c2 hc2 => ?_⟩
  have x5 : Ex H4 (upd H4 to (.lst [])) := Ex.new hto
  have x6 := Ex.new (o := .lst (cutV mx (some 1) none)) hc1
  have x6b := Ex.new (o := .tup [.int 1, .int 1]) ho1
  have x7 := Ex.new (o := .lst [.ref o1]) hc2
  refine ⟨c1, c2, _, _, rfl, rfl, x7 _ _ (x6b _ _ upd_same), upd_same, ?_, fun c3 hc3 => ?_⟩
  · rw [cut_1, List.length_drop, List.length_cons, List.length_nil]
    exact Nat.le_of_lt (small1000 (by omega))
  have x8 := Ex.new (o := .lst (cutV mx (some 1) none ++ [.ref o1])) hc3
  have x58 := ((x6.trans x6b).trans x7).trans x8
  have h8to := x58 _ _ (upd_same (H := H4) (a := to) (o := .lst []))
  have h8tp := (x5.trans x58) _ _ htx
  have h8c3 := upd_same (H := upd (upd (upd (upd H4 to (.lst [])) c1 (.lst (cutV mx (some 1) none))) o1 (.tup [.int 1, .int 1])) c2 (.lst [.ref o1])) (a := c3) (o := .lst (cutV mx (some 1) none ++ [.ref o1]))
  have h8o := (x7.trans x8) _ _ (upd_same (H := upd (upd H4 to (.lst [])) c1 (.lst (cutV mx (some 1) none))) (a := o1) (o := .tup [.int 1, .int 1]))
  have e08 := x5.trans x58
  have n4 : to ≠ c3 := by
    have z := ((x6.trans x6b).trans x7) _ _ (upd_same (H := H4) (a := to) (o := .lst []))
    exact ne_of_none z hc3
  revert h8to h8tp h8c3 h8o e08
  generalize upd (upd (upd (upd (upd H4 to (.lst [])) c1 (.lst (cutV mx (some 1) none))) o1 (.tup [.int 1, .int 1])) c2 (.lst [.ref o1])) c3 (.lst (cutV mx (some 1) none ++ [.ref o1])) = H8
  intro h8to h8tp h8c3 h8o e08
  rw [cut_1] at h8c3
  have hd2 : DpAll K H8 (mx.drop 1 ++ [.ref o1]) ((((topsM n g h).drop 1 ++ [wholeM n g h]).map fun t => lowP t (wholeM n g h)).map td) := by
    rw [← brk_next (by omega), List.map_append, List.map_drop]
    refine dpa_append ?_ (.cons (.tup (st_of h8o) (.cons (.int _) (.cons (.int _) .nil))) .nil)
    exact dpa_drop (dpa_ex e08 _ _ hmd) 1
  have hpl : (pairsM n g h).length = (topsM n g h).length := by
    unfold pairsM
    rw [List.length_zip, zip_tops _ _ hlp, Nat.min_self]
  refine ⟨tp, c3, _, _, rfl, sq_of h8tp, sq_of h8c3, ?_⟩
  refine RZ.for_zipL (by rw [List.length_append, List.length_drop, List.length_cons, List.length_nil]; omega) (fun i σ' H' => ∃ (y4 y5 : Option V) (xs : List V), σ' = [some (vi n), some v, some (.ref tp), some (.ref to), y4, y5] ∧
      Ex H4 H' ∧ H' tp = some (.lst mx) ∧ H' c3 = some (.lst (mx.drop 1 ++ [.ref o1])) ∧ H' to = some (.lst xs) ∧ DpAll K H' xs ((strM n g h e).take i) ∧ DpAll K H' (mx.drop 1 ++ [.ref o1]) ((((topsM n g h).drop 1 ++ [wholeM n g h]).map fun t => lowP t (wholeM n g h)).map td))
    ⟨none, none, [], rfl, e08, h8tp, h8c3, h8to, .nil, hd2⟩ (fun i σ' H' ⟨_, _, _, _, _, a, b, _⟩ => ⟨sq_of a, sq_of b⟩) ?_ ?_
  · rintro i x y T' σ' H' hx hy ⟨y4, y5, xs, rfl, ex, htp', hc3', hto', hd', hd2'⟩ hT'
    obtain ⟨d1, hd1, dx⟩ := dpa_get (dpa_ex ex _ _ hmd) hx
    unfold brkM at hd1
    rw [List.getElem?_map, List.getElem?_map] at hd1
    obtain ⟨p1, hp1, rfl⟩ := Option.map_eq_some_iff.mp hd1
    obtain ⟨t, ht, rfl⟩ := Option.map_eq_some_iff.mp hp1
    obtain ⟨d2, hd2'', dy⟩ := dpa_get hd2' hy
    rw [List.getElem?_map, List.getElem?_map] at hd2''
    obtain ⟨p2, hp2, rfl⟩ := Option.map_eq_some_iff.mp hd2''
    obtain ⟨a, ha, rfl⟩ := Option.map_eq_some_iff.mp hp2
    have hp : (pairsM n g h)[i]? = some (t, a) := by
      unfold pairsM
      rw [List.getElem?_zip_eq_some]
      exact ⟨ht, ha⟩
    have hst : (strM n g h e)[i]? = some (strD n g h e (wholeM n g h) (t, a)) := by
      unfold strM
      rw [List.getElem?_map, hp]
      rfl
    have hi : i < (topsM n g h).length := (List.getElem?_eq_some_iff.mp ht).1
    have htlt := tops_lt (by omega) (List.mem_of_getElem? ht)
    have xT : Ex H' (upd H' T' (.tup [x, y])) := Ex.new hT'
    refine ⟨T', _, rfl, st_of upd_same, rfl, x, _, rfl, y, _, rfl, rfl, ?_⟩
    generalize upd H' T' (.tup [x, y]) = H9 at xT
    refine ⟨.ref to, rfl, .inl ⟨rfl, _, sq_of (xT _ _ hto')⟩, x, rfl, y, rfl, vi n, rfl, v, rfl, x, rfl, ?_⟩
    have b1 : (lowP t (wholeM n g h)).1 ≤ t := Nat.div_le_self _ _
    have b2 : (lowP t (wholeM n g h)).2 ≤ wholeM n g h := Nat.div_le_self _ _
    have b3 := lowP_pos (t := t) hwp
    refine ⟨n, g, h, e, (lowP t (wholeM n g h)).1, (lowP t (wholeM n g h)).2, v, x, rfl, dp_ex (ex.trans xT) _ _ hw4, dp_ex xT _ _ dx, by omega, by omega, by omega, he, by omega, b3, ?_, ?_, fun cp H10 hcp e10 hcx => ?_⟩
    · exact Nat.lt_of_lt_of_le (show _ < 1000000 by omega) (by decide)
    · exact Nat.lt_of_lt_of_le (show _ < 1000000 by omega) (by decide)
    rw [pricks_low hwp] at hcx
    refine ⟨cp, _, rfl, .inl ⟨sq_of hcx, fun ct hct => ?_⟩⟩
    have x11 : Ex H10 (upd H10 ct (.tup ((pricksM n g h e t (wholeM n g h)).map vi))) := Ex.new hct
    have hc11 := upd_same (H := H10) (a := ct) (o := .tup ((pricksM n g h e t (wholeM n g h)).map vi))
    have xx := xT.trans (e10.trans x11)
    generalize upd H10 ct (.tup ((pricksM n g h e t (wholeM n g h)).map vi)) = H11 at x11 hc11 xx
    refine ⟨by show 3 ≤ sizeLine; decide, fun r hr' => ?_⟩
    have x14 := Ex.new (o := .tup [x, y, .ref ct]) hr'
    have h14r := upd_same (H := H11) (a := r) (o := .tup [x, y, .ref ct])
    generalize upd H11 r (.tup [x, y, .ref ct]) = H14 at x14 h14r
    have z14 : Ex H' H14 := xx.trans x14
    have nt := noT_lst (z14 _ _ hto')
    refine ⟨to, xs, .ref r, rfl, rfl, z14 _ _ hto', ?_, some x, some y, xs ++ [.ref r], rfl, Ex.mut (ex.trans z14) hto, ?_, ?_, upd_same, ?_, ?_⟩
    · have l1 := dpa_len hd'
      rw [List.length_take] at l1
      exact small1000 (by omega)
    · rw [upd_ne n1]
      exact z14 _ _ htp'
    · rw [upd_ne (Ne.symm n4)]
      exact z14 _ _ hc3'
    · rw [List.take_add_one, hst]
      refine dpa_mut nt _ _ ?_ (dpa_append (dpa_ex z14 _ _ hd') (.cons (.tup (st_of h14r) (.cons (dp_ex z14 _ _ dx) (.cons (dp_ex z14 _ _ dy) (.cons (.tup (st_of (x14 _ _ hc11)) (dis_vis _)) .nil)))) .nil))
      rw [noLs_append]
      have k1 : noLs ((strM n g h e).take i) = true := by
        unfold strM
        rw [← List.map_take]
        exact noLs_map (noL_str n g h e _) _
      rw [k1]
      show noLs [strD n g h e (wholeM n g h) (t, a)] = true
      rw [noLs, noLs, noL_str]
      rfl
    · exact dpa_mut nt _ _ (noLs_map noL_td _) (dpa_ex z14 _ _ hd2')
  · rintro σ' H' ⟨y4, y5, xs, rfl, ex, htp', hc3', hto', hd', hd2'⟩
    rw [hml, List.take_of_length_le (by unfold strM; rw [List.length_map, hpl]; exact Nat.le_refl _)] at hd'
    exact ⟨.ref to, rfl, q to xs H' (e4.trans (exn_of ex)) (tab.ext ex) hto' hd'⟩
end
end Nr
namespace Nr
open PySem PySem.Spec PyProof.Rows L2 Evl

/-! data that can be compared -/
def Shp (k : Nat) (d : PyData) : Prop := d.canLay0 = true ∧ d.depth ≤ k
theorem shp_int (k : Nat) (i : Int) : Shp k (.int i) := ⟨rfl, Nat.zero_le _⟩
theorem shp_all {α : Type} {f : α → PyData} {k : Nat} (h : ∀ x, Shp k (f x)) : ∀ l : List α, PyData.canLayAll0 (l.map f) = true ∧ PyData.depthAll (l.map f) ≤ k
  | [] => ⟨rfl, Nat.zero_le _⟩
  | x :: l => by
    have a := h x
    have b := shp_all h l
    rw [List.map_cons, PyData.canLayAll0, PyData.depthAll, a.1, b.1]
    exact ⟨rfl, Nat.max_le.mpr ⟨a.2, b.2⟩⟩
theorem shp_list {α : Type} {f : α → PyData} {k : Nat} (h : ∀ x, Shp k (f x)) (l : List α) : Shp (k + 1) (.list (l.map f)) := by
  have b := shp_all h l
  refine ⟨?_, ?_⟩
  · rw [PyData.canLay0]; exact b.1
  · rw [PyData.depth]; exact Nat.succ_le_succ b.2
theorem shp_tuple {α : Type} {f : α → PyData} {k : Nat} (h : ∀ x, Shp k (f x)) (l : List α) : Shp (k + 1) (.tuple (l.map f)) := by
  have b := shp_all h l
  refine ⟨?_, ?_⟩
  · rw [PyData.canLay0]; exact b.1
  · rw [PyData.depth]; exact Nat.succ_le_succ b.2
theorem Shp.ok {k : Nat} {d : PyData} (h : Shp k d) (hk : k ≤ 64) : SeqAt.shaped d = true := by
  unfold SeqAt.shaped
  rw [h.1, Bool.true_and, decide_eq_true_eq]
  exact Nat.le_trans h.2 hk
theorem sh_td (p : Nat × Nat) : SeqAt.shaped (td p) = true := (shp_tuple (f := di) (fun n : Nat => shp_int 0 (n : Int)) [p.1, p.2]).ok (by decide)
theorem sh_lst (l : List Nat) : SeqAt.shaped (.list (l.map di)) = true := (shp_list (f := di) (fun n : Nat => shp_int 0 (n : Int)) l).ok (by decide)
theorem sh_tup (l : List Nat) : SeqAt.shaped (.tuple (l.map di)) = true := (shp_tuple (f := di) (fun n : Nat => shp_int 0 (n : Int)) l).ok (by decide)
theorem eqvAll_dis : ∀ a b : List Nat, PyData.eqvAll (a.map di) (b.map di) = decide (a = b)
  | [], [] => rfl
  | [], y :: b => by simp [PyData.eqvAll]
  | x :: a, [] => by simp [PyData.eqvAll]
  | x :: a, y :: b => by
    rw [List.map_cons, List.map_cons, PyData.eqvAll, eqvAll_dis a b, PyData.eqv]
    rw [Bool.eq_iff_iff, Bool.and_eq_true, beq_iff_eq, decide_eq_true_eq, decide_eq_true_eq, List.cons.injEq]
    constructor
    · rintro ⟨h1, h2⟩
      exact ⟨by omega, h2⟩
    · rintro ⟨h1, h2⟩
      exact ⟨by omega, h2⟩
theorem eqv_lst (a b : List Nat) : PyData.eqv (.list (a.map di)) (.list (b.map di)) = decide (a = b) := by rw [PyData.eqv]; exact eqvAll_dis a b
theorem eqv_tup (a b : List Nat) : PyData.eqv (.tuple (a.map di)) (.tuple (b.map di)) = decide (a = b) := by rw [PyData.eqv]; exact eqvAll_dis a b
theorem eqv_td (p q : Nat × Nat) : PyData.eqv (td p) (td q) = decide (p = q) := by
  have k := eqv_tup [p.1, p.2] [q.1, q.2]
  refine Eq.trans k ?_
  rw [decide_eq_decide]
  constructor
  · intro z
    injection z with h1 h2
    injection h2 with h2 _
    exact Prod.ext h1 h2
  · rintro rfl
    rfl
section
variable {K : PySem.W.Frag} {σ : L2.St} {H : Hp} {x y : V} {d e : PyData}
theorem rv_neD (hx : Dp K H x d) (hy : Dp K H y e) (sd : SeqAt.shaped d = true) (se : SeqAt.shaped e = true) : RV (rNeD K) x y H (.bl (!PyData.eqv d e)) := fun H1 ex _ q => ⟨d, e, dp_ex ex _ _ hx, dp_ex ex _ _ hy, sd, se, q H1 (Ex.refl H1)⟩
theorem rv_eqD (hx : Dp K H x d) (hy : Dp K H y e) (sd : SeqAt.shaped d = true) (se : SeqAt.shaped e = true) : RV (rEqD K) x y H (.bl (PyData.eqv d e)) := fun H1 ex _ q => ⟨d, e, dp_ex ex _ _ hx, dp_ex ex _ _ hy, sd, se, q H1 (Ex.refl H1)⟩
theorem td_of {a : Addr} {p : Nat × Nat} (h : SqT K H a [vi p.1, vi p.2]) : Dp K H (.ref a) (td p) := .tup h (.cons (.int _) (.cons (.int _) .nil))
theorem cells_of {a : Addr} {l : List Nat} (h : SqT K H a (l.map vi)) : Dp K H (.ref a) (.tuple (l.map di)) := .tup h (dis_vis l)
theorem lst_of {a : Addr} {l : List Nat} (h : H a = some (.lst (l.map vi))) : Dp K H (.ref a) (.list (l.map di)) := .lst (sq_of h) (dis_vis l)
end
theorem td_noL (p : Nat × Nat) : noL (td p) = true := noL_td p
theorem wD_noL (g h e : Nat) : noL (wD g h e) = true := by simp [noL, noLs]
end Nr
namespace Nr
open PySem PySem.Spec PyProof.Rows L2 Evl
open LamX (TabS TabB CodeO ExtN)

/-! what stands at each turn -/
theorem tab_bx {H H' : Hp} {p T : Addr} {q : Str} (t : TabS H T q) (b0 : Bag H p) (b : Bx p H H') : TabS H' T q := by
  obtain ⟨ps, h1, h2, h3⟩ := t
  obtain ⟨c, z, hz⟩ := b0
  have nT : T ≠ p := by
    rintro rfl
    rw [hz] at h1
    cases h1
  refine ⟨ps, b _ _ nT h1, h2, fun pos cv hc => ?_⟩
  obtain ⟨c', e1, e2⟩ := h3 pos cv hc
  refine ⟨c', e1, b _ _ ?_ e2⟩
  rintro rfl
  rw [hz] at e2
  have e2 := Option.some.inj e2
  unfold CodeO at e2
  cases e2
theorem bag_exn {H H' : Hp} {p : Addr} (b : Bag H p) (e : ExtN H H') : Bag H' p := by
  obtain ⟨c, z, hz⟩ := b
  exact ⟨c, z, e _ _ hz (fun _ z => by cases z)⟩
structure LS (K : PySem.W.Frag) (Hs : Hp) (p T : Addr) (wv : V) (g h e : Nat) (H : Hp) : Prop where
  ext : ExtN Hs H
  bag : Bag H p
  tab : TabS H T lamQ
  win : Dp K H wv (wD g h e)
section
variable {K : PySem.W.Frag} {Hs : Hp} {p T : Addr} {wv : V} {g h e : Nat} {H H' : Hp}
theorem LS.ex (s : LS K Hs p T wv g h e H) (x : Ex H H') : LS K Hs p T wv g h e H' := ⟨s.ext.trans (exn_of x), s.bag.ex x, s.tab.ext x, dp_ex x _ _ s.win⟩
theorem LS.exn (s : LS K Hs p T wv g h e H) (x : ExtN H H') (t : TabS H' T lamQ) : LS K Hs p T wv g h e H' := ⟨s.ext.trans x, bag_exn s.bag x, t, dp_exN x _ _ s.win⟩
theorem LS.bx (s : LS K Hs p T wv g h e H) (hp : Hs p = none) (x : Bx p H H') (b : Bag H' p) : LS K Hs p T wv g h e H' :=
  ⟨fun a o ha no => x a o (ne_of_none ha hp) (s.ext a o ha no), b, tab_bx s.tab s.bag x, dp_bx s.bag.noT x _ _ (wD_noL g h e) s.win⟩
end
theorem sh_str (n g h e : Nat) : SeqAt.shaped (.list (strM n g h e)) = true := by
  unfold strM
  refine (shp_list (k := 2) (f := strD n g h e (wholeM n g h)) (fun q => ?_) _).ok (by decide)
  have a := shp_tuple (f := di) (fun n : Nat => shp_int 0 (n : Int)) [q.1 / Nat.gcd q.1 (wholeM n g h), wholeM n g h / Nat.gcd q.1 (wholeM n g h)]
  have b := shp_tuple (f := di) (fun n : Nat => shp_int 0 (n : Int)) [q.2 / Nat.gcd q.2 (wholeM n g h), wholeM n g h / Nat.gcd q.2 (wholeM n g h)]
  have c := shp_tuple (f := di) (fun n : Nat => shp_int 0 (n : Int)) (pricksM n g h e q.1 (wholeM n g h))
  unfold strD
  refine ⟨?_, ?_⟩
  · rw [PyData.canLay0, PyData.canLayAll0, PyData.canLayAll0, PyData.canLayAll0, PyData.canLayAll0, show (lowD q.1 (wholeM n g h)).canLay0 = true from a.1, show (lowD q.2 (wholeM n g h)).canLay0 = true from b.1, c.1]
    rfl
  · rw [PyData.depth, PyData.depthAll, PyData.depthAll, PyData.depthAll, PyData.depthAll]
    refine Nat.succ_le_succ ?_
    exact Nat.max_le.mpr ⟨a.2, Nat.max_le.mpr ⟨b.2, Nat.max_le.mpr ⟨c.2, Nat.zero_le _⟩⟩⟩
theorem str_self (n g h e : Nat) : PyData.eqv (.list (strM n g h e)) (.list (strM n g h e)) = true := by
  have := sh_str n g h e
  unfold SeqAt.shaped at this
  rw [Bool.and_eq_true] at this
  exact PySem.SeqAt.eqv_refl _ this.1
section
variable {K : PySem.W.Frag} {σ : L2.St} {H : Hp} {D : Ends} {tu : TS}
/-- if stretches(..) != _law_stretches(..): .. -/
theorem s_neStr {T : Addr} {wv : V} {n g h e i j : Nat} (hi : σ[i]? = some (some (vi n))) (hj : σ[j]? = some (some wv)) (hw : Dp K H wv (wD g h e)) (hn : n ≤ 24) (hg : 4 ≤ g) (hg2 : g ≤ 16) (hh : h ≤ 8) (he : e ≤ 1) (hT : TabS H T lamQ)
    (k : ∀ H', ExtN H H' → TabS H' T lamQ → D.nx σ H') :
    tIfS (tTest (tOp (rNeD K) (tCall (spStretches K) [] E0 (tCons (tVar i) (tCons (tVar j) tNil))) (tCall (spLStr K T) [] E0 (tCons (tVar i) (tCons (tVar j) tNil))))) tu tNext D σ H := by
  refine ⟨vi n, hi, wv, hj, n, g, h, e, wv, rfl, hw, hn, hg, hg2, hh, fun rp xs H1 hrp e1 hrx hrd => ?_⟩
  refine ⟨vi n, hi, wv, hj, n, g, h, e, wv, rfl, dp_ex e1 _ _ hw, hn, hg, hg2, hh, he, hT.ext e1, fun lp ys H2 e2 t2 hly hld => ?_⟩
  refine ⟨.list (strM n g h e), .list (strM n g h e), .lst (sq_of (e2 _ _ hrx (fun _ z => by cases z))) (dpa_exN e2 _ _ hrd), .lst (sq_of hly) hld, sh_str n g h e, sh_str n g h e, false, ?_, ?_⟩
  · rw [str_self]
    rfl
  · exact k H2 ((exn_of e1).trans e2) t2
theorem q_neStr {tz : TS} {T : Addr} {wv : V} {n g h e i j : Nat} (hi : σ[i]? = some (some (vi n))) (hj : σ[j]? = some (some wv)) (hw : Dp K H wv (wD g h e)) (hn : n ≤ 24) (hg : 4 ≤ g) (hg2 : g ≤ 16) (hh : h ≤ 8) (he : e ≤ 1) (hT : TabS H T lamQ)
    (k : ∀ H', ExtN H H' → TabS H' T lamQ → tz D σ H') :
    tSeq (tIfS (tTest (tOp (rNeD K) (tCall (spStretches K) [] E0 (tCons (tVar i) (tCons (tVar j) tNil))) (tCall (spLStr K T) [] E0 (tCons (tVar i) (tCons (tVar j) tNil))))) tu tNext) tz D σ H := s_neStr (D := { D with nx := tz D }) hi hj hw hn hg hg2 hh he hT k
/-- pricked(n, (g, h, e), (t, b)) == [x, y, z] -/
theorem ev_pr {n g h e t b x y z : Nat} (hl : pricksM n g h e t b = [x, y, z]) (hg : 2 ≤ g ∧ g ≤ 1000 ∧ h ≤ 1000 ∧ n ≤ 31 ∧ 0 < b ∧ b ≤ 1000) :
    Ev (tOp (rEqD K) (tCall (spPricked K) [] E0 (tCons (tC (vi n)) (tCons (tTup (tCons (tC (vi g)) (tCons (tC (vi h)) (tCons (tC (vi e)) tNil)))) (tCons (tTup (tCons (tC (vi t)) (tCons (tC (vi b)) tNil))) tNil)))) (tLst (tCons (tC (vi x)) (tCons (tC (vi y)) (tCons (tC (vi z)) tNil))))) σ H (.bl true) := by
  intro H1 e1 Q q
  refine ⟨by show 3 ≤ sizeLine; decide, fun t1 ht1 => ⟨by show 2 ≤ sizeLine; decide, fun t2 ht2 => ?_⟩⟩
  have y1 := Ex.new (o := .tup [vi g, vi h, vi e]) ht1
  have y2 := Ex.new (o := .tup [vi t, vi b]) ht2
  refine ⟨n, g, h, e, t, b, .ref t1, .ref t2, rfl, .tup (st_of (y2 _ _ upd_same)) (.cons (.int _) (.cons (.int _) (.cons (.int _) .nil))), .tup (st_of upd_same) (.cons (.int _) (.cons (.int _) .nil)), hg.1, hg.2.1, hg.2.2.1, hg.2.2.2.1, hg.2.2.2.2.1,
    Nat.lt_of_le_of_lt hg.2.2.2.2.2 (by decide), fun lp H2 hlp e2 hlx => ?_⟩
  refine ⟨by show 3 ≤ sizeLine; decide, fun l3 hl3 => ?_⟩
  rw [hl] at hlx
  have y3 := Ex.new (o := .lst [vi x, vi y, vi z]) hl3
  refine ⟨_, _, lst_of (l := [x, y, z]) (y3 _ _ hlx), lst_of (l := [x, y, z]) upd_same, sh_lst _, sh_lst _, ?_⟩
  rw [eqv_lst, decide_eq_true rfl]
  exact q _ ((y1.trans y2).trans (e2.trans y3))
end
end Nr
namespace Nr
open PySem PySem.Spec PyProof.Rows L2 Evl

/-- a loop over zip of two lists, to the shorter one's end -/
theorem for_zip2 {K : PySem.W.Frag} {a b : Addr} {xs ys : List V} {g : TG} {tb : TS} {D : Ends} {σ : L2.St} {H : Hp} (Pv : Nat → L2.St → Hp → Prop) (h0 : Pv 0 σ H) (hq : ∀ i σ H, Pv i σ H → SqL K H a xs ∧ SqL K H b ys)
    (hs : ∀ (i : Nat) (x y : V) (T : Addr) (ρ : L2.St) (G : Hp), xs[i]? = some x → ys[i]? = some y → Pv i ρ G → G T = none → g (.ref T) ρ (upd G T (.tup [x, y])) fun ρ2 G2 => tb { D with nx := Pv (i + 1), ct := Pv (i + 1), bk := D.nx } ρ2 G2)
    (hd : ∀ ρ G, Pv (min xs.length ys.length) ρ G → D.nx ρ G) :
    ∃ W : Nat → Nat → L2.St → Hp → Prop, (∃ m, W 0 m σ H) ∧ ∀ i m ρ G, W i m ρ G →
      ((Itz K a b).stop i G ∧ D.nx ρ G) ∨ ((Itz K a b).go i G ∧ ∃ N : L2.St → Hp → Prop, (∀ ρ' G', N ρ' G' → ∃ m', m' < m ∧ W (i + 1) m' ρ' G') ∧ ∀ v G', (Itz K a b).yld i G v G' → g v ρ G' fun ρ2 G2 => tb { D with nx := N, ct := N, bk := D.nx } ρ2 G2) := by
  refine ⟨fun i m ρ G => m + i = min xs.length ys.length ∧ Pv i ρ G, ⟨min xs.length ys.length, rfl, h0⟩, fun i m ρ G hW => ?_⟩
  obtain ⟨em, p⟩ := hW
  obtain ⟨qx, qy⟩ := hq i ρ G p
  by_cases lt : i < min xs.length ys.length
  · have lx : i < xs.length := by omega
    have ly : i < ys.length := by omega
    refine .inr ⟨⟨xs, ys, _, _, qx, qy, List.getElem?_eq_getElem lx, List.getElem?_eq_getElem ly⟩, Pv (i + 1), fun ρ' G' p' => ⟨m - 1, by omega, by omega, p'⟩, fun v G' hy => ?_⟩
    obtain ⟨T, x, y, rfl, hT, rfl, fx, fy⟩ := hy
    exact hs i x y T ρ G (fx xs qx) (fy ys qy) p hT
  · have ei : i = min xs.length ys.length := by omega
    subst ei
    refine .inl ⟨⟨xs, ys, qx, qy, ?_⟩, hd ρ G p⟩
    omega
end Nr
namespace Nr
open PySem PySem.Spec PyProof.Rows L2 Evl
section
variable {K : PySem.W.Frag} {σ : L2.St} {H : Hp} {ta te : TE}
theorem el_listT {p : Addr} {xs : List V} (ha : Ev ta σ H (.ref p)) (h : SqT K H p xs) : EvL (tCB (rListS K) (tCons ta tNil)) σ H xs := fun H1 e Q q =>
  ha H1 e _ fun H2 e2 => ⟨p, xs, rfl, Or.inr (ex_t (e.trans e2) h), fun l hl => q l _ (fresh_back e2 hl) (e2.trans (Ex.new hl)) upd_same⟩
theorem el_rev {p : Addr} {xs : List V} (ha : Ev te σ H (.ref p)) (h : SqL K H p xs) : EvL (tRevL K te) σ H xs.reverse := fun H1 e Q q =>
  ha H1 e _ fun H2 e2 => ⟨p, xs, rfl, ex_l (e.trans e2) h, fun l hl => q l _ (fresh_back e2 hl) (e2.trans (Ex.new hl)) upd_same⟩
theorem et_yes : EvT tYes σ H true := fun H1 _ _ q => q H1 (Ex.refl H1)
end
theorem given_none {n : Nat} {f : Nat → Bool} {v : Nat → V} (h : ∀ i, i < n → f i = false) : given n f v = [] := by
  unfold given
  rw [List.filter_eq_nil_iff.mpr fun i hi => by rw [h i (List.mem_range.mp hi)]; decide]
  rfl
theorem range_filter {α : Type} (P : α → Bool) : ∀ (l : List α) (f : Nat → Bool), (∀ i x, l[i]? = some x → f i = P x) → ((List.range l.length).filter f).map (fun i => l[i]?) = (l.filter P).map some := by
  intro l
  induction l with
  | nil => intro f _; rfl
  | cons x l ih =>
    intro f hf
    rw [List.length_cons, List.range_succ_eq_map, List.filter_cons, List.filter_cons, hf 0 x rfl]
    have k := ih (fun i => f (i + 1)) fun i y hy => hf (i + 1) y (by simpa using hy)
    have e : ((List.range l.length).map Nat.succ).filter f = ((List.range l.length).filter (fun i => f (i + 1))).map Nat.succ := by
      rw [List.filter_map]
      rfl
    have e2 : (((List.range l.length).map Nat.succ).filter f).map (fun i => (x :: l)[i]?) = (l.filter P).map some := by
      rw [e, List.map_map, ← k]
      rfl
    split
    · rw [List.map_cons, List.map_cons, e2]
      rfl
    · exact e2
/-- which turns give, told over a list of numbers -/
theorem given_vis {l : List Nat} {f : Nat → Bool} {v : Nat → V} (P : Nat → Bool) (F : Nat → Nat) (hf : ∀ i x, l[i]? = some x → f i = P x) (hv : ∀ i x, l[i]? = some x → P x = true → v i = vi (F x)) : given l.length f v = ((l.filter P).map F).map vi := by
  have k := range_filter P l f hf
  unfold given
  have e : ((List.range l.length).filter f).map v = (((List.range l.length).filter f).map (fun i => l[i]?)).map (fun o => vi (F (o.getD 0))) := by
    rw [List.map_map]
    refine List.map_congr_left fun i hi => ?_
    obtain ⟨h1, h2⟩ := List.mem_filter.mp hi
    have lt := List.mem_range.mp h1
    have hx := List.getElem?_eq_getElem lt
    rw [hf i _ hx] at h2
    rw [hv i _ hx h2]
    show vi (F l[i]) = vi (F ((l[i]?).getD 0))
    rw [hx]
    rfl
  rw [e, k, List.map_map, List.map_map]
  rfl
theorem given_one {α : Type} {l : List α} {f : Nat → Bool} {P : α → Bool} {r : α} {v : Nat → V} (hf : ∀ i x, l[i]? = some x → f i = P x) (h : l.filter P = [r]) : ∃ i, l[i]? = some r ∧ given l.length f v = [v i] := by
  have k := range_filter P l f hf
  rw [h] at k
  unfold given
  cases z : (List.range l.length).filter f with
  | nil => rw [z] at k; cases k
  | cons i t =>
    rw [z, List.map_cons, List.map_cons, List.map_nil] at k
    injection k with k1 k2
    have : t = [] := List.map_eq_nil_iff.mp k2
    subst this
    exact ⟨i, k1, rfl⟩
theorem pricks_len (n g h e t b : Nat) : (pricksM n g h e t b).length ≤ 2 * n := by
  have k : (placesM n g h t b).length ≤ 2 * n := by
    unfold placesM
    rw [List.length_map]
    exact turnsF_len _ _ _ _ _
  have k2 := List.length_filter_le (fun p => decide (p < n)) (placesM n g h t b)
  unfold pricksM
  split
  · rw [List.length_reverse, List.length_map]
    omega
  · omega
theorem given_rev (l : List Nat) (F : Nat → Nat) : given (l.map vi).reverse.length (fun _ => true) (fun k => vi (F (l.reverse.getD k 0))) = (l.reverse.map F).map vi := by
  rw [List.length_reverse, List.length_map, ← List.length_reverse, given_vis (l := l.reverse) (fun _ => true) F (fun i x hx => rfl) (fun i x hx _ => by rw [List.getD_eq_getElem?_getD, hx]; rfl)]
  rw [List.filter_eq_self.mpr fun _ _ => rfl]
end Nr
namespace Nr

/-! rising lists and their pairs -/
def pairL (l : List Nat) (w : Nat) : List (Nat × Nat) := l.zip (l.drop 1 ++ [w])
theorem pairL_cons (x y : Nat) (l : List Nat) (w : Nat) : pairL (x :: y :: l) w = (x, y) :: pairL (y :: l) w := rfl
theorem pairL_one (x w : Nat) : pairL [x] w = [(x, w)] := rfl
theorem pairL_len : ∀ (l : List Nat) (w : Nat), (pairL l w).length = l.length
  | [], _ => rfl
  | [x], _ => rfl
  | x :: y :: l, w => by rw [pairL_cons, List.length_cons, pairL_len (y :: l) w]; rfl
theorem pairL_mem : ∀ (l : List Nat) (w : Nat) (q : Nat × Nat), q ∈ pairL l w → q.1 ∈ l ∧ (q.2 ∈ l ∨ q.2 = w)
  | [], _, q, h => by cases h
  | [x], w, q, h => by
    rw [pairL_one] at h
    rw [List.mem_singleton.mp h]
    exact ⟨List.mem_singleton.mpr rfl, .inr rfl⟩
  | x :: y :: l, w, q, h => by
    rw [pairL_cons] at h
    rcases List.mem_cons.mp h with rfl | h
    · exact ⟨List.mem_cons_self, .inl (List.mem_cons_of_mem _ List.mem_cons_self)⟩
    · obtain ⟨a, b⟩ := pairL_mem (y :: l) w q h
      exact ⟨List.mem_cons_of_mem _ a, b.imp (List.mem_cons_of_mem _) id⟩
theorem pairL_next : ∀ (l : List Nat) (w : Nat) (i : Nat) (p q : Nat × Nat), (pairL l w)[i]? = some p → (pairL l w)[i + 1]? = some q → p.2 = q.1
  | [], _, i, _, _, h, _ => by cases h
  | [x], w, i, _, _, _, h => by rw [pairL_one] at h; simp at h
  | x :: y :: l, w, 0, p, q, h1, h2 => by
    rw [pairL_cons] at h1 h2
    have e1 : (x, y) = p := Option.some.inj h1
    have h2 : (pairL (y :: l) w)[0]? = some q := h2
    subst e1
    cases l with
    | nil => rw [pairL_one] at h2; have := Option.some.inj h2; rw [← this]
    | cons z l => rw [pairL_cons] at h2; have := Option.some.inj h2; rw [← this]
  | x :: y :: l, w, i + 1, p, q, h1, h2 => pairL_next (y :: l) w i p q h1 h2
theorem pairL_last : ∀ (l : List Nat) (w : Nat), l ≠ [] → ∃ x, (pairL l w).getLast? = some (x, w)
  | [], _, h => absurd rfl h
  | [x], w, _ => ⟨x, rfl⟩
  | x :: y :: l, w, _ => by
    obtain ⟨z, hz⟩ := pairL_last (y :: l) w (by simp)
    refine ⟨z, ?_⟩
    rw [pairL_cons]
    cases hl : pairL (y :: l) w with
    | nil => rw [hl] at hz; cases hz
    | cons a t => rw [hl] at hz; rw [List.getLast?_cons_cons]; exact hz
theorem pairL_lt : ∀ (l : List Nat) (w : Nat), l.Pairwise (· < ·) → (∀ x ∈ l, x < w) → ∀ q ∈ pairL l w, q.1 < q.2 ∧ ∀ x ∈ l, x ≤ q.1 ∨ q.2 ≤ x
  | [], _, _, _, q, h => by cases h
  | [x], w, _, hw, q, h => by
    rw [pairL_one] at h
    rw [List.mem_singleton.mp h]
    refine ⟨hw x (List.mem_singleton.mpr rfl), fun z hz => ?_⟩
    rw [List.mem_singleton.mp hz]
    exact .inl (Nat.le_refl _)
  | x :: y :: l, w, hl, hw, q, h => by
    have p := List.pairwise_cons.mp hl
    rw [pairL_cons] at h
    rcases List.mem_cons.mp h with rfl | h'
    · refine ⟨p.1 y List.mem_cons_self, fun z hz => ?_⟩
      rcases List.mem_cons.mp hz with rfl | hz
      · exact .inl (Nat.le_refl _)
      · rcases List.mem_cons.mp hz with rfl | hz
        · exact .inr (Nat.le_refl _)
        · have := (List.pairwise_cons.mp p.2).1 z hz
          exact .inr (Nat.le_of_lt this)
    · obtain ⟨a, b⟩ := pairL_lt (y :: l) w p.2 (fun z hz => hw z (List.mem_cons_of_mem _ hz)) q h'
      refine ⟨a, fun z hz => ?_⟩
      rcases List.mem_cons.mp hz with rfl | hz
      · exact .inl (Nat.le_of_lt (p.1 _ (pairL_mem _ _ _ h').1))
      · exact b z hz
/-- just one pair holds a place -/
theorem pairL_one_holds (b x : Nat) : ∀ (l : List Nat) (w T : Nat), (T :: l).Pairwise (· < ·) → (∀ z ∈ T :: l, z < w) → T * b ≤ x → x < w * b → ∃ q, (pairL (T :: l) w).filter (fun q => !decide (x < q.1 * b) && decide (x < q.2 * b)) = [q] ∧ q.1 * b ≤ x ∧ x < q.2 * b
  | [], w, T, _, hw, h1, h2 => by
    refine ⟨(T, w), ?_, h1, h2⟩
    rw [pairL_one, List.filter_cons, if_pos (by simp; omega)]
    rfl
  | U :: l, w, T, hl, hw, h1, h2 => by
    have p := List.pairwise_cons.mp hl
    rw [pairL_cons, List.filter_cons]
    rcases Nat.lt_or_ge x (U * b) with z | z
    · refine ⟨(T, U), ?_, h1, z⟩
      rw [if_pos (by simp; omega)]
      congr 1
      refine List.filter_eq_nil_iff.mpr fun q hq => ?_
      have hq1 := (pairL_mem _ _ _ hq).1
      have hU : U ≤ q.1 := by
        rcases List.mem_cons.mp hq1 with e | e
        · omega
        · exact Nat.le_of_lt ((List.pairwise_cons.mp p.2).1 _ e)
      have := Nat.mul_le_mul_right b hU
      simp
      omega
    · obtain ⟨q, hq, k⟩ := pairL_one_holds b x l w U p.2 (fun z hz => hw z (List.mem_cons_of_mem _ hz)) z h2
      refine ⟨q, ?_, k⟩
      rw [if_neg (by simp; omega)]
      exact hq

/-! the tops -/
section
variable {n g h : Nat}
theorem lcm_dvd_fold : ∀ (l : List Nat) (m : Nat), m ∣ l.foldl (fun m n => m * n / Nat.gcd m n) m ∧ ∀ x ∈ l, x ∣ l.foldl (fun m n => m * n / Nat.gcd m n) m
  | [], m => ⟨Nat.dvd_refl m, fun x hx => by cases hx⟩
  | y :: l, m => by
    obtain ⟨a, b⟩ := lcm_dvd_fold l (Nat.lcm m y)
    refine ⟨Nat.dvd_trans (Nat.dvd_lcm_left m y) a, fun x hx => ?_⟩
    rcases List.mem_cons.mp hx with rfl | hx
    · exact Nat.dvd_trans (Nat.dvd_lcm_right m x) a
    · exact b x hx
theorem turn_dvd {q : Nat × Nat} (hq : q ∈ turnsM n g h) : q.2 ∣ wholeM n g h := (lcm_dvd_fold _ 1).2 q.2 (List.mem_map.mpr ⟨q, hq, rfl⟩)
theorem raw_mem (w : Nat) (rws : List (Nat × Nat)) (x : Nat) : x ∈ rawM n w rws ↔ ∃ q ∈ rws, ∃ p, p ≤ n ∧ q.1 ≤ 2 * p ∧ 2 * p < q.1 + q.2 ∧ x = (2 * p - q.1) * (w / q.2) := by
  unfold rawM rowPre
  rw [List.mem_flatten]
  constructor
  · rintro ⟨l, hl, hx⟩
    obtain ⟨q, hq, rfl⟩ := List.mem_map.mp hl
    obtain ⟨p, hp, rfl⟩ := List.mem_map.mp hx
    obtain ⟨h1, h2⟩ := List.mem_filter.mp hp
    unfold inRow at h2
    rw [Bool.and_eq_true, decide_eq_true_eq, decide_eq_true_eq] at h2
    have := List.mem_range.mp h1
    exact ⟨q, hq, p, by omega, h2.1, h2.2, rfl⟩
  · rintro ⟨q, hq, p, h1, h2, h3, rfl⟩
    refine ⟨_, List.mem_map.mpr ⟨q, hq, rfl⟩, List.mem_map.mpr ⟨p, List.mem_filter.mpr ⟨List.mem_range.mpr (by omega), ?_⟩, rfl⟩⟩
    unfold inRow
    rw [Bool.and_eq_true, decide_eq_true_eq, decide_eq_true_eq]
    exact ⟨h2, h3⟩
theorem tops_mem (x : Nat) : x ∈ topsM n g h ↔ x = 0 ∨ x ∈ rawM n (wholeM n g h) (turnsM n g h) := by
  unfold topsM marksM
  rw [sortU_mem, List.mem_cons]
theorem tops_up : (topsM n g h).Pairwise (· < ·) := sortU_up _
theorem turn_pos (hg : 0 < g) {q : Nat × Nat} (hq : q ∈ turnsM n g h) : 0 < q.2 := by
  have := turnsF_mem _ _ _ _ _ q hq
  omega
theorem tops_ltA (hg : 0 < g) : ∀ x ∈ topsM n g h, x < wholeM n g h := fun x hx => by
  have hw := wholeM_pos (n := n) (h := h) hg
  rcases (tops_mem x).mp hx with rfl | hx
  · exact hw
  · obtain ⟨q, hq, p, h1, h2, h3, rfl⟩ := (raw_mem _ _ x).mp hx
    have d := Nat.div_mul_cancel (turn_dvd hq)
    have hp := turn_pos hg hq
    have hk : 0 < wholeM n g h / q.2 := Nat.div_pos (Nat.le_of_dvd hw (turn_dvd hq)) hp
    calc (2 * p - q.1) * (wholeM n g h / q.2) < q.2 * (wholeM n g h / q.2) := Nat.mul_lt_mul_of_pos_right (by omega) hk
      _ = wholeM n g h := by rw [Nat.mul_comm]; exact d
theorem tops_cons (hg : 0 < g) : ∃ l, topsM n g h = 0 :: l := by
  have h0 : 0 ∈ topsM n g h := (tops_mem 0).mpr (.inl rfl)
  have up := tops_up (n := n) (g := g) (h := h)
  cases hl : topsM n g h with
  | nil => rw [hl] at h0; cases h0
  | cons x l =>
    rw [hl] at h0 up
    rcases List.mem_cons.mp h0 with z | z
    · exact ⟨l, by rw [← z]⟩
    · have := (List.pairwise_cons.mp up).1 0 z
      omega
theorem pairs_is : pairsM n g h = pairL (topsM n g h) (wholeM n g h) := rfl

/-! a needle within a stretch pricks as at its begin -/
theorem same_place (hg : 2 ≤ g) {t b : Nat} (hb : 0 < b) (htb : t < b) {Q : Nat × Nat} (hQ : Q ∈ pairsM n g h) (h1 : Q.1 * b ≤ t * wholeM n g h) (h2 : t * wholeM n g h < Q.2 * b) {q : Nat × Nat} (hq : q ∈ turnsM n g h) :
    placeN t b q = placeN Q.1 (wholeM n g h) q ∨ (n ≤ placeN t b q ∧ n ≤ placeN Q.1 (wholeM n g h) q) := by
  have hw := wholeM_pos (n := n) (h := h) (show 0 < g by omega)
  have dd := Nat.div_mul_cancel (turn_dvd hq)
  have gap := (pairL_lt _ _ tops_up (tops_ltA (show 0 < g by omega)) Q hQ).2
  generalize hW : wholeM n g h = w at *
  obtain ⟨T, U⟩ := Q
  obtain ⟨bg, l⟩ := q
  show placeN t b (bg, l) = placeN T w (bg, l) ∨ (n ≤ placeN t b (bg, l) ∧ n ≤ placeN T w (bg, l))
  have h1 : T * b ≤ t * w := h1
  have h2 : t * w < U * b := h2
  have dd : w / l * l = w := dd
  -- the later place is not lower
  have mono : placeN T w (bg, l) ≤ placeN t b (bg, l) := by
    unfold placeN
    show (bg * w + l * T) / (2 * w) ≤ (bg * b + l * t) / (2 * b)
    rw [Nat.le_div_iff_mul_le (by omega)]
    have k : (bg * w + l * T) / (2 * w) * (2 * w) ≤ bg * w + l * T := Nat.div_mul_le_self _ _
    generalize (bg * w + l * T) / (2 * w) = P at k ⊢
    -- multiply by b, divide by w
    have k2 : P * (2 * b) * w ≤ (bg * b + l * t) * w := by
      have a1 : P * (2 * w) * b ≤ (bg * w + l * T) * b := Nat.mul_le_mul_right b k
      have a2 : P * (2 * b) * w = P * (2 * w) * b := by
        rw [Nat.mul_assoc P, Nat.mul_assoc P, Nat.mul_assoc 2, Nat.mul_assoc 2, Nat.mul_comm b w]
      have a3 : (bg * w + l * T) * b ≤ (bg * b + l * t) * w := by
        rw [Nat.add_mul, Nat.add_mul, Nat.mul_assoc bg, Nat.mul_assoc bg, Nat.mul_comm w b, Nat.mul_assoc l, Nat.mul_assoc l]
        exact Nat.add_le_add_left (Nat.mul_le_mul_left l h1) _
      omega
    exact Nat.le_of_mul_le_mul_right k2 hw
  rcases Nat.lt_or_ge (placeN T w (bg, l)) (placeN t b (bg, l)) with lt | ge
  · -- a cell begins between
    refine .inr ?_
    have low : n ≤ placeN T w (bg, l) := by
      refine Nat.le_of_not_lt fun hlt => ?_
      obtain ⟨c, hc⟩ : ∃ c, c = placeN T w (bg, l) + 1 := ⟨_, rfl⟩
      have hcn : c ≤ n := by omega
      have hct : c ≤ placeN t b (bg, l) := by omega
      -- beyond the begin
      have b1 : bg * w + l * T < 2 * c * w := by
        have : (bg * w + l * T) / (2 * w) < c := by
          show placeN T w (bg, l) < c
          omega
        have := (Nat.div_lt_iff_lt_mul (by omega)).mp this
        rw [show 2 * c * w = c * (2 * w) by rw [Nat.mul_comm 2 c, Nat.mul_assoc]]
        exact this
      have b2 : 2 * c * b ≤ bg * b + l * t := by
        have := (Nat.le_div_iff_mul_le (show 0 < 2 * b by omega)).mp hct
        rw [show 2 * c * b = c * (2 * b) by rw [Nat.mul_comm 2 c, Nat.mul_assoc]]
        exact this
      have b3 : bg < 2 * c := by
        refine Nat.lt_of_mul_lt_mul_right (a := w) ?_
        omega
      have b4 : l * t < l * b := by
        rcases Nat.eq_zero_or_pos l with z | z
        · subst z
          simp at dd
          omega
        · exact Nat.mul_lt_mul_of_pos_left htb z
      have b5 : 2 * c < bg + l := by
        refine Nat.lt_of_mul_lt_mul_right (a := b) ?_
        rw [Nat.add_mul]
        omega
      -- the mark
      have hm : (2 * c - bg) * (w / l) ∈ topsM n g h := (tops_mem _).mpr (.inr ((raw_mem _ _ _).mpr ⟨(bg, l), hq, c, hcn, by show bg ≤ 2 * c; omega, b5, by rw [hW]⟩))
      have hl0 : 0 < l := by omega
      have m1 : T < (2 * c - bg) * (w / l) := by
        refine Nat.lt_of_mul_lt_mul_right (a := l) ?_
        rw [Nat.mul_assoc, dd, Nat.sub_mul, Nat.mul_comm T l]
        omega
      have m2 : (2 * c - bg) * (w / l) * b ≤ t * w := by
        have a1 : (2 * c - bg) * b ≤ l * t := by
          rw [Nat.sub_mul]
          omega
        have a2 := Nat.mul_le_mul_left (w / l) a1
        rw [show (2 * c - bg) * (w / l) * b = w / l * ((2 * c - bg) * b) by rw [Nat.mul_comm (2 * c - bg), Nat.mul_assoc]]
        rw [show t * w = w / l * (l * t) by rw [← Nat.mul_assoc, dd, Nat.mul_comm]]
        exact a2
      rcases gap _ hm with z | z
      · have z : (2 * c - bg) * (w / l) ≤ T := z
        omega
      · have z : U ≤ (2 * c - bg) * (w / l) := z
        have := Nat.mul_le_mul_right b z
        omega
    exact ⟨Nat.le_trans low mono, low⟩
  · exact .inl (Nat.le_antisymm ge mono)
theorem filter_same {n : Nat} {f f' : Nat × Nat → Nat} : ∀ (l : List (Nat × Nat)), (∀ q ∈ l, f q = f' q ∨ (n ≤ f q ∧ n ≤ f' q)) → (l.map f).filter (fun p => decide (p < n)) = (l.map f').filter (fun p => decide (p < n))
  | [], _ => rfl
  | q :: l, h => by
    rw [List.map_cons, List.map_cons, List.filter_cons, List.filter_cons, filter_same l fun x hx => h x (List.mem_cons_of_mem _ hx)]
    rcases h q List.mem_cons_self with e | ⟨a, b⟩
    · rw [e]
    · rw [if_neg (by simp; omega), if_neg (by simp; omega)]
theorem same_pricks (hg : 2 ≤ g) {t b e : Nat} (hb : 0 < b) (htb : t < b) {Q : Nat × Nat} (hQ : Q ∈ pairsM n g h) (h1 : Q.1 * b ≤ t * wholeM n g h) (h2 : t * wholeM n g h < Q.2 * b) :
    pricksM n g h e Q.1 (wholeM n g h) = pricksM n g h e t b := by
  have k : (placesM n g h t b).filter (fun p => decide (p < n)) = (placesM n g h Q.1 (wholeM n g h)).filter (fun p => decide (p < n)) := filter_same _ fun q hq => same_place hg hb htb hQ h1 h2 hq
  unfold pricksM
  rw [k]
end
open PySem PySem.Spec PyProof.Rows L2 Evl
theorem inV_vis (c : Nat) : ∀ l : List Nat, inV (vi c) (l.map vi) = l.contains c
  | [] => rfl
  | x :: l => by
    have ih := inV_vis c l
    unfold inV at ih ⊢
    rw [List.map_cons, List.any_cons, ih, List.contains_cons]
    congr 1
    show (((x : Int) == (c : Int)) : Bool) = (c == x)
    rw [Bool.eq_iff_iff, beq_iff_eq, beq_iff_eq]
    omega
/-- which stretch an angle lies in -/
theorem angle_in {n g h e t b : Nat} (hg : 2 ≤ g) (htb : t < b) : ∃ Q ∈ pairsM n g h, pricksM n g h e t b = pricksM n g h e Q.1 (wholeM n g h) := by
  obtain ⟨l, hl⟩ := tops_cons (n := n) (g := g) (h := h) (by omega)
  have hw : 0 < wholeM n g h := wholeM_pos (by omega)
  have up := tops_up (n := n) (g := g) (h := h)
  have lt := tops_ltA (n := n) (g := g) (h := h) (by omega)
  rw [hl] at up lt
  have h2 : t * wholeM n g h < wholeM n g h * b := by
    rw [Nat.mul_comm (wholeM n g h) b]
    exact Nat.mul_lt_mul_of_pos_right htb hw
  obtain ⟨Q, hQ, q1, q2⟩ := pairL_one_holds b (t * wholeM n g h) l (wholeM n g h) 0 up lt (by omega) h2
  have hm : Q ∈ pairsM n g h := by
    rw [pairs_is, hl]
    have : Q ∈ (pairL (0 :: l) (wholeM n g h)).filter (fun q => !decide (t * wholeM n g h < q.1 * b) && decide (t * wholeM n g h < q.2 * b)) := by rw [hQ]; exact List.mem_singleton.mpr rfl
    exact (List.mem_filter.mp this).1
  exact ⟨Q, hm, (same_pricks hg (by omega) htb hm q1 q2).symm⟩
end Nr
namespace Nr
open PySem PySem.Spec PyProof.Rows L2 Evl

/-! rules -/
section
variable {X : Cx}
def rAllD (K : PySem.W.Frag) : List V → Hp → VK → Prop := fun vs H Q => ∃ (a : Addr) (ds : List PyData), vs = [V.ref a] ∧ Dp K H (.ref a) (.list ds) ∧ PyData.plainAll ds = true ∧ (∀ x ∈ ds, x.fits63) ∧ Q (.bl (ds.all PyData.truthy)) H
theorem cr_allD (hc : X.calm = true) : CallR X (.builtin "all") (rAllD X.K) := by
  intro pins s σ H vs us Q I r h
  obtain ⟨a, ds, rfl, hd, hp, hf, q⟩ := h
  rw [Vals.ref1 r]
  cases hd with
  | lst hs ha =>
    obtain ⟨its, rv, hl, _⟩ := I.list hs
    obtain ⟨as, h4⟩ := Dp.readsAll I ds _ its ha rv
    exact PySem.W.all_list_data (I.ok.hd hc) hl.isList h4 hp hf fun h' tk hk => ⟨.bl _, H, I.kept (t' := tk) hk, rfl, q⟩
def rNotInL (K : PySem.W.Frag) : R2 := fun x y H Q => ∃ d ds, Dp K H x d ∧ Dp K H y (.list ds) ∧ SeqAt.shaped d = true ∧ SeqAt.shaped (.list ds) = true ∧ d.depth ≤ 10 ∧ Q (.bl (!ds.any fun z => PyData.eqv z d)) H
theorem op_notInL (hu : X.A.units + 64 < cLine) : OpR X (compareOp .NotIn) (rNotInL X.K) := by
  intro pins s σ H x y v u Q I rx ry h
  obtain ⟨d, ds, hd, he, sd, se, hdp, q⟩ := h
  obtain ⟨as, r1⟩ := Dp.reads I d x v hd rx
  obtain ⟨bs, r2⟩ := Dp.reads I (.list ds) y u he ry
  exact SeqAt.notIn_list_reads r2 r1 (SeqAt.canLay_of_shaped se) (SeqAt.canLay_of_shaped sd) (by have := Nat.min_le_right (PyData.depthAll ds) d.depth; omega) ⟨.bl _, H, I, rfl, q⟩
def rSetT (K : PySem.W.Frag) (w : World) : List V → Hp → VK → Prop := fun vs H Q => ∃ (p : Addr) (ns : List Int), vs = [.ref p] ∧ SqT K H p (ns.map V.int) ∧ ns.length ≤ 1000 ∧ ∀ q c, H q = none → c ≤ ns.length → Q (.ref q) (upd H q (SetO w q (fun j => decide (j ∈ ns)) c))
theorem cr_setT (hc : X.calm = true) : CallR X (.type "set") (rSetT X.K X.w) := by
  intro pins s σ H vs us Q I r h
  obtain ⟨p, ns, rfl, hq, hl, q⟩ := h
  rw [Vals.ref1 r]
  obtain ⟨its, rv, pt, hz⟩ := I.tuple hq
  have hi : IntsAre its.toArray.toList ns := ints_of_vals rv
  refine call_set_tupI ns (I.ok.hd hc) (show s.heap.IsTuple p its.toArray from pt) hi (by unfold scanBound; omega) fun h' tk c R1 hcn k => ?_
  exact ⟨.ref s.heap.objs.size, _, I.laid (t' := tk) k (Nat.le_refl _) (setO_new R1), rfl, q _ c (I.hok.fresh (Nat.le_refl _)) hcn⟩
end
section
variable {K : PySem.W.Frag} {σ : L2.St} {H : Hp} {t : TT} {te : TE}
theorem el_lcT {a : Addr} {xs : List V} {tl : TE} {j : Nat} {vs : List Nat} (f : Nat → Bool) (v : Nat → V) (h : Ev tl σ H (.ref a)) (hx : SqT K H a xs) (hz : xs.length ≤ 40000) (hw : ∀ x, wipe ((wipe σ vs).set j (some x)) vs = wipe σ vs)
    (ht : ∀ (i : Nat) (x : V) H1, Ex H H1 → xs[i]? = some x → EvT t ((wipe σ vs).set j (some x)) H1 (f i)) (he : ∀ (i : Nat) (x : V) H1, Ex H H1 → xs[i]? = some x → f i = true → Ev te ((wipe σ vs).set j (some x)) H1 (v i)) :
    EvL (tLc (iTup K tl) (gName j) t te vs) σ H (given xs.length f v) := fun H0 e Q q => h H0 e _ fun H1 e1 => ⟨a, rfl, ⟨xs, ex_t (e.trans e1) hx⟩, fun Dl hD =>
  lc_tup (xs := xs) (Cw H1 f v Dl) ⟨hD, Ex.new hD, upd_same⟩ (fun i H' _ p => ex_t ((e.trans e1).trans p.2.1) hx) (fun i x H' hi p => ⟨hw x, cw_turn p (by have := (List.getElem?_eq_some_iff.mp hi).1; omega) (ht i x H1 (e.trans e1) hi) (fun hf => he i x H1 (e.trans e1) hi hf)⟩)
    (fun H' p => q Dl H' (fresh_back e1 p.1) (e1.trans p.2.1) p.2.2)⟩
end
theorem flat_vis (l : List Nat) : (l.map vi).all flatV = true := by
  rw [List.all_eq_true]
  intro x hx
  obtain ⟨n, _, rfl⟩ := List.mem_map.mp hx
  rfl
/-- the comprehension [x for x in l if P x], over numbers -/
theorem given_filter {l : List Nat} {f : Nat → Bool} {v : Nat → V} (P : Nat → Bool) (hf : ∀ i x, l[i]? = some x → f i = P x) (hv : ∀ i x, l[i]? = some x → v i = vi x) : given l.length f v = (l.filter P).map vi := by
  have := given_vis (l := l) (f := f) (v := v) P (fun x => x) hf (fun i x hx _ => hv i x hx)
  rw [List.map_id'] at this
  exact this

end Nr
namespace Nr
open PySem PySem.Spec PyProof.Rows L2 Evl

/-! the numbers -/
def unwM (cs ws : List Nat) : List Nat := cs.filter fun c => !ws.contains c
def minN : List Nat → Nat
  | [] => 0
  | x :: l => l.foldl min x
theorem foldl_min : ∀ (l : List Nat) (x : Nat), l.foldl min x ≤ x ∧ (∀ y ∈ l, l.foldl min x ≤ y) ∧ (l.foldl min x = x ∨ l.foldl min x ∈ l)
  | [], x => ⟨Nat.le_refl _, (fun y hy => by cases hy), .inl rfl⟩
  | y :: l, x => by
    obtain ⟨h1, h2, h3⟩ := foldl_min l (min x y)
    show l.foldl min (min x y) ≤ x ∧ (∀ z ∈ y :: l, l.foldl min (min x y) ≤ z) ∧ (l.foldl min (min x y) = x ∨ l.foldl min (min x y) ∈ y :: l)
    refine ⟨by omega, fun z hz => ?_, ?_⟩
    · rcases List.mem_cons.mp hz with rfl | hz
      · omega
      · exact h2 z hz
    · rcases h3 with h3 | h3
      · rcases Nat.le_total x y with a | a
        · exact .inl (by omega)
        · exact .inr (by rw [h3, Nat.min_eq_right a]; exact List.mem_cons_self)
      · exact .inr (List.mem_cons_of_mem _ h3)
theorem minN_is {l : List Nat} (h : l ≠ []) : minN l ∈ l ∧ ∀ y ∈ l, minN l ≤ y := by
  cases l with
  | nil => exact absurd rfl h
  | cons x l =>
    obtain ⟨h1, h2, h3⟩ := foldl_min l x
    refine ⟨?_, fun y hy => ?_⟩
    · rcases h3 with h3 | h3
      · show l.foldl min x ∈ x :: l
        rw [h3]
        exact List.mem_cons_self
      · exact List.mem_cons_of_mem _ h3
    · rcases List.mem_cons.mp hy with rfl | hy
      · exact h1
      · exact h2 y hy
def grpM (n g h e : Nat) : List (List Nat) := (pairsM n g h).map fun q => pricksM n g h e q.1 (wholeM n g h)
def harmsM (G : List (List Nat)) (ws : List Nat) (c : Nat) : List (List Nat) := (G.filter fun lot => lot.contains c).map fun lot => unwM lot ws
def allSome (L : List (List Nat)) : Bool := L.all fun l => !l.isEmpty
def barP (G : List (List Nat)) (ws l : List Nat) : List (Nat × List Nat) := (l.filter fun c => allSome (harmsM G ws c)).map fun c => (c, (harmsM G ws c).map minN)
def barM (G : List (List Nat)) (ws : List Nat) : List (Nat × List Nat) := barP G ws ws
def goodM (G : List (List Nat)) (ws : List Nat) : List Nat := ws.filter fun c => !((barM G ws).map (·.1)).contains c
def bD (p : Nat × List Nat) : PyData := .tuple [di p.1, .tuple (p.2.map di)]
theorem noL_bD (p : Nat × List Nat) : noL (bD p) = true := by
  unfold bD
  rw [noL, noLs, noLs, noLs, noL, noLs_dis, noL]
  rfl
theorem barP_yes {G : List (List Nat)} {ws l : List Nat} {c : Nat} (h : allSome (harmsM G ws c) = true) : barP G ws (l ++ [c]) = barP G ws l ++ [(c, (harmsM G ws c).map minN)] := by
  unfold barP
  rw [List.filter_append, List.map_append, List.filter_cons, if_pos h]
  rfl
theorem barP_no {G : List (List Nat)} {ws l : List Nat} {c : Nat} (h : allSome (harmsM G ws c) = false) : barP G ws (l ++ [c]) = barP G ws l := by
  unfold barP
  rw [List.filter_append, List.map_append, List.filter_cons, if_neg (by rw [h]; decide)]
  simp
theorem barP_len {G : List (List Nat)} {ws : List Nat} (l : List Nat) : (barP G ws l).length ≤ l.length := by
  unfold barP
  rw [List.length_map]
  exact List.length_filter_le _ _
theorem grp_len {n g h e : Nat} : (grpM n g h e).length = (strM n g h e).length := by
  unfold grpM strM
  rw [List.length_map, List.length_map]
theorem str_len {n g h e : Nat} (hn : n ≤ 24) (hg : 4 ≤ g) (hg2 : g ≤ 16) (hh : h ≤ 8) : (strM n g h e).length ≤ 61 := by
  obtain ⟨_, hraw⟩ := ok_at hn hg hg2 hh
  have := sortU_len (0 :: rawM n (wholeM n g h) (turnsM n g h))
  rw [List.length_cons] at this
  unfold strM pairsM
  rw [List.length_map, List.length_zip]
  unfold topsM marksM
  omega
/-- a stretch, taken apart -/
theorem str_get {K : PySem.W.Frag} {H : Hp} {v : V} {n g h e w : Nat} {q : Nat × Nat} (d : Dp K H v (strD n g h e w q)) : ∃ ra a b ca, v = .ref ra ∧ SqT K H ra [a, b, .ref ca] ∧ Dp K H a (lowD q.1 w) ∧ Dp K H b (lowD q.2 w) ∧ SqT K H ca ((pricksM n g h e q.1 w).map vi) := by
  unfold strD at d
  obtain ⟨ra, xs, rfl, hs, ha⟩ := dp_tup d
  cases ha with
  | cons h1 ha =>
  cases ha with
  | cons h2 ha =>
  cases ha with
  | cons h3 ha =>
  cases ha
  obtain ⟨ca, ys, rfl, h4, h5⟩ := dp_tup h3
  have e : ys = (pricksM n g h e q.1 w).map vi := by
    have h6 : DpAll K H ys (((pricksM n g h e q.1 w).map fun k : Nat => (k : Int)).map PyData.int) := by
      rw [List.map_map]
      exact h5
    have := dpa_ints h6
    rw [List.map_map] at this
    exact this
  rw [e] at h4
  exact ⟨ra, _, _, ca, rfl, hs, h1, h2, h4⟩
theorem grp_at {n g h e i : Nat} {d : PyData} (hd : (strM n g h e)[i]? = some d) : ∃ q, (pairsM n g h)[i]? = some q ∧ d = strD n g h e (wholeM n g h) q ∧ (grpM n g h e)[i]? = some (pricksM n g h e q.1 (wholeM n g h)) := by
  unfold strM at hd
  rw [List.getElem?_map] at hd
  obtain ⟨q, hq, rfl⟩ := Option.map_eq_some_iff.mp hd
  refine ⟨q, hq, rfl, ?_⟩
  unfold grpM
  rw [List.getElem?_map, hq]
  rfl
/-- lists of numbers, each at its own place -/
abbrev Lots (H : Hp) (D : Addr) : List V → List (List Nat) → Prop := Paired fun v l => ∃ q, v = .ref q ∧ q ≠ D ∧ H q = some (.lst (l.map vi))
theorem Lots.ex {H H' : Hp} {D : Addr} {vs : List V} {L : List (List Nat)} (h : Lots H D vs L) (e : Ex H H') : Lots H' D vs L := Paired.mapP h fun _ _ ⟨q, a, b, c⟩ => ⟨q, a, b, e _ _ c⟩
theorem Lots.mut {H : Hp} {D : Addr} {o : HO} {vs : List V} {L : List (List Nat)} (h : Lots H D vs L) : Lots (upd H D o) D vs L := Paired.mapP h fun _ _ ⟨q, a, b, c⟩ => ⟨q, a, b, by rw [upd_ne b]; exact c⟩
theorem Lots.dp {K : PySem.W.Frag} {H : Hp} {D : Addr} : ∀ {vs : List V} {L : List (List Nat)}, Lots H D vs L → DpAll K H vs (L.map fun l => .list (l.map di))
  | _, _, .nil => .nil
  | _, _, .cons ⟨q, a, b, c⟩ t => by
    subst a
    exact .cons (lst_of c) (Lots.dp t)
theorem lots_plain : ∀ L : List (List Nat), PyData.plainAll (L.map fun l => PyData.list (l.map di)) = true
  | [] => rfl
  | l :: L => by
    have h1 : ∀ k : List Nat, PyData.plainAll (k.map di) = true := fun k => by
      induction k with
      | nil => rfl
      | cons x k ih => rw [List.map_cons, PyData.plainAll, ih]; rfl
    rw [List.map_cons, PyData.plainAll, lots_plain L, PyData.plain, h1 l]
    rfl
theorem lots_truth (L : List (List Nat)) : (L.map fun l => PyData.list (l.map di)).all PyData.truthy = allSome L := by
  unfold allSome
  rw [List.all_map]
  refine List.all_congr rfl fun l => ?_
  show (!(l.map di).isEmpty) = !l.isEmpty
  cases l <;> rfl
theorem harms_yes {G : List (List Nat)} {ws lot : List Nat} {c : Nat} (h : lot.contains c = true) : harmsM (G ++ [lot]) ws c = harmsM G ws c ++ [unwM lot ws] := by
  unfold harmsM
  rw [List.filter_append, List.map_append, List.filter_cons, if_pos h]
  rfl
theorem harms_no {G : List (List Nat)} {ws lot : List Nat} {c : Nat} (h : lot.contains c = false) : harmsM (G ++ [lot]) ws c = harmsM G ws c := by
  unfold harmsM
  rw [List.filter_append, List.map_append, List.filter_cons, if_neg (by rw [h]; decide)]
  exact List.append_nil _
theorem grp_short {n g h e : Nat} {lot : List Nat} (hl : lot ∈ grpM n g h e) : lot.length ≤ 2 * n := by
  obtain ⟨q', _, rfl⟩ := List.mem_map.mp hl
  exact pricks_len n g h e q'.1 (wholeM n g h)
theorem harms_short {n g h e : Nat} {ws : List Nat} {c : Nat} {l : List Nat} (hl : l ∈ harmsM (grpM n g h e) ws c) : l.length ≤ 2 * n := by
  obtain ⟨lot, h1, rfl⟩ := List.mem_map.mp hl
  have := grp_short (List.mem_filter.mp h1).1
  exact Nat.le_trans (List.length_filter_le _ _) this
theorem given_all (n : Nat) (v : Nat → V) : given n (fun _ => true) v = (List.range n).map v := by
  unfold given
  rw [List.filter_eq_self.mpr fun _ _ => rfl]
theorem range_at {α : Type} (l : List α) (d : α) (F : α → V) : (List.range l.length).map (fun i => F (l.getD i d)) = l.map F := by
  refine List.ext_getElem (by simp) fun i h1 h2 => ?_
  simp at h1
  simp [h1]
section
variable {K : PySem.W.Frag} {σ : L2.St} {H : Hp}
theorem ev_minL {q : Addr} {l : List Nat} {j : Nat} (hj : σ[j]? = some (some (.ref q))) (hq : H q = some (.lst (l.map vi))) (hl : l ≠ []) : Ev (tCB (rMin K) (tCons (tVar j) tNil)) σ H (vi (minN l)) := fun H1 e Q q' => by
  refine ⟨.ref q, hj, q, l.map fun k : Nat => (k : Int), rfl, ?_, by rw [List.length_map]; exact List.length_pos_iff.mpr hl, fun m hm hmin => ?_⟩
  · rw [List.map_map]
    exact sq_of (e _ _ hq)
  · obtain ⟨k, hk, rfl⟩ := List.mem_map.mp hm
    obtain ⟨m1, m2⟩ := minN_is hl
    have h1 := m2 k hk
    have h2 := hmin (minN l : Nat) (List.mem_map.mpr ⟨_, m1, rfl⟩)
    have : k = minN l := by omega
    rw [this]
    exact q' H1 (Ex.refl H1)
theorem tc_one {r : List V → Hp → VK → Prop} {tl : TE} {Q : VK} (h : tl σ H fun x H1 => r [x] H1 Q) : tCB r (tCons tl tNil) σ H Q := h
theorem ta_one {te : TE} {Q : List V → Hp → Prop} (h : te σ H fun x H1 => Q [x] H1) : tCons te tNil σ H Q := h
def rTupS (K : PySem.W.Frag) : List V → Hp → VK → Prop := fun xs H Q => ∃ p ys, xs = [.ref p] ∧ ((SqL K H p ys ∧ ∀ l, H l = none → Q (.ref l) (upd H l (.tup ys))) ∨ (SqT K H p ys ∧ Q (.ref p) H))
theorem eu_tupleOf {tl : TE} {xs : List V} (h : EvL tl σ H xs) : EvU (tCB (rTupS K) (tCons tl tNil)) σ H xs := fun H1 e Q q =>
  h H1 e _ fun p H2 hp e2 hx => ⟨p, xs, rfl, .inl ⟨sq_of hx, fun l hl => q l _ (fresh_back e2 hl) (e2.trans (Ex.new hl)) upd_same⟩⟩
/-- [min(x) for x in xs], xs a list of lists of numbers -/
theorem el_mins {D : Addr} {hs : List V} {L : List (List Nat)} {i j : Nat} {vs : List Nat} (hi : Ev (tVar i) σ H (.ref D)) (hD : H D = some (.lst hs)) (hL : Lots H D hs L) (ha : allSome L = true) (hz : hs.length ≤ 1000) (hw : ∀ x, wipe ((wipe σ vs).set j (some x)) vs = wipe σ vs) (hj : ∀ x, ((wipe σ vs).set j (some x))[j]? = some (some x)) :
    EvL (tLc (iList K (tVar i)) (gName j) tYes (tCB (rMin K) (tCons (tVar j) tNil)) vs) σ H ((L.map minN).map vi) := by
  have k := el_lcL (K := K) (σ := σ) (H := H) (t := tYes) (te := tCB (rMin K) (tCons (tVar j) tNil)) (tl := tVar i) (j := j) (vs := vs) (fun _ => true) (fun i => vi (minN (L.getD i []))) hi (sq_of hD) (by omega) hw (fun i x H1 e1 hx => et_yes) (fun i x H1 e1 hx _ => ?_)
  · have el : hs.length = L.length := Paired.length hL
    rw [el, given_all, range_at L [] (fun l => vi (minN l))] at k
    rw [List.map_map]
    exact k
  · obtain ⟨l, hl, q, rfl, _, hq⟩ := paired_get hL hx
    have e : L.getD i [] = l := by rw [List.getD_eq_getElem?_getD, hl]; rfl
    rw [e]
    refine ev_minL (hj _) (e1 _ _ hq) ?_
    intro z
    unfold allSome at ha
    have := List.all_eq_true.mp ha l (List.mem_of_getElem? hl)
    rw [z] at this
    cases this
theorem rc_allL {D : Addr} {hs : List V} {L : List (List Nat)} (hD : H D = some (.lst hs)) (hL : Lots H D hs L) (hz : ∀ l ∈ L, l.length ≤ 1000) : RC (rAllD K) [.ref D] H (.bl (allSome L)) := fun H1 e Q q => by
  refine ⟨D, L.map fun l => .list (l.map di), rfl, .lst (sq_of (e _ _ hD)) (hL.ex e).dp, lots_plain L, fun x hx => ?_, ?_⟩
  · obtain ⟨l, hl, rfl⟩ := List.mem_map.mp hx
    have := hz l hl
    show (((l.map di).length : Nat) : Int) < 2 ^ 63
    rw [List.length_map]
    omega
  · rw [lots_truth]
    exact q H1 (Ex.refl H1)
end
theorem sh_lots (L : List (List Nat)) : SeqAt.shaped (.list (L.map fun l => .list (l.map di))) = true := (shp_list (k := 1) (f := fun l : List Nat => PyData.list (l.map di)) (fun l => shp_list (f := di) (fun n : Nat => shp_int 0 (n : Int)) l) L).ok (by decide)
theorem lots_no (L : List (List Nat)) : (!(L.map fun l => PyData.list (l.map di)).any fun z => PyData.eqv z (.list [])) = allSome L := by
  unfold allSome
  induction L with
  | nil => rfl
  | cons l L ih =>
    rw [List.map_cons, List.any_cons, List.all_cons, ← ih, Bool.not_or]
    congr 1
    cases l <;> rfl
theorem unw_lc {K : PySem.W.Frag} {σ : L2.St} {H : Hp} {a b : Addr} {cs ws : List Nat} {i j m : Nat} {vs : List Nat} (hi : Ev (tVar i) σ H (.ref a)) (ha : SqT K H a (cs.map vi)) (hb : SqT K H b (ws.map vi)) (hl : cs.length ≤ 1000) (hw : ∀ x, wipe ((wipe σ vs).set j (some x)) vs = wipe σ vs)
    (hj : ∀ x, ((wipe σ vs).set j (some x))[j]? = some (some x)) (hm : ∀ x, ((wipe σ vs).set j (some x))[m]? = some (some (.ref b))) :
    EvL (tLc (iTup K (tVar i)) (gName j) (tTest (tOp (rIn K true) (tVar j) (tVar m))) (tVar j) vs) σ H ((unwM cs ws).map vi) := by
  have k := el_lcT (K := K) (σ := σ) (H := H) (t := tTest (tOp (rIn K true) (tVar j) (tVar m))) (te := tVar j) (tl := tVar i) (j := j) (vs := vs) (fun i => !ws.contains (cs.getD i 0)) (fun i => vi (cs.getD i 0)) hi ha (by rw [List.length_map]; omega) hw
    (fun i x H1 e1 hx => ?_) (fun i x H1 e1 hx _ => ?_)
  · rw [List.length_map, given_filter (fun c => !ws.contains c) (fun i x hx => by rw [List.getD_eq_getElem?_getD, hx]; rfl) (fun i x hx => by rw [List.getD_eq_getElem?_getD, hx]; rfl)] at k
    exact k
  · rw [List.getElem?_map] at hx
    obtain ⟨c, hc, rfl⟩ := Option.map_eq_some_iff.mp hx
    have e : cs.getD i 0 = c := by rw [List.getD_eq_getElem?_getD, hc]; rfl
    rw [e]
    have := et_test (ev_op (ev_var (hj (vi c)) (H := H1)) (ev_var (hm (vi c))) (rv_niT (K := K) (ex_t e1 hb) rfl (flat_vis ws)))
    rw [inV_vis] at this
    exact this
  · rw [List.getElem?_map] at hx
    obtain ⟨c, hc, rfl⟩ := Option.map_eq_some_iff.mp hx
    have e : cs.getD i 0 = c := by rw [List.getD_eq_getElem?_getD, hc]; rfl
    rw [e]
    exact ev_var (hj (vi c))
theorem cells_get {K : PySem.W.Frag} {H : Hp} {v : V} {l : List Nat} (d : Dp K H v (.tuple (l.map di))) : ∃ a, v = .ref a ∧ SqT K H a (l.map vi) := by
  obtain ⟨ca, ys, rfl, h4, h5⟩ := dp_tup d
  have h6 : DpAll K H ys ((l.map fun k : Nat => (k : Int)).map PyData.int) := by
    rw [List.map_map]
    exact h5
  have := dpa_ints h6
  rw [List.map_map] at this
  have e : ys = l.map vi := this
  rw [e] at h4
  exact ⟨ca, rfl, h4⟩
theorem yes_if {σ : L2.St} {H : Hp} {A B : Hp → Prop} (h : A H) : tYes σ H fun b H3 => if b = true then A H3 else B H3 := by
  show if (true : Bool) = true then A H else B H
  rw [if_pos rfl]
  exact h
end Nr
namespace Nr
open PySem PySem.Spec PyProof.Rows L2 Evl
section
variable {P : Program} {w : World} {K : PySem.W.Frag} {mg : Str → Option Value} {base : Heap}
/-! unwished -/
abbrev sUnw : Stmt := topS 12
abbrev nUnw : List Str := ["cells", "wished", "cell"]
theorem scUnw : FnScope nUnw ["cells", "wished"] (defScope sUnw) := ⟨rfl, rfl, rfl, by decide +kernel, rfl, by decide +kernel, by decide +kernel⟩
def spUnw (K : PySem.W.Frag) : Sp := fun vs H Q _ => ∃ (a b : Addr) (cs ws : List Nat), vs = [.ref a, .ref b] ∧ SqT K H a (cs.map vi) ∧ SqT K H b (ws.map vi) ∧ cs.length ≤ 1000 ∧ RetL ((unwM cs ws).map vi) H Q
theorem ok_unw {f : Addr} {fd : FuncData} {k : Nat} (F : Fun K "unwished" "unwished" sUnw f fd) : FnOk P w K mg base CX0 (k + 1) f fd ["cells", "wished"] (spUnw K) := by
  refine F.ok scUnw (fun vs H Q E h => ?_) (fun cdv A outer s H vs Q E hr h => ?_)
  · obtain ⟨a, b, cs, ws, rfl, _⟩ := h
    rfl
  obtain ⟨a, b, cs, ws, rfl, ha, hb, hl, q⟩ := h
  refine ⟨_, pss_one (ps_ret (pe_lc (own := [("cell", 2)]) (g := gName 2) (by rfl) scUnw.nd (pi_tup (pv 0)) (blkOk_by (N := nUnw) (sc := defScope sUnw) (by decide +kernel))
    (fun _ _ _ _ _ => pg_name (i := 2) scUnw.nd rfl (Or.inl rfl)) (fun _ _ _ _ _ => pts_one (pt_cmpR (show OpR _ (compareOp .NotIn) (rIn K true) from op_notIn_seq) (pv 2) (pv 1) rfl)) (fun _ _ _ _ _ => pv 2))), ?_⟩
  refine s_retL (xs := (unwM cs ws).map vi) ?_ q
  have k := el_lcT (K := K) (σ := [some (.ref a), some (.ref b), none]) (H := H) (t := tTest (tOp (rIn K true) (tVar 2) (tVar 1))) (te := tVar 2) (tl := tVar 0) (j := 2) (vs := [2]) (fun i => !ws.contains (cs.getD i 0)) (fun i => vi (cs.getD i 0)) (ev_var rfl) ha (by rw [List.length_map]; omega) (fun _ => rfl)
    (fun i x H1 e1 hx => ?_) (fun i x H1 e1 hx _ => ?_)
  · rw [List.length_map, given_filter (fun c => !ws.contains c) (fun i x hx => by rw [List.getD_eq_getElem?_getD, hx]; rfl) (fun i x hx => by rw [List.getD_eq_getElem?_getD, hx]; rfl)] at k
    exact k
  · rw [List.getElem?_map] at hx
    obtain ⟨c, hc, rfl⟩ := Option.map_eq_some_iff.mp hx
    have e : cs.getD i 0 = c := by rw [List.getD_eq_getElem?_getD, hc]; rfl
    rw [e]
    have := et_test (ev_op (ev_var (i := 2) (σ := [some (.ref a), some (.ref b), some (vi c)]) (H := H1) rfl) (ev_var (i := 1) rfl) (rv_niT (K := K) (ex_t e1 hb) rfl (flat_vis ws)))
    rw [inV_vis] at this
    exact this
  · rw [List.getElem?_map] at hx
    obtain ⟨c, hc, rfl⟩ := Option.map_eq_some_iff.mp hx
    have e : cs.getD i 0 = c := by rw [List.getD_eq_getElem?_getD, hc]; rfl
    rw [e]
    exact ev_var rfl

/-! barred -/
abbrev sBarred : Stmt := topS 13
abbrev nBarred : List Str := ["many", "winding", "wished", "groups", "told", "cell", "harms", "begin", "after", "cells", "harm"]
theorem scBarred : FnScope nBarred ["many", "winding", "wished"] (defScope sBarred) := ⟨rfl, rfl, rfl, by decide +kernel, rfl, by decide +kernel, by decide +kernel⟩
def spBarred (K : PySem.W.Frag) : Sp := fun vs H Q _ => ∃ (n g h e : Nat) (v : V) (b : Addr) (ws : List Nat), vs = [.int n, v, .ref b] ∧ Dp K H v (wD g h e) ∧ SqT K H b (ws.map vi) ∧ n ≤ 24 ∧ 4 ≤ g ∧ g ≤ 16 ∧ h ≤ 8 ∧ ws.length ≤ 100 ∧ RetFL K ((barM (grpM n g h e) ws).map bD) H Q
theorem ok_barred {f : Addr} {fd : FuncData} (F : Fun K "barred" "barred" sBarred f fd) (ma : mg "all" = none) (mt : mg "tuple" = none) (mm : mg "min" = none)
    {fs : Addr} {fds : FuncData} (S : Can P w K mg base "stretches" 3 fs fds ["many", "winding"] (spStretches K)) {fu : Addr} {fdu : FuncData} (U : Can P w K mg base "unwished" 1 fu fdu ["cells", "wished"] (spUnw K)) :
    FnOk P w K mg base CX0 4 f fd ["many", "winding", "wished"] (spBarred K) := by
  refine F.ok scBarred (fun vs H Q E h => ?_) (fun cdv A outer s H vs Q E hr h => ?_)
  · obtain ⟨n, g, h, e, v, b, ws, rfl, _⟩ := h
    rfl
  obtain ⟨n, g, h, e, v, b, ws, rfl, hw, hws, hn, hg, hg2, hh, hwl, q⟩ := h
  have nd := scBarred.nd
  refine ⟨_, pss_cons (ps_setLc (i := 3) (own := [("begin", 7), ("after", 8), ("cells", 9)]) (g := gTup K 3 (gCons (gName 7) (gCons (gName 8) (gCons (gName 9) gNil)))) (tt := tYes) (by rfl) nd rfl rfl (sw_true rfl rfl rfl (by decide +kernel)) (pi_list (pcall S hr (pa_cons (pv 0) (pa_cons (pv 1) pa_nil))))
      (blkOk_by (N := nBarred) (sc := defScope sBarred) (by decide +kernel)) (fun _ _ _ _ _ => pg_tup rfl (pgs_cons (pg_name (i := 7) nd rfl (.inl rfl)) (pgs_cons (pg_name (i := 8) nd rfl (.inl rfl)) (pgs_cons (pg_name (i := 9) nd rfl (.inl rfl)) pgs_nil)))) (fun _ _ _ _ _ => pts_nil) (fun _ _ _ _ _ => pv 9))
    (pss_cons (ps_set (i := 4) nd rfl (.inl rfl) (pe_lst pa_nil))
    (pss_cons (ps_for PassesOwn.never rfl (pi_tup (pv 2)) (pg_name (i := 5) nd rfl (.inr rfl))
      (pss_cons (ps_setLc (i := 6) (own := [("cells", 9)]) (g := gName 9) (by rfl) nd rfl rfl (sw_true rfl rfl rfl (by decide +kernel)) (pi_list (pv 3)) (blkOk_by (N := nBarred) (sc := defScope sBarred) (by decide +kernel))
        (fun _ _ _ _ _ => pg_name (i := 9) nd rfl (Or.inl rfl)) (fun _ _ _ _ _ => pts_one (pt_cmpR (show OpR _ (compareOp .In) (rIn K false) from op_in_seq) (pv 5) (pv 9) rfl)) (fun _ _ _ _ _ => pcall U hr (pa_cons (pv 9) (pa_cons (pv 2) pa_nil))))
      (pss_one (ps_if (pt_val (pe_callB (cr_allD (by rfl)) (by rfl) ma boot_all (pa_cons (pv 6) pa_nil)))
        (pss_one (ps_expr (pe_bm PySem.F.plainAttrs_list PySem.F.slot_list_append PySem.F.type_list_append mt_append (pv 4) (pa_cons (pe_tup (pa_cons (pv 5) (pa_cons (pe_callTy call_tuple_of (by rfl) mt PyProof.Rows.boot_tuple (pa_cons
          (pe_lc (own := [("harm", 10)]) (g := gName 10) (tt := tYes) (by rfl) nd (pi_list (pv 6)) (blkOk_by (N := nBarred) (sc := defScope sBarred) (by decide +kernel)) (fun _ _ _ _ _ => pg_name (i := 10) nd rfl (Or.inl rfl)) (fun _ _ _ _ _ => pts_nil)
            (fun _ _ _ _ _ => pe_callB (show CallR _ _ (rMin K) from cr_min (by rfl)) (by rfl) mm PyProof.Rows.boot_min (pa_cons (pv 10) pa_nil))) pa_nil)) pa_nil))) pa_nil)))) pss_nil))))
    (pss_one (ps_ret (pv 4))))), ?_⟩
  refine ⟨vi n, rfl, v, rfl, n, g, h, e, v, rfl, hw, hn, hg, hg2, hh, fun rp xs H1 hrp e1 hrx hrd => ?_⟩
  have hxl : xs.length = (grpM n g h e).length := by rw [dpa_len hrd, grp_len]
  have hxs : xs.length ≤ 61 := by rw [dpa_len hrd]; exact str_len hn hg hg2 hh
  -- groups
  refine ⟨rp, rfl, ⟨xs, sq_of hrx⟩, fun Dg hDg => ?_⟩
  refine lc_list (xs := xs) (fun i H' => Ex H1 H' ∧ ∃ gs, H' Dg = some (.lst gs) ∧ DpAll K H' gs (((grpM n g h e).take i).map fun c => .tuple (c.map di))) ⟨Ex.new hDg, [], upd_same, .nil⟩ (fun i H' _ p' => sq_of (p'.1 _ _ hrx)) (fun i x H' hx p' => ?_) fun H2 p' => ?_
  · obtain ⟨e2, gs, hgs, hgd⟩ := p'
    obtain ⟨d, hd1, hd2⟩ := dpa_get hrd hx
    obtain ⟨qq, hq1, rfl, hq2⟩ := grp_at hd1
    obtain ⟨ra, a1, b1, ca, rfl, hra, _, _, hca⟩ := str_get (dp_ex e2 _ _ hd2)
    refine ⟨ra, _, rfl, hra, rfl, a1, _, rfl, b1, _, rfl, .ref ca, _, rfl, rfl, rfl, ?_⟩
    refine ⟨.ref ca, rfl, gs, hgs, ?_, Ex.mut e2 hDg, _, upd_same, ?_⟩
    · have := dpa_len hgd
      rw [List.length_map, List.length_take] at this
      exact small1000 (by omega)
    · rw [List.take_add_one, hq2, List.map_append]
      refine dpa_mut (noT_lst hgs) _ _ ?_ (dpa_append hgd (.cons (cells_of hca) .nil))
      rw [noLs_append]
      rw [noLs_map (fun c => by rw [noL]; exact noLs_dis c)]
      show noLs [PyData.tuple ((pricksM n g h e qq.1 (wholeM n g h)).map di)] = true
      rw [noLs, noLs, noL, noLs_dis]
      rfl
  obtain ⟨e2, gs, hgs, hgd⟩ := p'
  rw [hxl, List.take_length] at hgd
  have hgl : gs.length = (grpM n g h e).length := by rw [dpa_len hgd, List.length_map]
  have hglt : gs.length ≤ 61 := by omega
  -- told
  refine ⟨Nat.zero_le _, fun to hto => ?_⟩
  have hto0 : H to = none := fresh_back (e1.trans e2) hto
  have ngt : Dg ≠ to := ne_of_none hgs hto
  have x3 := Ex.new (o := .lst []) hto
  have h3g := x3 _ _ hgs
  have h3t := upd_same (H := H2) (a := to) (o := .lst [])
  have h3d := dpa_ex x3 _ _ hgd
  have e3 := (e1.trans e2).trans x3
  generalize upd H2 to (.lst []) = H3 at x3 h3g h3t h3d e3
  refine q_forT (xs := ws.map vi) (ev_var rfl) (ex_t e3 hws) (fun j σ' H' => ∃ (y5 y6 : Option V) (ts : List V), σ' = [some (vi n), some v, some (.ref b), some (.ref Dg), some (.ref to), y5, y6, none, none, none, none] ∧ Ex H H' ∧ H' Dg = some (.lst gs) ∧ DpAll K H' gs ((grpM n g h e).map fun c => .tuple (c.map di)) ∧ H' to = some (.lst ts) ∧
      DpAll K H' ts ((barP (grpM n g h e) ws (ws.take j)).map bD))
    (fun H4 e4 => ⟨none, none, [], rfl, e3.trans e4, e4 _ _ h3g, dpa_ex e4 _ _ h3d, e4 _ _ h3t, .nil⟩) (fun j σ' H' _ ⟨_, _, _, _, ex, _⟩ => ex_t ex hws) ?_ ?_
  · rintro j x σ' H4 hx ⟨y5, y6, ts, rfl, ex4, h4g, h4d, h4t, htd⟩
    rw [List.getElem?_map] at hx
    obtain ⟨c, hc, rfl⟩ := Option.map_eq_some_iff.mp hx
    have hjl : j < ws.length := (List.getElem?_eq_some_iff.mp hc).1
    have htl : ts.length < 1000 := by
      have h1 := dpa_len htd
      have h2 := barP_len (G := grpM n g h e) (ws := ws) (ws.take j)
      rw [List.length_map] at h1
      rw [List.length_take] at h2
      omega
    -- harms
    refine ⟨.ref Dg, rfl, Dg, rfl, ⟨gs, sq_of h4g⟩, fun Dh hDh => ?_⟩
    have hth : to ≠ Dh := ne_of_none h4t hDh
    have hgh : Dg ≠ Dh := ne_of_none h4g hDh
    refine lc_list (xs := gs) (fun i H' => Ex H4 H' ∧ ∃ hs, H' Dh = some (.lst hs) ∧ Lots H' Dh hs (harmsM ((grpM n g h e).take i) ws c) ∧ hs.length ≤ i) ⟨Ex.new hDh, [], upd_same, .nil, Nat.le_refl _⟩ (fun i H' _ p' => sq_of (p'.1 _ _ h4g)) (fun i x H' hx p' => ?_) fun H5 p' => ?_
    · obtain ⟨e5, hs, hhs, hL, hhl⟩ := p'
      have hil : i < gs.length := (List.getElem?_eq_some_iff.mp hx).1
      obtain ⟨d, hd1, hd2⟩ := dpa_get (dpa_ex e5 _ _ h4d) hx
      rw [List.getElem?_map] at hd1
      obtain ⟨lot, hlot, rfl⟩ := Option.map_eq_some_iff.mp hd1
      obtain ⟨ca, ys, rfl, hca, hys⟩ := dp_tup hd2
      have ey : ys = lot.map vi := by
        have h6 : DpAll K H' ys ((lot.map fun k : Nat => (k : Int)).map PyData.int) := by
          rw [List.map_map]
          exact hys
        have := dpa_ints h6
        rw [List.map_map] at this
        exact this
      subst ey
      have hll : lot.length ≤ 1000 := by
        obtain ⟨q', _, rfl⟩ := List.mem_map.mp (List.mem_of_getElem? hlot)
        have := pricks_len n g h e q'.1 (wholeM n g h)
        omega
      refine ⟨rfl, vi c, rfl, .ref ca, rfl, ca, _, rfl, .inr hca, rfl, flat_vis lot, lot.contains c, by rw [inV_vis]; rfl, ?_⟩
      cases hcl : lot.contains c with
      | true =>
        refine (if_pos rfl).mpr ⟨.ref ca, rfl, .ref b, rfl, ca, b, lot, ws, rfl, hca, ex_t (ex4.trans e5) hws, hll, fun lp H6 hlp e6 hlx => ?_⟩
        have hne : lp ≠ Dh := (ne_of_none hhs hlp).symm
        refine ⟨hs, e6 _ _ hhs, small1000 (by omega), Ex.mut (e5.trans e6) hDh, _, upd_same, ?_, by rw [List.length_append, List.length_cons, List.length_nil]; omega⟩
        have eh : harmsM ((grpM n g h e).take (i + 1)) ws c = harmsM ((grpM n g h e).take i) ws c ++ [unwM lot ws] := by
          rw [List.take_add_one, hlot]
          exact harms_yes hcl
        rw [eh]
        exact Lots.mut (Paired.snoc (hL.ex e6) ⟨lp, rfl, hne, hlx⟩)
      | false =>
        have eh : harmsM ((grpM n g h e).take (i + 1)) ws c = harmsM ((grpM n g h e).take i) ws c := by
          rw [List.take_add_one, hlot]
          exact harms_no hcl
        exact (if_neg (by decide)).mpr ⟨e5, hs, hhs, by rw [eh]; exact hL, by omega⟩
    obtain ⟨e5, hs, hhs, hL, hhl⟩ := p'
    rw [hgl, List.take_length] at hL
    have hzs : ∀ l ∈ harmsM (grpM n g h e) ws c, l.length ≤ 1000 := fun l hl => by
      have := harms_short hl
      omega
    have etake : ws.take (j + 1) = ws.take j ++ [c] := by
      rw [List.take_add_one, hc]
      rfl
    have h5g := e5 _ _ h4g
    have h5t := e5 _ _ h4t
    refine s_when (et_B (ev_cb (ea_cons (ev_var rfl) ea_nil) (rc_allL hhs hL hzs))) (fun hb H6 e6 => ?_) (fun hb H6 e6 => ?_)
    · have e46 := e5.trans e6
      refine ⟨.ref to, rfl, .inl ⟨rfl, _, sq_of (e46 _ _ h4t)⟩, vi c, rfl, ?_⟩
      refine ta_one (tc_one ?_)
      refine el_mins (K := K) (σ := [some (vi n), some v, some (.ref b), some (.ref Dg), some (.ref to), some (vi c), some (.ref Dh), none, none, none, none]) (i := 6) (j := 10) (vs := [10]) (ev_var rfl) (e6 _ _ hhs) (hL.ex e6) hb (by omega) (fun _ => rfl) (fun _ => rfl) H6 (Ex.refl H6) _ fun lp H7 hlp e7 hlx => ?_
      refine ⟨lp, _, rfl, .inl ⟨sq_of hlx, fun tp htp => ?_⟩⟩
      refine ⟨by show 2 ≤ sizeLine; decide, fun r hr' => ?_⟩
      have y1 := Ex.new (o := .tup (((harmsM (grpM n g h e) ws c).map minN).map vi)) htp
      have y2 := Ex.new (o := .tup [vi c, .ref tp]) hr'
      have z1 := y2 _ _ (upd_same (H := H7) (a := tp) (o := .tup (((harmsM (grpM n g h e) ws c).map minN).map vi)))
      have z2 := upd_same (H := upd H7 tp (.tup (((harmsM (grpM n g h e) ws c).map minN).map vi))) (a := r) (o := .tup [vi c, .ref tp])
      have yy := e46.trans (e7.trans (y1.trans y2))
      revert z1 z2 yy
      generalize upd (upd H7 tp (.tup (((harmsM (grpM n g h e) ws c).map minN).map vi))) r (.tup [vi c, .ref tp]) = H8
      intro z1 z2 yy
      have nt := noT_lst (yy _ _ h4t)
      refine ⟨to, ts, .ref r, rfl, rfl, yy _ _ h4t, small1000 (by omega), _, _, ts ++ [.ref r], rfl, Ex.mut (ex4.trans yy) hto0, ?_, ?_, upd_same, ?_⟩
      · rw [upd_ne ngt]
        exact yy _ _ h4g
      · exact dpa_mut nt _ _ (noLs_map (fun c => by rw [noL]; exact noLs_dis c) _) (dpa_ex yy _ _ h4d)
      · rw [etake, barP_yes hb, List.map_append]
        refine dpa_mut nt _ _ ?_ (dpa_append (dpa_ex yy _ _ htd) (.cons (.tup (st_of z2) (.cons (.int _) (.cons (cells_of (st_of z1)) .nil))) .nil))
        rw [noLs_append, noLs_map noL_bD]
        show noLs [bD (c, (harmsM (grpM n g h e) ws c).map minN)] = true
        rw [noLs, noLs, noL_bD]
        rfl
    · have e46 := e5.trans e6
      refine ⟨_, _, ts, rfl, ex4.trans e46, e46 _ _ h4g, dpa_ex e46 _ _ h4d, e46 _ _ h4t, ?_⟩
      rw [etake, barP_no hb]
      exact dpa_ex e46 _ _ htd
  · rintro σ' H4 ⟨y5, y6, ts, rfl, ex4, h4g, h4d, h4t, htd⟩
    rw [List.length_map, List.take_length] at htd
    exact ⟨.ref to, rfl, q to ts H4 hto0 ex4 h4t htd⟩
end
end Nr
namespace Nr
open PySem PySem.Spec PyProof.Rows L2 Evl
section
variable {P : Program} {w : World} {K : PySem.W.Frag} {mg : Str → Option Value} {base : Heap}
/-! makeable -/
abbrev sMakeable : Stmt := topS 14
abbrev nMake : List Str := ["many", "winding", "wished", "stopped", "cell", "spoilt"]
theorem scMake : FnScope nMake ["many", "winding", "wished"] (defScope sMakeable) := ⟨rfl, rfl, rfl, by decide +kernel, rfl, by decide +kernel, by decide +kernel⟩
def spMake (K : PySem.W.Frag) : Sp := fun vs H Q _ => ∃ (n g h e : Nat) (v : V) (b : Addr) (ws : List Nat), vs = [.int n, v, .ref b] ∧ Dp K H v (wD g h e) ∧ SqT K H b (ws.map vi) ∧ n ≤ 24 ∧ 4 ≤ g ∧ g ≤ 16 ∧ h ≤ 8 ∧ ws.length ≤ 100 ∧
  ∀ t H2, H t = none → Ex H H2 → H2 t = some (.tup ((goodM (grpM n g h e) ws).map vi)) → Q (.ref t) H2
theorem ok_make {f : Addr} {fd : FuncData} (F : Fun K "makeable" "makeable" sMakeable f fd) (mt : mg "tuple" = none)
    {fb : Addr} {fdb : FuncData} (B : Can P w K mg base "barred" 4 fb fdb ["many", "winding", "wished"] (spBarred K)) : FnOk P w K mg base CX0 5 f fd ["many", "winding", "wished"] (spMake K) := by
  refine F.ok scMake (fun vs H Q E h => ?_) (fun cdv A outer s H vs Q E hr h => ?_)
  · obtain ⟨n, g, h, e, v, b, ws, rfl, _⟩ := h
    rfl
  obtain ⟨n, g, h, e, v, b, ws, rfl, hw, hws, hn, hg, hg2, hh, hwl, q⟩ := h
  have nd := scMake.nd
  refine ⟨_, pss_cons (ps_set (i := 3) nd rfl (.inr rfl) (pe_lc (own := [("cell", 4), ("spoilt", 5)]) (g := gTup K 2 (gCons (gName 4) (gCons (gName 5) gNil))) (tt := tYes) (by rfl) nd (pi_list (pcall B hr (pa_cons (pv 0) (pa_cons (pv 1) (pa_cons (pv 2) pa_nil)))))
      (blkOk_by (N := nMake) (sc := defScope sMakeable) (by decide +kernel)) (fun _ _ _ _ _ => pg_tup rfl (pgs_cons (pg_name (i := 4) nd rfl (.inl rfl)) (pgs_cons (pg_name (i := 5) nd rfl (.inl rfl)) pgs_nil))) (fun _ _ _ _ _ => pts_nil) (fun _ _ _ _ _ => pv 4)))
    (pss_one (ps_ret (pe_callTy call_tuple_of (by rfl) mt PyProof.Rows.boot_tuple (pa_cons (pe_lc (own := [("cell", 4)]) (g := gName 4) (by rfl) nd (pi_tup (pv 2)) (blkOk_by (N := nMake) (sc := defScope sMakeable) (by decide +kernel))
      (fun _ _ _ _ _ => pg_name (i := 4) nd rfl (Or.inl rfl)) (fun _ _ _ _ _ => pts_one (pt_cmpR (show OpR _ (compareOp .NotIn) (rIn K true) from op_notIn_seq) (pv 4) (pv 3) rfl)) (fun _ _ _ _ _ => pv 4)) pa_nil)))), ?_⟩
  refine ⟨vi n, rfl, v, rfl, .ref b, rfl, n, g, h, e, v, b, ws, rfl, hw, hws, hn, hg, hg2, hh, hwl, fun rp xs H1 hrp e1 hrx hrd => ?_⟩
  generalize eB : barM (grpM n g h e) ws = B' at hrd
  have hxl : xs.length = B'.length := by rw [dpa_len hrd, List.length_map]
  have hBl : B'.length ≤ 100 := by
    have := barP_len (G := grpM n g h e) (ws := ws) ws
    rw [← eB]
    unfold barM
    omega
  refine ⟨rp, rfl, ⟨xs, sq_of hrx⟩, fun Dg hDg => ?_⟩
  refine lc_list (xs := xs) (fun i H' => Ex H1 H' ∧ H' Dg = some (.lst (((B'.take i).map (·.1)).map vi))) ⟨Ex.new hDg, upd_same⟩ (fun i H' _ p' => sq_of (p'.1 _ _ hrx)) (fun i x H' hx p' => ?_) fun H2 p' => ?_
  · obtain ⟨e2, hgs⟩ := p'
    obtain ⟨d, hd1, hd2⟩ := dpa_get hrd hx
    rw [List.getElem?_map] at hd1
    obtain ⟨pp, hpp, rfl⟩ := Option.map_eq_some_iff.mp hd1
    obtain ⟨ra, ys, rfl, hra, hys⟩ := dp_tup (dp_ex e2 _ _ hd2)
    cases hys with
    | @cons y1 _ _ _ d1 hys =>
    cases hys with
    | @cons y2 _ _ _ d2 hys =>
    cases hys
    cases d1
    refine ⟨ra, _, rfl, hra, rfl, vi pp.1, _, rfl, y2, _, rfl, rfl, rfl, ?_⟩
    refine ⟨vi pp.1, rfl, _, hgs, ?_, Ex.mut e2 hDg, ?_⟩
    · rw [List.length_map, List.length_map, List.length_take]
      exact small1000 (by omega)
    · rw [upd_same, List.take_add_one, hpp, List.map_append, List.map_append]
      rfl
  obtain ⟨e2, hgs⟩ := p'
  rw [hxl, List.take_length] at hgs
  have ha := ex_t (e1.trans e2) hws
  have k := el_lcT (K := K) (σ := [some (vi n), some v, some (.ref b), some (.ref Dg), none, none]) (H := H2) (t := tTest (tOp (rIn K true) (tVar 4) (tVar 3))) (te := tVar 4) (tl := tVar 2) (j := 4) (vs := [4]) (fun i => !(B'.map (·.1)).contains (ws.getD i 0)) (fun i => vi (ws.getD i 0)) (ev_var rfl) ha (by rw [List.length_map]; omega) (fun _ => rfl)
    (fun i x H1 e1 hx => ?_) (fun i x H1 e1 hx _ => ?_)
  · rw [List.length_map, given_filter (fun c => !(B'.map (·.1)).contains c) (fun i x hx => by rw [List.getD_eq_getElem?_getD, hx]; rfl) (fun i x hx => by rw [List.getD_eq_getElem?_getD, hx]; rfl)] at k
    subst eB
    exact s_retU (D := { nx := fun _ H' => Q .non H', rt := Q }) (eu_tupleOf k) fun t H3 ht e3 hx => q t H3 (fresh_back (e1.trans e2) ht) ((e1.trans e2).trans e3) hx
  · rw [List.getElem?_map] at hx
    obtain ⟨c, hc, rfl⟩ := Option.map_eq_some_iff.mp hx
    have e : ws.getD i 0 = c := by rw [List.getD_eq_getElem?_getD, hc]; rfl
    rw [e]
    have := et_test (ev_op (ev_var (i := 4) (σ := [some (vi n), some v, some (.ref b), some (.ref Dg), some (vi c), none]) (H := H1) rfl) (ev_var (i := 3) rfl) (rv_niL (K := K) (sq_of (e1 _ _ hgs)) rfl (flat_vis _)))
    rw [inV_vis] at this
    exact this
  · rw [List.getElem?_map] at hx
    obtain ⟨c, hc, rfl⟩ := Option.map_eq_some_iff.mp hx
    have e : ws.getD i 0 = c := by rw [List.getD_eq_getElem?_getD, hc]; rfl
    rw [e]
    exact ev_var rfl

/-! _law_barred -/
abbrev sLBar : Stmt := topS 26
abbrev lotSc : Scope := { kind := .function, names := [(".0", .local), ("lot", .local), ("wished", .cell)], isGenerator := false, isCoroutine := false, more := [] }
abbrev nLBar : List Str := ["rows", "wished", "found", "cell", "lots", "spoilt", "row", "lot", "one", "some"]
theorem scLBar : FnScope nLBar ["rows", "wished"] (defScope sLBar) := ⟨rfl, rfl, rfl, by decide +kernel, rfl, by decide +kernel, by decide +kernel⟩
def spLBar (K : PySem.W.Frag) : Sp := fun vs H Q _ => ∃ (n g h e : Nat) (r b : Addr) (xs : List V) (ws : List Nat), vs = [.ref r, .ref b] ∧ SqL K H r xs ∧ DpAll K H xs (strM n g h e) ∧ SqT K H b (ws.map vi) ∧ n ≤ 24 ∧ 4 ≤ g ∧ g ≤ 16 ∧ h ≤ 8 ∧ ws.length ≤ 100 ∧
  RetFL K ((barM (grpM n g h e) ws).map bD) H Q
theorem ok_lbar {f : Addr} {fd : FuncData} {k : Nat} (F : Fun K "_law_barred" "_law_barred" sLBar f fd) (mt : mg "tuple" = none) (mm : mg "min" = none) : FnOk P w K mg base CX0 (k + 1) f fd ["rows", "wished"] (spLBar K) := by
  refine F.ok scLBar (fun vs H Q E h => ?_) (fun cdv A outer s H vs Q E hr h => ?_)
  · obtain ⟨n, g, h, e, r, b, xs, ws, rfl, _⟩ := h
    rfl
  obtain ⟨n, g, h, e, r, b, xs, ws, rfl, hr0, hxd, hws, hn, hg, hg2, hh, hwl, q⟩ := h
  have nd := scLBar.nd
  refine ⟨_, pss_cons (ps_set (i := 2) nd rfl (.inl rfl) (pe_lst pa_nil))
    (pss_cons (ps_for PassesOwn.never rfl (pi_tup (pv 1)) (pg_name (i := 3) nd rfl (.inr rfl))
      (pss_cons (ps_setLc (i := 4) (own := [("row", 6)]) (g := gName 6) (by rfl) nd rfl rfl (sw_true rfl rfl rfl (by decide +kernel)) (pi_list (pv 0)) (blkOk_by (N := nLBar) (sc := defScope sLBar) (by decide +kernel))
        (fun _ _ _ _ _ => pg_name (i := 6) nd rfl (Or.inl rfl)) (fun _ _ _ _ _ => pts_one (pt_cmpR (show OpR _ (compareOp .In) (rIn K false) from op_in_seq) (pv 3) (pe_ix (show IxR _ (rIxT K) from ix_tup) (pv 6) pe_int (fun _ _ => rfl)) rfl)) (fun _ _ _ _ _ => pe_ix (show IxR _ (rIxT K) from ix_tup) (pv 6) pe_int (fun _ _ => rfl)))
      (pss_cons (ps_setLc (i := 5) (own := [("lot", 7)]) (g := gName 7) (tt := tYes) (te := tLc (iTup K (tVar 7)) (gName 8) (tTest (tOp (rIn K true) (tVar 8) (tVar 1))) (tVar 8) [8]) (by rfl) nd rfl rfl (sw_true rfl rfl rfl (by decide +kernel)) (pi_list (pv 4)) (blkOk_by (N := nLBar) (sc := defScope sLBar) (by decide +kernel))
        (fun _ _ _ _ _ => pg_name (i := 7) nd rfl (Or.inl rfl)) (fun _ _ _ _ _ => pts_nil) (fun _ _ _ _ _ => pe_lc (own := [("one", 8)]) (g := gName 8) (by rfl) nd (pi_tup (pv 7)) (blkOk_by (N := nLBar) (sc := lotSc) (by decide +kernel))
          (fun _ _ _ _ _ => pg_name (i := 8) nd rfl (Or.inl rfl)) (fun _ _ _ _ _ => pts_one (pt_cmpR (show OpR _ (compareOp .NotIn) (rIn K true) from op_notIn_seq) (pv 8) (pv 1) rfl)) (fun _ _ _ _ _ => pv 8)))
      (pss_one (ps_if (pt_cmpR (op_notInL hr.units) (pe_lst pa_nil) (pv 5) rfl)
        (pss_one (ps_expr (pe_bm PySem.F.plainAttrs_list PySem.F.slot_list_append PySem.F.type_list_append mt_append (pv 2) (pa_cons (pe_tup (pa_cons (pv 3) (pa_cons (pe_callTy call_tuple_of (by rfl) mt PyProof.Rows.boot_tuple (pa_cons
          (pe_lc (own := [("some", 9)]) (g := gName 9) (tt := tYes) (by rfl) nd (pi_list (pv 5)) (blkOk_by (N := nLBar) (sc := defScope sLBar) (by decide +kernel)) (fun _ _ _ _ _ => pg_name (i := 9) nd rfl (Or.inl rfl)) (fun _ _ _ _ _ => pts_nil)
            (fun _ _ _ _ _ => pe_callB (show CallR _ _ (rMin K) from cr_min (by rfl)) (by rfl) mm PyProof.Rows.boot_min (pa_cons (pv 9) pa_nil))) pa_nil)) pa_nil))) pa_nil)))) pss_nil)))))
    (pss_one (ps_ret (pv 2)))), ?_⟩
  refine ⟨Nat.zero_le _, fun to hto => ?_⟩
  have hxl : xs.length = (grpM n g h e).length := by rw [dpa_len hxd, grp_len]
  have hxs : xs.length ≤ 61 := by rw [dpa_len hxd]; exact str_len hn hg hg2 hh
  have x3 := Ex.new (o := .lst []) hto
  have h3t := upd_same (H := H) (a := to) (o := .lst [])
  generalize upd H to (.lst []) = H3 at x3 h3t
  refine q_forT (xs := ws.map vi) (ev_var rfl) (ex_t x3 hws) (fun j σ' H' => ∃ (y3 y4 y5 : Option V) (ts : List V), σ' = [some (.ref r), some (.ref b), some (.ref to), y3, y4, y5, none, none, none, none] ∧ Ex H H' ∧ H' to = some (.lst ts) ∧ DpAll K H' ts ((barP (grpM n g h e) ws (ws.take j)).map bD))
    (fun H4 e4 => ⟨none, none, none, [], rfl, x3.trans e4, e4 _ _ h3t, .nil⟩) (fun j σ' H' _ ⟨_, _, _, _, _, ex, _⟩ => ex_t ex hws) ?_ ?_
  · rintro j x σ' H4 hx ⟨y3, y4, y5, ts, rfl, ex4, h4t, htd⟩
    rw [List.getElem?_map] at hx
    obtain ⟨c, hc, rfl⟩ := Option.map_eq_some_iff.mp hx
    have hjl : j < ws.length := (List.getElem?_eq_some_iff.mp hc).1
    have htl : ts.length < 1000 := by
      have h1 := dpa_len htd
      have h2 := barP_len (G := grpM n g h e) (ws := ws) (ws.take j)
      rw [List.length_map] at h1
      rw [List.length_take] at h2
      omega
    have h4r := ex_l ex4 hr0
    have h4d := dpa_ex ex4 _ _ hxd
    -- lots
    refine ⟨.ref r, rfl, r, rfl, ⟨xs, h4r⟩, fun Dl hDl => ?_⟩
    have htl' : to ≠ Dl := ne_of_none h4t hDl
    refine lc_list (xs := xs) (fun i H' => Ex H4 H' ∧ ∃ ls, H' Dl = some (.lst ls) ∧ DpAll K H' ls ((((grpM n g h e).take i).filter fun lot => lot.contains c).map fun l => .tuple (l.map di)) ∧ ls.length ≤ i) ⟨Ex.new hDl, [], upd_same, .nil, Nat.le_refl _⟩ (fun i H' _ p' => ex_l p'.1 h4r) (fun i x H' hx p' => ?_) fun H5 p' => ?_
    · obtain ⟨e5, ls, hls, hld, hll⟩ := p'
      have hil : i < xs.length := (List.getElem?_eq_some_iff.mp hx).1
      obtain ⟨d, hd1, hd2⟩ := dpa_get (dpa_ex e5 _ _ h4d) hx
      obtain ⟨qq, hq1, rfl, hq2⟩ := grp_at hd1
      obtain ⟨ra, a1, b1, ca, rfl, hra, _, _, hca⟩ := str_get hd2
      generalize pricksM n g h e qq.1 (wholeM n g h) = lot at hq2 hca
      refine ⟨rfl, vi c, rfl, .ref ra, rfl, ra, _, _, .ref ca, rfl, rfl, hra, atI_nat (j := 2) rfl, ca, _, rfl, .inr hca, rfl, flat_vis lot, lot.contains c, by rw [inV_vis]; rfl, ?_⟩
      have et : (grpM n g h e).take (i + 1) = (grpM n g h e).take i ++ [lot] := by rw [List.take_add_one, hq2]; rfl
      rw [et, List.filter_append]
      cases hcl : lot.contains c with
      | true =>
        refine (if_pos rfl).mpr ⟨.ref ra, rfl, ra, _, _, .ref ca, rfl, rfl, hra, atI_nat (j := 2) rfl, ls, hls, small1000 (by omega), Ex.mut e5 hDl, _, upd_same, ?_, by rw [List.length_append, List.length_cons, List.length_nil]; omega⟩
        rw [List.filter_cons, if_pos hcl, List.map_append]
        refine dpa_mut (noT_lst hls) _ _ ?_ (dpa_append hld (.cons (cells_of hca) .nil))
        rw [noLs_append, noLs_map (fun c => by rw [noL]; exact noLs_dis c)]
        show noLs [PyData.tuple (lot.map di)] = true
        rw [noLs, noLs, noL, noLs_dis]
        rfl
      | false =>
        refine (if_neg (by decide)).mpr ⟨e5, ls, hls, ?_, by omega⟩
        rw [List.filter_cons, if_neg (by rw [hcl]; decide)]
        rw [List.filter_nil, List.append_nil]
        exact hld
    obtain ⟨e45, ls, hls, hld, hll⟩ := p'
    rw [hxl, List.take_length] at hld
    have hlen : ls.length = ((grpM n g h e).filter fun lot => lot.contains c).length := by rw [dpa_len hld, List.length_map]
    -- spoilt
    refine ⟨.ref Dl, rfl, Dl, rfl, ⟨ls, sq_of hls⟩, fun Dh hDh => ?_⟩
    refine lc_list (xs := ls) (fun i H' => Ex H5 H' ∧ ∃ hs, H' Dh = some (.lst hs) ∧ Lots H' Dh hs ((((grpM n g h e).filter fun lot => lot.contains c).take i).map fun lot => unwM lot ws) ∧ hs.length ≤ i) ⟨Ex.new hDh, [], upd_same, .nil, Nat.le_refl _⟩ (fun i H' _ p' => sq_of (p'.1 _ _ hls)) (fun i x H' hx p' => ?_) fun H6 p' => ?_
    · obtain ⟨e6, hs, hhs, hL, hhl⟩ := p'
      have hil : i < ls.length := (List.getElem?_eq_some_iff.mp hx).1
      obtain ⟨d, hd1, hd2⟩ := dpa_get (dpa_ex e6 _ _ hld) hx
      rw [List.getElem?_map] at hd1
      obtain ⟨lot, hlot, rfl⟩ := Option.map_eq_some_iff.mp hd1
      obtain ⟨ca, rfl, hca⟩ := cells_get hd2
      have hll : lot.length ≤ 1000 := by
        have := grp_short (List.mem_filter.mp (List.mem_of_getElem? hlot)).1
        omega
      refine ⟨rfl, yes_if ?_⟩
      refine unw_lc (K := K) (σ := [some (.ref r), some (.ref b), some (.ref to), some (vi c), some (.ref Dl), y5, none, some (.ref ca), none, none]) (i := 7) (j := 8) (m := 1) (vs := [8]) (ev_var rfl) hca (ex_t (ex4.trans (e45.trans e6)) hws) hll (fun _ => rfl) (fun _ => rfl) (fun _ => rfl) H' (Ex.refl H') _ fun lp H7 hlp e7 hlx => ?_
      have hne : lp ≠ Dh := (ne_of_none hhs hlp).symm
      refine ⟨hs, e7 _ _ hhs, small1000 (by omega), Ex.mut (e6.trans e7) hDh, _, upd_same, ?_, by rw [List.length_append, List.length_cons, List.length_nil]; omega⟩
      rw [List.take_add_one, hlot, List.map_append]
      exact Lots.mut (Paired.snoc (hL.ex e7) ⟨lp, rfl, hne, hlx⟩)
    obtain ⟨e56, hs, hhs, hL, hhl⟩ := p'
    rw [hlen, List.take_length] at hL
    have hL : Lots H6 Dh hs (harmsM (grpM n g h e) ws c) := hL
    have e5 := e45.trans e56
    have hzs : ∀ l ∈ harmsM (grpM n g h e) ws c, l.length ≤ 1000 := fun l hl => by
      have := harms_short hl
      omega
    have etake : ws.take (j + 1) = ws.take j ++ [c] := by
      rw [List.take_add_one, hc]
      rfl
    have h5t := e5 _ _ h4t
    refine s_when (et_test (ev_is (ev_opL1 (el_lst ea_nil (by decide)) (fun H7 e7 => ev_var rfl) (y := .ref Dh) (z := .bl (!((harmsM (grpM n g h e) ws c).map fun l => PyData.list (l.map di)).any fun z => PyData.eqv z (.list []))) (fun p H7 hp e7 => fun H8 e8 Q q =>
      ⟨.list [], _, .lst (sq_of (e8 _ _ hp)) .nil, .lst (sq_of ((e7.trans e8) _ _ hhs)) (hL.ex (e7.trans e8)).dp, rfl, sh_lots _, by decide, q H8 (Ex.refl H8)⟩)) (by rw [lots_no]))) (fun hb H7 e6 => ?_) (fun hb H7 e6 => ?_)
    · have e46 := e5.trans e6
      refine ⟨.ref to, rfl, .inl ⟨rfl, _, sq_of (e46 _ _ h4t)⟩, vi c, rfl, ?_⟩
      refine ta_one (tc_one ?_)
      refine el_mins (K := K) (σ := [some (.ref r), some (.ref b), some (.ref to), some (vi c), some (.ref Dl), some (.ref Dh), none, none, none, none]) (i := 5) (j := 9) (vs := [9]) (ev_var rfl) (e6 _ _ hhs) (hL.ex e6) hb (by omega) (fun _ => rfl) (fun _ => rfl) H7 (Ex.refl H7) _ fun lp H8 hlp e8 hlx => ?_
      refine ⟨lp, _, rfl, .inl ⟨sq_of hlx, fun tp htp => ?_⟩⟩
      refine ⟨by show 2 ≤ sizeLine; decide, fun rr hr' => ?_⟩
      have y1 := Ex.new (o := .tup (((harmsM (grpM n g h e) ws c).map minN).map vi)) htp
      have y2 := Ex.new (o := .tup [vi c, .ref tp]) hr'
      have z1 := y2 _ _ (upd_same (H := H8) (a := tp) (o := .tup (((harmsM (grpM n g h e) ws c).map minN).map vi)))
      have z2 := upd_same (H := upd H8 tp (.tup (((harmsM (grpM n g h e) ws c).map minN).map vi)))  (a := rr) (o := .tup [vi c, .ref tp])
      have yy := e46.trans (e8.trans (y1.trans y2))
      revert z1 z2 yy
      generalize upd (upd H8 tp (.tup (((harmsM (grpM n g h e) ws c).map minN).map vi))) rr (.tup [vi c, .ref tp]) = H9
      intro z1 z2 yy
      have nt := noT_lst (yy _ _ h4t)
      refine ⟨to, ts, .ref rr, rfl, rfl, yy _ _ h4t, small1000 (by omega), _, _, _, ts ++ [.ref rr], rfl, Ex.mut (ex4.trans yy) hto, upd_same, ?_⟩
      · rw [etake, barP_yes hb, List.map_append]
        refine dpa_mut nt _ _ ?_ (dpa_append (dpa_ex yy _ _ htd) (.cons (.tup (st_of z2) (.cons (.int _) (.cons (cells_of (st_of z1)) .nil))) .nil))
        rw [noLs_append, noLs_map noL_bD]
        show noLs [bD (c, (harmsM (grpM n g h e) ws c).map minN)] = true
        rw [noLs, noLs, noL_bD]
        rfl
    · have e46 := e5.trans e6
      refine ⟨_, _, _, ts, rfl, ex4.trans e46, e46 _ _ h4t, ?_⟩
      rw [etake, barP_no hb]
      exact dpa_ex e46 _ _ htd
  · rintro σ' H4 ⟨y3, y4, y5, ts, rfl, ex4, h4t, htd⟩
    rw [List.length_map, List.take_length] at htd
    exact ⟨.ref to, rfl, q to ts H4 hto ex4 h4t htd⟩
end
end Nr
namespace Nr
open PySem PySem.Spec PyProof.Rows L2 Evl

/-! a dict whose keys are numbers -/
theorem nodup_len : ∀ (n : Nat) (l : List Nat), l.Nodup → (∀ x ∈ l, x < n) → l.length ≤ n
  | 0, l, _, h => by
    cases l with
    | nil => exact Nat.le_refl _
    | cons x l => exact absurd (h x List.mem_cons_self) (by omega)
  | n + 1, l, nd, h => by
    by_cases hn : n ∈ l
    · have ih := nodup_len n (l.erase n) (nd.erase n) fun x hx => by
        have h1 := (nd.mem_erase_iff).mp hx
        have h2 := h x h1.2
        have h3 := h1.1
        omega
      rw [List.length_erase_of_mem hn] at ih
      omega
    · have ih := nodup_len n l nd fun x hx => by
        have h2 := h x hx
        have : x ≠ n := fun z => hn (z ▸ hx)
        omega
      omega
abbrev kn (k : Nat) : Key := .inl (k : Int)
theorem kn_inj {a b : Nat} (h : kn a = kn b) : a = b := by
  injection h with h
  exact Int.ofNat.inj h
open Classical in
theorem putK_keysK {kvs : List (Key × V)} {k : Key} {v : V} : (putK kvs k v).map (·.1) = if k ∈ kvs.map (·.1) then kvs.map (·.1) else kvs.map (·.1) ++ [k] := by
  unfold putK
  have e : (kvs.any fun kv => decide (kv.1 = k)) = true ↔ k ∈ kvs.map (·.1) := by
    rw [List.any_eq_true, List.mem_map]
    constructor
    · rintro ⟨x, hx, hk⟩
      exact ⟨x, hx, of_decide_eq_true hk⟩
    · rintro ⟨x, hx, hk⟩
      exact ⟨x, hx, decide_eq_true hk⟩
  by_cases h : k ∈ kvs.map (·.1)
  · rw [if_pos (e.mpr h), if_pos h, List.map_map]
    refine List.map_congr_left fun x _ => ?_
    show (if x.1 = k then (x.1, v) else x).1 = x.1
    split <;> rfl
  · rw [if_neg (fun z => h (e.mp z)), if_neg h, List.map_append]
    rfl
/-- its keys are the members of S -/
def DK (kvs : List (Key × V)) (S : Nat → Prop) : Prop := ∃ ks : List Nat, kvs.map (·.1) = ks.map kn ∧ ks.Nodup ∧ ∀ c, c ∈ ks ↔ S c
theorem DK.nil : DK [] fun _ => False := ⟨[], rfl, .nil, fun c => by simp⟩
theorem DK.put {kvs : List (Key × V)} {S : Nat → Prop} {c : Nat} {v : V} (d : DK kvs S) : DK (putK kvs (kn c) v) fun x => S x ∨ x = c := by
  obtain ⟨ks, h1, h2, h3⟩ := d
  by_cases hc : c ∈ ks
  · refine ⟨ks, ?_, h2, fun x => ?_⟩
    · rw [putK_keysK, if_pos (by rw [h1]; exact List.mem_map.mpr ⟨c, hc, rfl⟩), h1]
    · rw [h3 x]
      constructor
      · exact .inl
      · rintro (z | rfl)
        · exact z
        · exact (h3 x).mp hc
  · refine ⟨ks ++ [c], ?_, ?_, fun x => ?_⟩
    · rw [putK_keysK, if_neg, h1, List.map_append]
      · rfl
      · rw [h1]
        intro z
        obtain ⟨y, hy, e⟩ := List.mem_map.mp z
        exact hc (kn_inj e ▸ hy)
    · refine List.nodup_append.mpr ⟨h2, by simp, fun x hx y hy => ?_⟩
      rw [List.mem_singleton.mp hy]
      exact fun z => hc (z ▸ hx)
    · rw [List.mem_append, h3 x, List.mem_singleton]
theorem DK.congr {kvs : List (Key × V)} {S T : Nat → Prop} (d : DK kvs S) (h : ∀ c, S c ↔ T c) : DK kvs T := by
  obtain ⟨ks, h1, h2, h3⟩ := d
  exact ⟨ks, h1, h2, fun c => (h3 c).trans (h c)⟩
theorem DK.len {kvs : List (Key × V)} {S : Nat → Prop} {n : Nat} (d : DK kvs S) (h : ∀ c, S c → c < n) : kvs.length ≤ n := by
  obtain ⟨ks, h1, h2, h3⟩ := d
  have e := congrArg List.length h1
  rw [List.length_map, List.length_map] at e
  rw [e]
  exact nodup_len n ks h2 fun x hx => h x ((h3 x).mp hx)
/-- what sorted makes of such a dict -/
def rSortDI : List V → Hp → VK → Prop := fun xs H Q => ∃ (a : Addr) (kvs : List (Key × V)) (ks : List Int), xs = [.ref a] ∧ Rd H a (.dK kvs) ∧ kvs.map (·.1) = ks.map Sum.inl ∧ ks.length < 64 ∧ ∀ (ys : List Int) (p : Addr), ys.Perm ks → ys.Pairwise (· ≤ ·) → H p = none → Q (.ref p) (upd H p (.lst (ys.map V.int)))
theorem DK.sorted {kvs : List (Key × V)} {S : Nat → Prop} {H : Hp} {D : Addr} {ms : List Nat} {n : Nat} {Q : VK} (d : DK kvs S) (hD : H D = some (.dK kvs)) (hn : ∀ c, S c → c < n) (h64 : n < 64) (up : ms.Pairwise (· < ·)) (hm : ∀ c, c ∈ ms ↔ S c)
    (k : ∀ p, H p = none → Q (.ref p) (upd H p (.lst (ms.map vi)))) : rSortDI [.ref D] H Q := by
  have hl := d.len hn
  obtain ⟨ks, h1, h2, h3⟩ := d
  have e := congrArg List.length h1
  rw [List.length_map, List.length_map] at e
  refine ⟨D, kvs, ks.map fun k : Nat => (k : Int), rfl, .inl hD, ?_, by rw [List.length_map]; omega, fun ys p hp ho hpn => ?_⟩
  · rw [h1, List.map_map]
    rfl
  · have hk : ks.Perm ms := perm_of_mem h2 (up.imp fun {a b} lt => Nat.ne_of_lt lt) fun x => (h3 x).trans (hm x).symm
    have := sorted_is hp hk ho up
    rw [this, List.map_map]
    exact k p hpn
theorem el_sortDI {σ : L2.St} {H : Hp} {D : Addr} {i n : Nat} {kvs : List (Key × V)} {S : Nat → Prop} {ms : List Nat} (hi : σ[i]? = some (some (.ref D))) (d : DK kvs S) (hD : H D = some (.dK kvs)) (hn : ∀ c, S c → c < n) (h64 : n < 64) (up : ms.Pairwise (· < ·)) (hm : ∀ c, c ∈ ms ↔ S c) :
    EvL (tCB rSortDI (tCons (tVar i) tNil)) σ H (ms.map vi) := fun H1 e Q q => ⟨.ref D, hi, d.sorted (Q := Q) (e _ _ hD) hn h64 up hm fun p hp => q p _ hp (Ex.new hp) upd_same⟩
theorem rg_is (n : Nat) : rgV 0 (n : Int) = (List.range n).map vi := by
  unfold rgV
  rw [show ((n : Int) - 0).toNat = n by omega]
  refine List.map_congr_left fun i _ => ?_
  show V.int _ = V.int _
  rw [Int.zero_add]

theorem ret_one {σ : L2.St} {H : Hp} {D : Ends} {r : List V → Hp → VK → Prop} {tl : TE} (h : tl σ H fun x H1 => r [x] H1 D.rt) : tRet (tCB r (tCons tl tNil)) D σ H := h
theorem Bx.mutD {p D : Addr} {H H1 : Hp} {o : HO} (b : Bx p H H1) (h : H D = none) : Bx p H (L2.upd H1 D o) := fun a u n ha => by
  rw [upd_ne (ne_of_none ha h)]
  exact b a u n ha
theorem Bag.mutD {p D : Addr} {H : Hp} {o : HO} (b : Bag H p) (h : D ≠ p) : Bag (upd H D o) p := by
  obtain ⟨c, z, hz⟩ := b
  exact ⟨c, z, by rw [upd_ne h.symm]; exact hz⟩
theorem noT_dK {H : Hp} {p : Addr} {kvs : List (Key × V)} (h : H p = some (.dK kvs)) : NoT H p := fun xs r => by
  rcases r with r | ⟨o, r⟩
  · rw [h] at r; cases r
  · rw [h] at r; cases r
theorem pricks_lt {n g h e t b c : Nat} (hc : c ∈ pricksM n g h e t b) : c < n := by
  unfold pricksM at hc
  split at hc
  · obtain ⟨p, hp, rfl⟩ := List.mem_map.mp (List.mem_reverse.mp hc)
    have := of_decide_eq_true (List.mem_filter.mp hp).2
    omega
  · exact of_decide_eq_true (List.mem_filter.mp hc).2
section
variable {P : Program} {w : World} {K : PySem.W.Frag} {mg : Str → Option Value} {base : Heap}
/-! _law_wished -/
abbrev sWish : Stmt := topS 25
abbrev nWish : List Str := ["bag", "many", "winding", "way", "found", "turn", "cell"]
theorem scWish : FnScope nWish ["bag", "many", "winding"] (defScope sWish) := ⟨rfl, rfl, rfl, by decide +kernel, rfl, by decide +kernel, by decide +kernel⟩
def IsWish (K : PySem.W.Frag) (n : Nat) (v : V) (H : Hp) : Prop := ∃ (t : Addr) (ws : List Nat), v = .ref t ∧ SqT K H t (ws.map vi) ∧ ws.Pairwise (· < ·) ∧ ∀ c ∈ ws, c < n
def spWish (K : PySem.W.Frag) : Sp := fun vs H Q _ => ∃ (p : Addr) (n g h e : Nat) (v : V), vs = [.ref p, .int n, v] ∧ Bag H p ∧ Dp K H v (wD g h e) ∧ 1 ≤ n ∧ n ≤ 24 ∧ 4 ≤ g ∧ g ≤ 16 ∧ h ≤ 8 ∧ e ≤ 1 ∧ RetB p (IsWish K n) H Q
theorem ok_wish {f : Addr} {fd : FuncData} (F : Fun K "_law_wished" "_law_wished" sWish f fd) (mt : mg "tuple" = none) (mr : mg "range" = none) (ms : mg "sorted" = none)
    {f1 : Addr} {fd1 : FuncData} (CT : Can P w K mg base "_law_take" 1 f1 fd1 ["bag", "count"] spTake) {f2 : Addr} {fd2 : FuncData} (CO : Can P w K mg base "_law_of" 2 f2 fd2 ["bag", "some"] (spOf K))
    {f3 : Addr} {fd3 : FuncData} (CP : Can P w K mg base "_law_pricked" 1 f3 fd3 ["many", "winding", "angle"] (spLPr K)) {f4 : Addr} {fd4 : FuncData} (CA : Can P w K mg base "_law_angle" 3 f4 fd4 ["bag"] (spAngle K)) :
    FnOk P w K mg base CX0 4 f fd ["bag", "many", "winding"] (spWish K) := by
  refine F.ok scWish (fun vs H Q E h => ?_) (fun cdv A outer s H vs Q E hr h => ?_)
  · obtain ⟨p, n, g, h, e, v, rfl, _⟩ := h
    rfl
  obtain ⟨p, n, g, h, e, v, rfl, hb, hw, hn1, hn, hg, hg2, hh, he, q⟩ := h
  have nd := scWish.nd
  have hu := hu_of hr
  refine ⟨_, pss_cons (ps_set (i := 3) nd rfl (.inl rfl) (pcall CT hr (pa_cons (pv 0) (pa_cons pe_int pa_nil))))
    (pss_cons (ps_if (pt_cmpR op_eq (pv 3) pe_int (nomark _))
      (pss_one (ps_ret (pe_callTy call_tuple_of (by rfl) mt PyProof.Rows.boot_tuple (pa_cons (pe_lc (own := [("cell", 6)]) (g := gName 6) (by rfl) nd (pi_range1 (by rfl) mr (pa_cons (pv 1) pa_nil)) (blkOk_by (N := nWish) (sc := defScope sWish) (by decide +kernel))
        (fun _ _ _ _ _ => pg_name (i := 6) nd rfl (Or.inl rfl)) (fun _ _ _ _ _ => pts_one (pt_cmpR op_eq (pcall CT hr (pa_cons (pv 0) (pa_cons pe_int pa_nil))) pe_int (nomark _))) (fun _ _ _ _ _ => pv 6)) pa_nil)))) pss_nil)
    (pss_cons (ps_if (pt_cmpR op_eq (pv 3) pe_int (nomark _))
      (pss_one (ps_ret (pcall CO hr (pa_cons (pv 0) (pa_cons (pe_lst (pa_cons (pe_tup pa_nil) (pa_cons (pe_tupRg (by rfl) (by rfl) mt (prg_1 (by rfl) mr (pv 1))) (pa_cons (pe_slice sl_tup (pe_tupRg (by rfl) (by rfl) mt (prg_1 (by rfl) mr (pv 1))) (po_some pe_int) po_none)
        (pa_cons (pe_tup (pa_cons (pe_op op_sub (pv 1) pe_int) pa_nil)) pa_nil))))) pa_nil))))) pss_nil)
    (pss_cons (ps_set (i := 4) nd rfl (.inl rfl) pe_dnewK)
    (pss_cons (ps_for PassesOwn.never rfl (pi_range1 (by rfl) mr (pa_cons (pe_op op_add pe_int (pcall CT hr (pa_cons (pv 0) (pa_cons pe_int pa_nil)))) pa_nil)) (pg_name (i := 5) nd rfl (.inl rfl))
      (pss_one (ps_for PassesOwn.never rfl (pi_list (pcall CP hr (pa_cons (pv 1) (pa_cons (pv 2) (pa_cons (pcall CA hr (pa_cons (pv 0) pa_nil)) pa_nil))))) (pg_name (i := 6) nd rfl (.inl rfl))
        (pss_one (ps_dput hu (pv 4) (pv 6) pe_bl rfl)))))
    (pss_cut (ps_if (pt_cmpR op_eq (pv 3) pe_int (nomark _)) (pss_one (ps_dput hu (pv 4) (pcall CT hr (pa_cons (pv 0) (pa_cons (pv 1) pa_nil))) pe_bl rfl)) pss_nil)
    (pss_one (ps_ret (pe_callTy call_tuple_of (by rfl) mt PyProof.Rows.boot_tuple (pa_cons (pe_callB (call_sortedDI (by rfl)) (by rfl) ms boot_sorted (pa_cons (pv 4) pa_nil)) pa_nil)))))))))  , ?_⟩
  refine ⟨.ref p, rfl, p, 4, rfl, hb, by decide, by decide, ?_⟩
  rintro _ H1 b1 hb1 ⟨way, rfl, hway⟩
  have hw1 := dp_bx hb.noT b1 _ _ (wD_noL g h e) hw
  refine q_when (et_test (ev_op (ev_var rfl) ev_c (rv_eq rfl))) (fun _ H2 e2 => ?_) (fun _ H2 e2 => ?_)
  · have hb2 := hb1.ex e2
    refine ret_one ?_
    refine ⟨vi n, rfl, (n : Int), rfl, by omega, by omega, fun Dl hDl => ?_⟩
    have hDp : Dl ≠ p := bag_ne hb2 hDl
    refine lc_range (lo := 0) (n := n) (fun i H' => Bx p H2 H' ∧ Bag H' p ∧ ∃ cs : List Nat, H' Dl = some (.lst (cs.map vi)) ∧ cs.Pairwise (· < ·) ∧ (∀ c ∈ cs, c < i) ∧ cs.length ≤ i) ⟨Bx.of (Ex.new hDl), hb2.ex (Ex.new hDl), [], upd_same, .nil, (fun c hc => by cases hc), Nat.le_refl _⟩ (fun i H' hi p' => ?_) fun H4 p' => ?_
    · obtain ⟨b3, hb3, cs, hcs, up, lt, hl⟩ := p'
      refine ⟨rfl, .ref p, rfl, p, 2, rfl, hb3, by decide, by decide, ?_⟩
      rintro _ H4 b4 hb4 ⟨r, rfl, hr2⟩
      refine ⟨rfl, _, rfl, ?_⟩
      have h4 := b4 _ _ hDp hcs
      by_cases hz : V.int (r : Int) = V.int 0
      · refine (if_pos (decide_eq_true hz)).mpr ⟨.int (0 + (i : Int)), rfl, _, h4, by rw [List.length_map]; exact small1000 (by omega), (b3.trans b4).mutD hDl, hb4.mutD hDp, cs ++ [i], ?_, ?_, ?_, ?_⟩
        · rw [upd_same, List.map_append, Int.zero_add]
          rfl
        · refine List.pairwise_append.mpr ⟨up, by simp, fun x hx y hy => ?_⟩
          rw [List.mem_singleton.mp hy]
          exact lt x hx
        · intro c hc
          rcases List.mem_append.mp hc with hc | hc
          · have := lt c hc
            omega
          · rw [List.mem_singleton.mp hc]
            omega
        · rw [List.length_append, List.length_cons, List.length_nil]
          omega
      · exact (if_neg (by rw [decide_eq_false hz]; decide)).mpr ⟨b3.trans b4, hb4, cs, h4, up, (fun c hc => by have := lt c hc; omega), by omega⟩
    · obtain ⟨b3, hb3, cs, hcs, up, lt, hl⟩ := p'
      refine ⟨Dl, _, rfl, .inl ⟨sq_of hcs, fun t ht => ?_⟩⟩
      exact q _ _ (b1.trans ((Bx.of e2).trans (b3.trans (Bx.of (Ex.new ht))))) (hb3.ex (Ex.new ht)) ⟨t, cs, rfl, st_of upd_same, up, lt⟩
  have b2 := b1.trans (Bx.of e2)
  have hb2 := hb1.ex e2
  have hw2 := dp_ex e2 _ _ hw1
  refine q_when (et_test (ev_op (ev_var rfl) ev_c (rv_eq rfl))) (fun _ H3 e3 => ?_) (fun _ H3 e3 => ?_)
  · have rok : RgOk 0 (n : Int) := RgOk.of_le (by decide) (by omega) (by decide) (by omega)
    refine ⟨.ref p, rfl, Nat.zero_le _, fun t1 ht1 => ⟨vi n, rfl, (n : Int), rfl, rok, fun t2 ht2 => ⟨vi n, rfl, (n : Int), rfl, rok, fun t3 ht3 => ⟨1, rfl, t3, _, rfl, st_of upd_same, ?_, fun t4 ht4 => ?_⟩⟩⟩⟩
    · rintro ⟨z, _⟩
      rw [rgV_length, show ((n : Int) - 0).toNat = n by omega, show HT.sIx n 0 (some 1) = min 1 n from HT.sIx_nat n 0 1] at z
      omega
    refine ⟨vi n, rfl, _, _, rfl, rfl, by show 1 ≤ sizeLine; decide, fun t5 ht5 => ⟨by show 4 ≤ sizeLine; decide, fun lo hlo => ?_⟩⟩
    have x1 := Ex.new (o := .tup []) ht1
    have x2 := Ex.new (o := .tup (rgV 0 (n : Int))) ht2
    have x3 := Ex.new (o := .tup (rgV 0 (n : Int))) ht3
    have x4 := Ex.new (o := .tup (cutV (rgV 0 (n : Int)) (some 1) none)) ht4
    have x5 := Ex.new (o := .tup [.int ((n : Int) - 1)]) ht5
    have x6 := Ex.new (o := .lst [.ref t1, .ref t2, .ref t4, .ref t5]) hlo
    have z1 := (x2.trans (x3.trans (x4.trans (x5.trans x6)))) _ _ upd_same
    have z2 := (x3.trans (x4.trans (x5.trans x6))) _ _ upd_same
    have z4 := (x5.trans x6) _ _ upd_same
    have z5 := x6 _ _ upd_same
    have z6 := upd_same (H := upd (upd (upd (upd (upd H3 t1 (.tup [])) t2 (.tup (rgV 0 (n : Int)))) t3 (.tup (rgV 0 (n : Int)))) t4 (.tup (cutV (rgV 0 (n : Int)) (some 1) none))) t5 (.tup [.int ((n : Int) - 1)])) (a := lo) (o := .lst [.ref t1, .ref t2, .ref t4, .ref t5])
    have xx := x1.trans (x2.trans (x3.trans (x4.trans (x5.trans x6))))
    have hlop : lo ≠ p := bag_ne ((hb2.ex e3).ex (x1.trans (x2.trans (x3.trans (x4.trans x5))))) hlo
    revert z1 z2 z4 z5 z6 xx
    generalize upd (upd (upd (upd (upd (upd H3 t1 (.tup [])) t2 (.tup (rgV 0 (n : Int)))) t3 (.tup (rgV 0 (n : Int)))) t4 (.tup (cutV (rgV 0 (n : Int)) (some 1) none))) t5 (.tup [.int ((n : Int) - 1)])) lo (.lst [.ref t1, .ref t2, .ref t4, .ref t5]) = H4
    intro z1 z2 z4 z5 z6 xx
    have hb4 := (hb2.ex e3).ex xx
    refine ⟨p, lo, _, rfl, hb4, z6, hlop, by simp, by show 4 ≤ 1000; decide, fun u H5 b5 hb5 hu => ?_⟩
    refine q _ _ (b2.trans ((Bx.of (e3.trans xx)).trans b5)) hb5 ?_
    rcases List.mem_cons.mp hu with rfl | hu
    · exact ⟨t1, [], rfl, sqt_bx hb4.noT b5 (st_of z1), .nil, (fun c hc => by cases hc)⟩
    rcases List.mem_cons.mp hu with rfl | hu
    · rw [rg_is] at z2
      exact ⟨t2, List.range n, rfl, sqt_bx hb4.noT b5 (st_of z2), List.pairwise_lt_range, fun c hc => List.mem_range.mp hc⟩
    rcases List.mem_cons.mp hu with rfl | hu
    · rw [rg_is, cut_1, ← List.map_drop] at z4
      exact ⟨t4, (List.range n).drop 1, rfl, sqt_bx hb4.noT b5 (st_of z4), List.Pairwise.sublist (List.drop_sublist _ _) List.pairwise_lt_range, fun c hc => List.mem_range.mp (List.mem_of_mem_drop hc)⟩
    · rw [List.mem_singleton.mp hu]
      refine ⟨t5, [n - 1], rfl, sqt_bx hb4.noT b5 (st_of ?_), by simp, fun c hc => by rw [List.mem_singleton.mp hc]; omega⟩
      rw [z5]
      show some (HO.tup [V.int ((n : Int) - 1)]) = some (HO.tup [V.int ((n - 1 : Nat) : Int)])
      rw [show ((n - 1 : Nat) : Int) = (n : Int) - 1 by omega]
  have b3 := b2.trans (Bx.of e3)
  have hb3 := hb2.ex e3
  have hw3 := dp_ex e3 _ _ hw2
  -- found
  refine fun D hD => ?_
  have hDp : D ≠ p := bag_ne hb3 hD
  have xD := Ex.new (o := .dK []) hD
  refine ⟨.ref p, rfl, p, 5, rfl, hb3.ex xD, by decide, by decide, ?_⟩
  rintro _ H4 b4 hb4 ⟨r5, rfl, hr5⟩
  have hw4 := dp_bx (hb3.ex xD).noT b4 _ _ (wD_noL g h e) (dp_ex xD _ _ hw3)
  have h4D := b4 _ _ hDp (upd_same (H := H3) (a := D) (o := .dK []))
  have b34 : Bx p H3 H4 := (Bx.of xD).trans b4
  refine ⟨_, _, rfl, rfl, _, rfl, by show -(2 ^ 62) ≤ (1 : Int) + (r5 : Int); omega, by show (1 : Int) + (r5 : Int) < 2 ^ 62; omega, for_range (lo := 0) (fun i σ' H' => ∃ (y5 y6 : Option V) (kvs : List (Key × V)) (S : Nat → Prop), σ' = [some (.ref p), some (vi n), some v, some (vi way), some (.ref D), y5, y6] ∧ Bx p H3 H' ∧ Bag H' p ∧ Dp K H' v (wD g h e) ∧ H' D = some (.dK kvs) ∧ DK kvs S ∧ ∀ c, S c → c < n)
    ⟨none, none, [], _, rfl, b34, hb4, hw4, h4D, DK.nil, fun c hc => hc.elim⟩ ?_ ?_⟩
  · rintro i σ' H5 hi ⟨y5, y6, kvs, S, rfl, b5, hb5, hw5, h5D, hdk, hS⟩
    refine ⟨vi n, rfl, v, rfl, .ref p, rfl, p, rfl, hb5, ?_⟩
    rintro av H6 b6 hb6 ⟨t, b, htb, hbb, hgcd, hav⟩
    have hw6 := dp_bx hb5.noT b6 _ _ (wD_noL g h e) hw5
    have hb200 : b < 2 ^ 200 := Nat.lt_of_le_of_lt hbb (by decide)
    refine ⟨n, g, h, e, t, b, v, av, rfl, hw6, hav, by omega, by omega, by omega, he, by omega, by omega, hb200, Nat.lt_trans htb hb200, fun lp H7 hlp e7 hlx => ?_⟩
    have hlD : lp ≠ D := (ne_of_none (b6 _ _ hDp h5D) hlp).symm
    refine ⟨lp, rfl, ⟨_, sq_of hlx⟩, for_list (K := K) (xs := (pricksM n g h e t b).map vi) (fun j σ' H' => ∃ (y6 : Option V) (kvs : List (Key × V)) (S : Nat → Prop), σ' = [some (.ref p), some (vi n), some v, some (vi way), some (.ref D), some (.int (0 + (i : Int))), y6] ∧ Bx p H3 H' ∧ Bag H' p ∧ Dp K H' v (wD g h e) ∧ H' D = some (.dK kvs) ∧ DK kvs S ∧ (∀ c, S c → c < n) ∧ H' lp = some (.lst ((pricksM n g h e t b).map vi)))
      ⟨y6, kvs, S, rfl, b5.trans (b6.trans (Bx.of e7)), hb6.ex e7, dp_ex e7 _ _ hw6, e7 _ _ (b6 _ _ hDp h5D), hdk, hS, hlx⟩ (fun j σ' H' _ ⟨_, _, _, _, _, _, _, _, _, _, z⟩ => sq_of z) ?_ ?_⟩
    · rintro j x σ' H8 hx ⟨y6, kvs, S, rfl, b8, hb8, hw8, h8D, hdk, hS, h8l⟩
      rw [List.getElem?_map] at hx
      obtain ⟨c, hc, rfl⟩ := Option.map_eq_some_iff.mp hx
      have hcn := pricks_lt (List.mem_of_getElem? hc)
      have hlen := hdk.len hS
      refine ⟨.ref D, rfl, vi c, rfl, D, _, rfl, DPut.k (k := kn c) h8D (small1000 (by omega)), ?_⟩
      refine ⟨_, _, _, rfl, b8.mutD hD, hb8.mutD hDp, dp_mut (noT_dK h8D) _ _ (wD_noL g h e) hw8, upd_same, hdk.put, ?_, by rw [upd_ne hlD]; exact h8l⟩
      rintro x (hx | rfl)
      · exact hS x hx
      · exact hcn
    · rintro σ' H8 ⟨y6, kvs, S, rfl, b8, hb8, hw8, h8D, hdk, hS, h8l⟩
      exact ⟨_, _, _, _, rfl, b8, hb8, hw8, h8D, hdk, hS⟩
  rintro σ' H5 ⟨y5, y6, kvs, S, rfl, b5, hb5, hw5, h5D, hdk, hS⟩
  refine q_cut (M := fun σ' H' => ∃ (kvs : List (Key × V)) (S : Nat → Prop), σ' = [some (.ref p), some (vi n), some v, some (vi way), some (.ref D), y5, y6] ∧ Bx p H3 H' ∧ Bag H' p ∧ H' D = some (.dK kvs) ∧ DK kvs S ∧ ∀ c, S c → c < n) ?_ ?_
  · refine s_when (et_test (ev_op (ev_var rfl) ev_c (rv_eq rfl))) (fun _ H6 e6 => ?_) (fun _ H6 e6 => ⟨kvs, S, rfl, b5.trans (Bx.of e6), hb5.ex e6, e6 _ _ h5D, hdk, hS⟩)
    refine ⟨.ref D, rfl, .ref p, rfl, vi n, rfl, p, n, rfl, hb5.ex e6, by omega, by omega, ?_⟩
    rintro _ H7 b7 hb7 ⟨c, rfl, hcn⟩
    have h7D := b7 _ _ hDp (e6 _ _ h5D)
    have hlen := hdk.len hS
    refine ⟨D, _, rfl, DPut.k (k := kn c) h7D (small1000 (by omega)), ?_⟩
    refine ⟨_, _, rfl, (b5.trans ((Bx.of e6).trans b7)).mutD hD, hb7.mutD hDp, upd_same, hdk.put, ?_⟩
    rintro x (hx | rfl)
    · exact hS x hx
    · exact hcn
  · rintro σ' H6 ⟨kvs, S, rfl, b6, hb6, h6D, hdk, hS⟩
    obtain ⟨ks, hk1, hk2, hk3⟩ := id hdk
    refine s_retU (D := { nx := fun _ H' => Q .non H', rt := Q }) (eu_tupleOf (K := K) (el_sortDI (i := 4) rfl hdk h6D hS (by omega) (sortU_up ks) (fun c => by rw [sortU_mem, hk3]))) fun t H7 ht e7 hx => ?_
    exact q _ _ (b3.trans (b6.trans (Bx.of e7))) (hb6.ex e7) ⟨t, sortU ks, rfl, st_of hx, sortU_up ks, fun c hc => hS c ((hk3 c).mp ((sortU_mem _ _).mp hc))⟩
end
end Nr
namespace Nr
open PySem PySem.Spec PyProof.Rows L2 Evl
open LamX (TabS TabB CodeO ExtN)

/-! what is good -/
theorem mem_unw {cs ws : List Nat} {x : Nat} : x ∈ unwM cs ws ↔ x ∈ cs ∧ x ∉ ws := by
  unfold unwM
  rw [List.mem_filter]
  simp
theorem unw_nil {cs ws : List Nat} : unwM cs ws = [] ↔ ∀ x ∈ cs, x ∈ ws := by
  rw [List.eq_nil_iff_forall_not_mem]
  constructor
  · intro h x hx
    refine Classical.byContradiction fun z => h x (mem_unw.mpr ⟨hx, z⟩)
  · intro h x hx
    obtain ⟨a, b⟩ := mem_unw.mp hx
    exact b (h x a)
theorem allSome_iff {L : List (List Nat)} : allSome L = true ↔ ∀ l ∈ L, l ≠ [] := by
  unfold allSome
  rw [List.all_eq_true]
  constructor
  · intro h l hl z
    have := h l hl
    rw [z] at this
    cases this
  · intro h l hl
    have := h l hl
    cases l with
    | nil => exact absurd rfl this
    | cons => rfl
theorem mem_harms {G : List (List Nat)} {ws l : List Nat} {c : Nat} : l ∈ harmsM G ws c ↔ ∃ lot ∈ G, c ∈ lot ∧ l = unwM lot ws := by
  unfold harmsM
  rw [List.mem_map]
  constructor
  · rintro ⟨lot, h1, rfl⟩
    obtain ⟨h2, h3⟩ := List.mem_filter.mp h1
    exact ⟨lot, h2, by simpa using h3, rfl⟩
  · rintro ⟨lot, h1, h2, rfl⟩
    exact ⟨lot, List.mem_filter.mpr ⟨h1, by simpa using h2⟩, rfl⟩
theorem mem_bar {G : List (List Nat)} {ws : List Nat} {c : Nat} : c ∈ (barM G ws).map (·.1) ↔ c ∈ ws ∧ allSome (harmsM G ws c) = true := by
  unfold barM barP
  rw [List.map_map, List.mem_map]
  constructor
  · rintro ⟨x, hx, rfl⟩
    exact List.mem_filter.mp hx
  · intro h
    exact ⟨c, List.mem_filter.mpr h, rfl⟩
theorem mem_good {G : List (List Nat)} {ws : List Nat} {c : Nat} : c ∈ goodM G ws ↔ ∃ lot ∈ G, c ∈ lot ∧ ∀ x ∈ lot, x ∈ ws := by
  unfold goodM
  rw [List.mem_filter]
  constructor
  · rintro ⟨h1, h2⟩
    have h3 : c ∉ (barM G ws).map (·.1) := by simpa using h2
    refine Classical.byContradiction fun z => h3 (mem_bar.mpr ⟨h1, allSome_iff.mpr fun l hl e => ?_⟩)
    obtain ⟨lot, a, b, rfl⟩ := mem_harms.mp hl
    exact z ⟨lot, a, b, unw_nil.mp e⟩
  · rintro ⟨lot, a, b, d⟩
    refine ⟨d c b, ?_⟩
    have h3 : c ∉ (barM G ws).map (·.1) := fun z => allSome_iff.mp (mem_bar.mp z).2 _ (mem_harms.mpr ⟨lot, a, b, rfl⟩) (unw_nil.mpr d)
    simpa using h3
theorem good_up {G : List (List Nat)} {ws : List Nat} (h : ws.Pairwise (· < ·)) : (goodM G ws).Pairwise (· < ·) := h.sublist List.filter_sublist
theorem good_len {G : List (List Nat)} {ws : List Nat} : (goodM G ws).length ≤ ws.length := List.length_filter_le _ _
theorem good_sub {G : List (List Nat)} {ws : List Nat} {c : Nat} (h : c ∈ goodM G ws) : c ∈ ws := (List.mem_filter.mp h).1
theorem good_mono {G : List (List Nat)} {ws ms : List Nat} (h : ∀ x ∈ ws, x ∈ ms) {c : Nat} (hc : c ∈ goodM G ws) : c ∈ goodM G ms := by
  obtain ⟨lot, a, b, d⟩ := mem_good.mp hc
  exact mem_good.mpr ⟨lot, a, b, fun x hx => h x (d x hx)⟩
theorem good_good {G : List (List Nat)} {ws : List Nat} : goodM G (goodM G ws) = goodM G ws := by
  have key : ∀ c ∈ goodM G ws, c ∈ goodM G (goodM G ws) := fun c hc => by
    obtain ⟨lot, a, b, d⟩ := mem_good.mp hc
    exact mem_good.mpr ⟨lot, a, b, fun x hx => mem_good.mpr ⟨lot, a, hx, d⟩⟩
  have e : ∀ g : List Nat, (∀ c ∈ g, c ∈ goodM G g) → goodM G g = g := fun g hg => by
    unfold goodM at hg ⊢
    exact List.filter_eq_self.mpr fun c hc => (List.mem_filter.mp (hg c hc)).2
  exact e _ key
/-- by a barred cell's spoilt ones each needle through it is seen to spoil -/
theorem bar_seen {G : List (List Nat)} {ws cells : List Nat} {p : Nat × List Nat} (hp : p ∈ barM G ws) (hc : cells ∈ G) (hm : p.1 ∈ cells) : unwM (p.2.filter fun x => cells.contains x) ws ≠ [] := by
  unfold barM barP at hp
  obtain ⟨c, h1, rfl⟩ := List.mem_map.mp hp
  obtain ⟨h2, h3⟩ := List.mem_filter.mp h1
  have hl : unwM cells ws ∈ harmsM G ws c := mem_harms.mpr ⟨cells, hc, hm, rfl⟩
  have hne := allSome_iff.mp h3 _ hl
  obtain ⟨m1, m2⟩ := minN_is hne
  obtain ⟨m3, m4⟩ := mem_unw.mp m1
  intro z
  have : minN (unwM cells ws) ∈ unwM (((harmsM G ws c).map minN).filter fun x => cells.contains x) ws := mem_unw.mpr ⟨List.mem_filter.mpr ⟨List.mem_map.mpr ⟨_, hl, rfl⟩, by simpa using m3⟩, m4⟩
  rw [z] at this
  cases this
theorem rise_len {n : Nat} {ws : List Nat} (up : ws.Pairwise (· < ·)) (h : ∀ c ∈ ws, c < n) : ws.length ≤ n := nodup_len n ws (up.imp fun {a b} lt => Nat.ne_of_lt lt) h
theorem angle_grp {n g h e t b : Nat} (hg : 2 ≤ g) (htb : t < b) : pricksM n g h e t b ∈ grpM n g h e := by
  obtain ⟨Q, hQ, e⟩ := angle_in (n := n) (h := h) (e := e) hg htb
  rw [e]
  exact List.mem_map.mpr ⟨Q, hQ, rfl⟩

/-! rules -/
section
variable {K : PySem.W.Frag} {σ : L2.St} {H : Hp} {ta tb te : TE} {r : R2} {x y z : V}
theorem ev_opU1 {xs : List V} (ha : EvU ta σ H xs) (hb : ∀ H1, Ex H H1 → Ev tb σ H1 y) (hr : ∀ p H1, H1 p = some (.tup xs) → Ex H H1 → RV r (.ref p) y H1 z) : Ev (tOp r ta tb) σ H z := fun H1 e Q q =>
  ha H1 e _ fun p H2 hp e2 hx => hb H2 (e.trans e2) H2 (Ex.refl H2) _ fun H3 e3 => hr p H2 hx (e.trans e2) H3 e3 Q fun H4 e4 => q H4 (e2.trans (e3.trans e4))
theorem eu_call {sp : Sp} {vs xs : List V} {E : XK} {tt : TA} (h : EvA tt σ H vs) (hs : ∀ H1, Ex H H1 → ∀ Q : VK, (∀ p H2, H1 p = none → Ex H1 H2 → H2 p = some (.tup xs) → Q (.ref p) H2) → ∀ E : XK, sp (vs ++ []) H1 Q E) : EvU (tCall sp [] E tt) σ H xs := fun H1 e Q q =>
  h H1 e _ fun H2 e2 => hs H2 (e.trans e2) Q (fun p H3 hp e3 hx => q p H3 (fresh_back e2 hp) (e2.trans e3) hx) E
/-- [x for x in l if x in cells], over a tuple of numbers; neg: not in -/
theorem in_lcT {a b : Addr} {cs ws : List Nat} {j m : Nat} {vs : List Nat} {tl : TE} (hi : Ev tl σ H (.ref a)) (ha : SqT K H a (cs.map vi)) (hb : SqL K H b (ws.map vi)) (hl : cs.length ≤ 1000) (hw : ∀ x, wipe ((wipe σ vs).set j (some x)) vs = wipe σ vs)
    (hj : ∀ x, ((wipe σ vs).set j (some x))[j]? = some (some x)) (hm : ∀ x, ((wipe σ vs).set j (some x))[m]? = some (some (.ref b))) :
    EvL (tLc (iTup K tl) (gName j) (tTest (tOp (rIn K false) (tVar j) (tVar m))) (tVar j) vs) σ H ((cs.filter fun x => ws.contains x).map vi) := by
  have k := el_lcT (K := K) (σ := σ) (H := H) (t := tTest (tOp (rIn K false) (tVar j) (tVar m))) (te := tVar j) (tl := tl) (j := j) (vs := vs) (fun i => ws.contains (cs.getD i 0)) (fun i => vi (cs.getD i 0)) hi ha (by rw [List.length_map]; omega) hw
    (fun i x H1 e1 hx => ?_) (fun i x H1 e1 hx _ => ?_)
  · rw [List.length_map, given_filter (fun c => ws.contains c) (fun i x hx => by rw [List.getD_eq_getElem?_getD, hx]; rfl) (fun i x hx => by rw [List.getD_eq_getElem?_getD, hx]; rfl)] at k
    exact k
  · rw [List.getElem?_map] at hx
    obtain ⟨c, hc, rfl⟩ := Option.map_eq_some_iff.mp hx
    have e : cs.getD i 0 = c := by rw [List.getD_eq_getElem?_getD, hc]; rfl
    rw [e]
    have := et_test (ev_op (ev_var (hj (vi c)) (H := H1)) (ev_var (hm (vi c))) (rv_isL (K := K) (ex_l e1 hb) rfl (flat_vis ws)))
    rw [inV_vis] at this
    exact this
  · rw [List.getElem?_map] at hx
    obtain ⟨c, hc, rfl⟩ := Option.map_eq_some_iff.mp hx
    have e : cs.getD i 0 = c := by rw [List.getD_eq_getElem?_getD, hc]; rfl
    rw [e]
    exact ev_var (hj (vi c))
/-- [x for x in l if x not in ws], l a tuple or a list that tl tells -/
theorem unw_lcE {a b : Addr} {cs ws : List Nat} {j m : Nat} {vs : List Nat} {tl : TE} (hi : Ev tl σ H (.ref a)) (ha : SqT K H a (cs.map vi)) (hb : SqT K H b (ws.map vi)) (hl : cs.length ≤ 1000) (hw : ∀ x, wipe ((wipe σ vs).set j (some x)) vs = wipe σ vs)
    (hj : ∀ x, ((wipe σ vs).set j (some x))[j]? = some (some x)) (hm : ∀ x, ((wipe σ vs).set j (some x))[m]? = some (some (.ref b))) :
    EvL (tLc (iTup K tl) (gName j) (tTest (tOp (rIn K true) (tVar j) (tVar m))) (tVar j) vs) σ H ((unwM cs ws).map vi) := by
  have k := el_lcT (K := K) (σ := σ) (H := H) (t := tTest (tOp (rIn K true) (tVar j) (tVar m))) (te := tVar j) (tl := tl) (j := j) (vs := vs) (fun i => !ws.contains (cs.getD i 0)) (fun i => vi (cs.getD i 0)) hi ha (by rw [List.length_map]; omega) hw
    (fun i x H1 e1 hx => ?_) (fun i x H1 e1 hx _ => ?_)
  · rw [List.length_map, given_filter (fun c => !ws.contains c) (fun i x hx => by rw [List.getD_eq_getElem?_getD, hx]; rfl) (fun i x hx => by rw [List.getD_eq_getElem?_getD, hx]; rfl)] at k
    exact k
  · rw [List.getElem?_map] at hx
    obtain ⟨c, hc, rfl⟩ := Option.map_eq_some_iff.mp hx
    have e : cs.getD i 0 = c := by rw [List.getD_eq_getElem?_getD, hc]; rfl
    rw [e]
    have := et_test (ev_op (ev_var (hj (vi c)) (H := H1)) (ev_var (hm (vi c))) (rv_niT (K := K) (ex_t e1 hb) rfl (flat_vis ws)))
    rw [inV_vis] at this
    exact this
  · rw [List.getElem?_map] at hx
    obtain ⟨c, hc, rfl⟩ := Option.map_eq_some_iff.mp hx
    have e : cs.getD i 0 = c := by rw [List.getD_eq_getElem?_getD, hc]; rfl
    rw [e]
    exact ev_var (hj (vi c))
theorem unw_lcL {a b : Addr} {cs ws : List Nat} {j m : Nat} {vs : List Nat} {tl : TE} (hi : Ev tl σ H (.ref a)) (ha : SqL K H a (cs.map vi)) (hb : SqT K H b (ws.map vi)) (hl : cs.length ≤ 1000) (hw : ∀ x, wipe ((wipe σ vs).set j (some x)) vs = wipe σ vs)
    (hj : ∀ x, ((wipe σ vs).set j (some x))[j]? = some (some x)) (hm : ∀ x, ((wipe σ vs).set j (some x))[m]? = some (some (.ref b))) :
    EvL (tLc (iList K tl) (gName j) (tTest (tOp (rIn K true) (tVar j) (tVar m))) (tVar j) vs) σ H ((unwM cs ws).map vi) := by
  have k := el_lcL (K := K) (σ := σ) (H := H) (t := tTest (tOp (rIn K true) (tVar j) (tVar m))) (te := tVar j) (tl := tl) (j := j) (vs := vs) (fun i => !ws.contains (cs.getD i 0)) (fun i => vi (cs.getD i 0)) hi ha (by rw [List.length_map]; omega) hw
    (fun i x H1 e1 hx => ?_) (fun i x H1 e1 hx _ => ?_)
  · rw [List.length_map, given_filter (fun c => !ws.contains c) (fun i x hx => by rw [List.getD_eq_getElem?_getD, hx]; rfl) (fun i x hx => by rw [List.getD_eq_getElem?_getD, hx]; rfl)] at k
    exact k
  · rw [List.getElem?_map] at hx
    obtain ⟨c, hc, rfl⟩ := Option.map_eq_some_iff.mp hx
    have e : cs.getD i 0 = c := by rw [List.getD_eq_getElem?_getD, hc]; rfl
    rw [e]
    have := et_test (ev_op (ev_var (hj (vi c)) (H := H1)) (ev_var (hm (vi c))) (rv_niT (K := K) (ex_t e1 hb) rfl (flat_vis ws)))
    rw [inV_vis] at this
    exact this
  · rw [List.getElem?_map] at hx
    obtain ⟨c, hc, rfl⟩ := Option.map_eq_some_iff.mp hx
    have e : cs.getD i 0 = c := by rw [List.getD_eq_getElem?_getD, hc]; rfl
    rw [e]
    exact ev_var (hj (vi c))
end
theorem bD_get {K : PySem.W.Frag} {H : Hp} {v : V} {p : Nat × List Nat} (d : Dp K H v (bD p)) : ∃ ra tc, v = .ref ra ∧ SqT K H ra [vi p.1, .ref tc] ∧ SqT K H tc (p.2.map vi) := by
  unfold bD at d
  obtain ⟨ra, ys, rfl, hra, hys⟩ := dp_tup d
  cases hys with
  | cons d1 hys =>
  cases hys with
  | cons d2 hys =>
  cases hys
  cases d1
  obtain ⟨tc, rfl, h2⟩ := cells_get d2
  exact ⟨ra, tc, rfl, hra, h2⟩
theorem sh_bar (B : List (Nat × List Nat)) : SeqAt.shaped (.list (B.map bD)) = true := by
  refine (shp_list (k := 2) (f := bD) (fun p => ?_) B).ok (by decide)
  have c := shp_tuple (f := di) (fun n : Nat => shp_int 0 (n : Int)) p.2
  unfold bD
  refine ⟨?_, ?_⟩
  · rw [PyData.canLay0, PyData.canLayAll0, PyData.canLayAll0, PyData.canLayAll0, c.1]
    rfl
  · rw [PyData.depth, PyData.depthAll, PyData.depthAll, PyData.depthAll]
    refine Nat.succ_le_succ ?_
    exact Nat.max_le.mpr ⟨Nat.zero_le _, Nat.max_le.mpr ⟨c.2, Nat.zero_le _⟩⟩
theorem bar_self (B : List (Nat × List Nat)) : PyData.eqv (.list (B.map bD)) (.list (B.map bD)) = true := by
  have := sh_bar B
  unfold SeqAt.shaped at this
  rw [Bool.and_eq_true] at this
  exact PySem.SeqAt.eqv_refl _ this.1
/-! more = tuple(sorted(set(wished + (_law_take(bag, many),)))) -/
section
variable {K : PySem.W.Frag} {σ : L2.St} {H : Hp} {D : Ends} {tz : TS} {w : World}
theorem q_more {p wt : Addr} {n i j m o : Nat} {ws : List Nat} (hi : σ[i]? = some (some (.ref p))) (hj : σ[j]? = some (some (vi n))) (hm : σ[m]? = some (some (.ref wt))) (hb : Bag H p) (hws : SqT K H wt (ws.map vi)) (hn : 1 ≤ n) (hn2 : n ≤ 24) (hwl : ws.length ≤ 40)
    (k : ∀ (t : Addr) (H' : Hp) (x : Nat), Bx p H H' → Bag H' p → x < n → H' t = some (.tup ((sortU (ws ++ [x])).map vi)) → tz D (σ.set o (some (.ref t))) H') :
    tSeq (tAsg (tCB (rTupS K) (tCons (tCB (rSortedSet w) (tCons (tCB (rSetT K w) (tCons (tOp (rCatA K) (tVar m) (tTup (tCons (tCall spTake [] E0 (tCons (tVar i) (tCons (tVar j) tNil))) tNil))) tNil)) tNil)) tNil)) (gName o)) tz D σ H := by
  refine ⟨.ref wt, hm, .ref p, hi, vi n, hj, p, n, rfl, hb, by omega, by omega, ?_⟩
  rintro _ H1 b1 hb1 ⟨x, rfl, hx⟩
  refine ⟨by show 1 ≤ sizeLine; decide, fun t ht => ?_⟩
  have x1 := Ex.new (o := .tup [vi x]) ht
  have hw1 := ex_t x1 (sqt_bx hb.noT b1 hws)
  have ht1 := upd_same (H := H1) (a := t) (o := .tup [vi x])
  have fin : ∀ (u : Addr) (H2 : Hp), Ex (upd H1 t (.tup [vi x])) H2 → SqT K H2 u ((ws ++ [x]).map vi) → rSetT K w [.ref u] H2 fun y H3 => rSortedSet w [y] H3 fun y H4 => rTupS K [y] H4 fun y H5 => tz D (σ.set o (some y)) H5 := fun u H2 e2 hu => by
    refine ⟨u, (ws ++ [x]).map fun k : Nat => (k : Int), rfl, by rw [List.map_map]; exact hu, by rw [List.length_map, List.length_append, List.length_cons, List.length_nil]; omega, fun sa c hsa hc => ?_⟩
    rw [List.length_map, List.length_append, List.length_cons, List.length_nil] at hc
    refine ⟨sa, _, c, rfl, upd_same, by omega, fun ns lp up hmem _ hlp => ?_⟩
    have en : ns = (sortU (ws ++ [x])).map (fun k : Nat => (k : Int)) := by
      refine ints_of_rising up (sortU_up _) fun i => ?_
      rw [hmem i, decide_eq_true_eq, List.mem_map]
      constructor
      · rintro ⟨k, hk, rfl⟩
        exact ⟨k, (sortU_mem _ _).mpr hk, rfl⟩
      · rintro ⟨k, hk, rfl⟩
        exact ⟨k, (sortU_mem _ _).mp hk, rfl⟩
    refine ⟨lp, _, rfl, .inl ⟨sq_of upd_same, fun tt htt => ?_⟩⟩
    have y1 := Ex.new (o := SetO w sa (fun j => decide (j ∈ (ws ++ [x]).map fun k : Nat => (k : Int))) c) hsa
    have y2 := Ex.new (o := .lst (ns.map V.int)) hlp
    have y3 := Ex.new (o := .tup (ns.map V.int)) htt
    have yy := e2.trans (y1.trans (y2.trans y3))
    refine k tt _ x (b1.trans ((Bx.of x1).trans (Bx.of yy))) ((hb1.ex x1).ex yy) hx ?_
    rw [upd_same, en, List.map_map]
    rfl
  refine ⟨wt, t, _, _, rfl, rfl, hw1, st_of ht1, ?_, fun z => ?_, (fun _ z => by cases z), fun _ _ u hu => ?_⟩
  · rw [List.length_map]
    show ws.length + 1 ≤ sizeLine
    exact Nat.le_of_lt (small1000 (by omega))
  · have z' : ws = [] := List.map_eq_nil_iff.mp z
    subst z'
    exact fin t _ (Ex.refl _) (st_of ht1)
  · refine fin u _ (Ex.new hu) (st_of ?_)
    rw [upd_same, List.map_append]
    rfl
end
/-! what stands -/
structure LR (K : PySem.W.Frag) (Hs : Hp) (p T : Addr) (wv : V) (n g h e : Nat) (wt : Addr) (ws : List Nat) (rp : Addr) (xs : List V) (dp : Addr) (ys : List V) (gt : Addr) (H : Hp) : Prop where
  ls : LS K Hs p T wv g h e H
  wt : SqT K H wt (ws.map vi)
  rows : H rp = some (.lst xs)
  rd : DpAll K H xs (strM n g h e)
  due : H dp = some (.lst ys)
  dd : DpAll K H ys ((barM (grpM n g h e) ws).map bD)
  good : SqT K H gt ((goodM (grpM n g h e) ws).map vi)
section
variable {K : PySem.W.Frag} {Hs : Hp} {p T : Addr} {wv : V} {n g h e : Nat} {wt : Addr} {ws : List Nat} {rp : Addr} {xs : List V} {dp : Addr} {ys : List V} {gt : Addr} {H H' : Hp}
theorem LR.ex (s : LR K Hs p T wv n g h e wt ws rp xs dp ys gt H) (x : Ex H H') : LR K Hs p T wv n g h e wt ws rp xs dp ys gt H' :=
  ⟨s.ls.ex x, ex_t x s.wt, x _ _ s.rows, dpa_ex x _ _ s.rd, x _ _ s.due, dpa_ex x _ _ s.dd, ex_t x s.good⟩
theorem LR.bx (s : LR K Hs p T wv n g h e wt ws rp xs dp ys gt H) (hp : Hs p = none) (n1 : rp ≠ p) (n2 : dp ≠ p) (x : Bx p H H') (b : Bag H' p) : LR K Hs p T wv n g h e wt ws rp xs dp ys gt H' :=
  ⟨s.ls.bx hp x b, sqt_bx s.ls.bag.noT x s.wt, x _ _ n1 s.rows, dpa_bx s.ls.bag.noT x _ _ (noLs_map (noL_str n g h e _) _) s.rd, x _ _ n2 s.due, dpa_bx s.ls.bag.noT x _ _ (noLs_map noL_bD _) s.dd, sqt_bx s.ls.bag.noT x s.good⟩
end
theorem bag_rows {K : PySem.W.Frag} {H : Hp} {p rp : Addr} {xs : List V} {n g h e : Nat} (b : Bag H p) (hr : H rp = some (.lst xs)) (hd : DpAll K H xs (strM n g h e)) : rp ≠ p := by
  rintro rfl
  obtain ⟨c, z, hz⟩ := b
  rw [hz] at hr
  have hx := Option.some.inj hr
  injection hx with hx
  subst hx
  obtain ⟨d, hd1, hd2⟩ := dpa_get (i := 0) hd rfl
  obtain ⟨q, _, rfl, _⟩ := grp_at hd1
  unfold strD at hd2
  cases hd2
section
variable {K : PySem.W.Frag} {σ : L2.St} {H : Hp}
theorem el_firsts {dp : Addr} {ys : List V} {B : List (Nat × List Nat)} {i j : Nat} {vs : List Nat} (hi : Ev (tVar i) σ H (.ref dp)) (hd : H dp = some (.lst ys)) (hB : DpAll K H ys (B.map bD)) (hl : ys.length ≤ 1000) (hw : ∀ x, wipe ((wipe σ vs).set j (some x)) vs = wipe σ vs)
    (hj : ∀ x, ((wipe σ vs).set j (some x))[j]? = some (some x)) : EvL (tLc (iList K (tVar i)) (gName j) tYes (tOp (rIxT K) (tVar j) (tC (.int 0))) vs) σ H ((B.map (·.1)).map vi) := by
  have k := el_lcL (K := K) (σ := σ) (H := H) (t := tYes) (te := tOp (rIxT K) (tVar j) (tC (.int 0))) (tl := tVar i) (j := j) (vs := vs) (fun _ => true) (fun i => vi (B.getD i (0, [])).1) hi (sq_of hd) (by omega) hw (fun i x H1 e1 hx => et_yes) (fun i x H1 e1 hx _ => ?_)
  · rw [dpa_len hB, List.length_map, given_all, range_at B (0, []) (fun p => vi p.1)] at k
    rw [List.map_map]
    exact k
  · obtain ⟨d, hd1, hd2⟩ := dpa_get (dpa_ex e1 _ _ hB) hx
    rw [List.getElem?_map] at hd1
    obtain ⟨p, hp, rfl⟩ := Option.map_eq_some_iff.mp hd1
    obtain ⟨ra, tc, rfl, hra, _⟩ := bD_get hd2
    have e : B.getD i (0, []) = p := by rw [List.getD_eq_getElem?_getD, hp]; rfl
    rw [e]
    exact ev_op (ev_var (hj _)) ev_c (rv_ixT hra (atI_nat (j := 0) rfl))
/-- [x for x in ws if x not in [row[0] for row in due]] -/
theorem el_good {wt dp : Addr} {ws : List Nat} {ys : List V} {B : List (Nat × List Nat)} {i j m o : Nat} (hi : Ev (tVar i) σ H (.ref wt)) (hws : SqT K H wt (ws.map vi)) (hwl : ws.length ≤ 1000) (hd : H dp = some (.lst ys)) (hB : DpAll K H ys (B.map bD)) (hl : ys.length ≤ 1000) (hw : ∀ x, wipe ((wipe σ [j]).set j (some x)) [j] = wipe σ [j])
    (hj : ∀ x, ((wipe σ [j]).set j (some x))[j]? = some (some x)) (hm : ∀ x, ((wipe σ [j]).set j (some x))[m]? = some (some (.ref dp)))
    (hw2 : ∀ x y, wipe ((wipe ((wipe σ [j]).set j (some x)) [o]).set o (some y)) [o] = wipe ((wipe σ [j]).set j (some x)) [o]) (ho : ∀ x y, ((wipe ((wipe σ [j]).set j (some x)) [o]).set o (some y))[o]? = some (some y)) :
    EvL (tLc (iTup K (tVar i)) (gName j) (tTest (tOp (rIn K true) (tVar j) (tLc (iList K (tVar m)) (gName o) tYes (tOp (rIxT K) (tVar o) (tC (.int 0))) [o]))) (tVar j) [j]) σ H ((ws.filter fun c => !(B.map (·.1)).contains c).map vi) := by
  have k := el_lcT (K := K) (σ := σ) (H := H) (t := tTest (tOp (rIn K true) (tVar j) (tLc (iList K (tVar m)) (gName o) tYes (tOp (rIxT K) (tVar o) (tC (.int 0))) [o]))) (te := tVar j) (tl := tVar i) (j := j) (vs := [j]) (fun i => !(B.map (·.1)).contains (ws.getD i 0)) (fun i => vi (ws.getD i 0)) hi hws (by rw [List.length_map]; omega) hw
    (fun i x H1 e1 hx => ?_) (fun i x H1 e1 hx _ => ?_)
  · rw [List.length_map, given_filter (fun c => !(B.map (·.1)).contains c) (fun i x hx => by rw [List.getD_eq_getElem?_getD, hx]; rfl) (fun i x hx => by rw [List.getD_eq_getElem?_getD, hx]; rfl)] at k
    exact k
  · rw [List.getElem?_map] at hx
    obtain ⟨c, hc, rfl⟩ := Option.map_eq_some_iff.mp hx
    have e : ws.getD i 0 = c := by rw [List.getD_eq_getElem?_getD, hc]; rfl
    rw [e]
    have := et_test (ev_opL (ev_var (hj (vi c)) (H := H1)) (el_firsts (K := K) (σ := (wipe σ [j]).set j (some (vi c))) (i := m) (j := o) (vs := [o]) (ev_var (hm (vi c))) (e1 _ _ hd) (dpa_ex e1 _ _ hB) hl (hw2 (vi c)) (ho (vi c))) (fun q H2 hq e2 => rv_niL (K := K) (sq_of hq) rfl (flat_vis _)))
    rw [inV_vis] at this
    exact this
  · rw [List.getElem?_map] at hx
    obtain ⟨c, hc, rfl⟩ := Option.map_eq_some_iff.mp hx
    have e : ws.getD i 0 = c := by rw [List.getD_eq_getElem?_getD, hc]; rfl
    rw [e]
    exact ev_var (hj (vi c))
/-- [x for x in gs if x not in f(..)], f(..) a new tuple each time -/
theorem el_out {gt : Addr} {gs os : List Nat} {j : Nat} {tl tc : TE} (hi : Ev tl σ H (.ref gt)) (hg : SqT K H gt (gs.map vi)) (hl : gs.length ≤ 1000) (hw : ∀ x, wipe ((wipe σ [j]).set j (some x)) [j] = wipe σ [j]) (hj : ∀ x, ((wipe σ [j]).set j (some x))[j]? = some (some x))
    (hc : ∀ x H1, Ex H H1 → EvU tc ((wipe σ [j]).set j (some x)) H1 (os.map vi)) :
    EvL (tLc (iTup K tl) (gName j) (tTest (tOp (rIn K true) (tVar j) tc)) (tVar j) [j]) σ H ((unwM gs os).map vi) := by
  have k := el_lcT (K := K) (σ := σ) (H := H) (t := tTest (tOp (rIn K true) (tVar j) tc)) (te := tVar j) (tl := tl) (j := j) (vs := [j]) (fun i => !os.contains (gs.getD i 0)) (fun i => vi (gs.getD i 0)) hi hg (by rw [List.length_map]; omega) hw
    (fun i x H1 e1 hx => ?_) (fun i x H1 e1 hx _ => ?_)
  · rw [List.length_map, given_filter (fun c => !os.contains c) (fun i x hx => by rw [List.getD_eq_getElem?_getD, hx]; rfl) (fun i x hx => by rw [List.getD_eq_getElem?_getD, hx]; rfl)] at k
    exact k
  · rw [List.getElem?_map] at hx
    obtain ⟨c, hc', rfl⟩ := Option.map_eq_some_iff.mp hx
    have e : gs.getD i 0 = c := by rw [List.getD_eq_getElem?_getD, hc']; rfl
    rw [e]
    have := et_test (ev_opU (ev_var (hj (vi c)) (H := H1)) (hc (vi c) H1 e1) (fun q H2 hq e2 => rv_niT (K := K) (st_of hq) rfl (flat_vis _)))
    rw [inV_vis] at this
    exact this
  · rw [List.getElem?_map] at hx
    obtain ⟨c, hc', rfl⟩ := Option.map_eq_some_iff.mp hx
    have e : gs.getD i 0 = c := by rw [List.getD_eq_getElem?_getD, hc']; rfl
    rw [e]
    exact ev_var (hj (vi c))
end
theorem grp_lt {n g h e c : Nat} {lot : List Nat} (hl : lot ∈ grpM n g h e) (hc : c ∈ lot) : c < n := by
  obtain ⟨q, _, rfl⟩ := List.mem_map.mp hl
  exact pricks_lt hc
end Nr
namespace Nr
open PySem PySem.Spec PyProof.Rows L2 Evl
open LamX (TabS TabB CodeO ExtN)
section
variable {P : Program} {w : World} {K : PySem.W.Frag} {mg : Str → Option Value} {base : Heap}
abbrev sLaw : Stmt := topS 27
abbrev nLaw : List Str := ["script", "k", "bag", "winding", "many", "wished", "rows", "due", "good", "made", "row", "cell", "turn", "angle", "cells", "spoilt", "seen", "more", "one"]
theorem scLaw : FnScope nLaw ["script"] (defScope sLaw) := ⟨rfl, rfl, rfl, by decide +kernel, rfl, by decide +kernel, by decide +kernel⟩
def spLaw (K : PySem.W.Frag) (T : Addr) : Sp := fun vs H Q _ => ∃ (a : Addr) (ns : List Int), vs = [.ref a] ∧ SqL K H a (ns.map V.int) ∧ ns.length ≤ 63 ∧ TabS H T lamQ ∧ ∀ H', Q (.bl true) H'
abbrev cellSc : Scope := { kind := .function, names := [(".0", .local), ("cell", .local), ("due", .cell)], isGenerator := false, isCoroutine := false, more := [] }
theorem ok_law {f T : Addr} {fd : FuncData} (F : Fun K "law" "law" sLaw f fd) (mr : mg "range" = none) (mm : mg "min" = none) (ml : mg "len" = none) (mt : mg "tuple" = none) (ms : mg "sorted" = none) (mse : mg "set" = none)
    {f1 : Addr} {fd1 : FuncData} (CB : Can P w K mg base "_law_bag" 1 f1 fd1 ["script", "k"] (spBag K)) {f2 : Addr} {fd2 : FuncData} (CW : Can P w K mg base "_law_winding" 3 f2 fd2 ["bag"] (spWind K))
    {f3 : Addr} {fd3 : FuncData} (CT : Can P w K mg base "_law_take" 1 f3 fd3 ["bag", "count"] spTake) {f4 : Addr} {fd4 : FuncData} (CI : Can P w K mg base "_law_wished" 4 f4 fd4 ["bag", "many", "winding"] (spWish K))
    {f5 : Addr} {fd5 : FuncData} (CR : Can P w K mg base "_law_stretches" 3 f5 fd5 ["many", "winding"] (spLStr K T)) {f6 : Addr} {fd6 : FuncData} (CL : Can P w K mg base "_law_barred" 1 f6 fd6 ["rows", "wished"] (spLBar K))
    {f7 : Addr} {fd7 : FuncData} (CM : Can P w K mg base "makeable" 5 f7 fd7 ["many", "winding", "wished"] (spMake K)) {f8 : Addr} {fd8 : FuncData} (CD : Can P w K mg base "barred" 4 f8 fd8 ["many", "winding", "wished"] (spBarred K))
    {f9 : Addr} {fd9 : FuncData} (CP : Can P w K mg base "pricked" 2 f9 fd9 ["many", "winding", "angle"] (spPricked K)) {f10 : Addr} {fd10 : FuncData} (CA : Can P w K mg base "_law_angle" 3 f10 fd10 ["bag"] (spAngle K)) :
    FnOk P w K mg base CX0 6 f fd ["script"] (spLaw K T) := by
  refine F.ok scLaw (fun vs H Q E h => ?_) (fun cdv A outer s H vs Q E hr h => ?_)
  · obtain ⟨a, ns, rfl, _⟩ := h
    rfl
  obtain ⟨a, ns, rfl, hS, hlen, hT, q⟩ := h
  have nd := scLaw.nd
  have hu := hu_of hr
  refine ⟨_, pss_cons (ps_for PassesOwn.never rfl (pi_range1 (by rfl) mr (pa_cons (pe_op op_add (pe_callB (call_min2 (by rfl)) (by rfl) mm PyProof.Rows.boot_min (pa_cons (pe_callB call_len_seq (by rfl) ml PySem.boot_len (pa_cons (pv 0) pa_nil)) (pa_cons pe_int pa_nil))) pe_int) pa_nil)) (pg_name (i := 1) nd rfl (.inl rfl))
      (pss_cons (ps_set (i := 2) nd rfl (.inl rfl) (pcall CB hr (pa_cons (pv 0) (pa_cons (pv 1) pa_nil))))
      (pss_cons (ps_asg (pe_tup (pa_cons (pcall CW hr (pa_cons (pv 2) pa_nil)) (pa_cons (pe_op op_add pe_int (pcall CT hr (pa_cons (pv 2) (pa_cons pe_int pa_nil)))) pa_nil))) (pg_tup rfl (pgs_cons (pg_name (i := 3) nd rfl (.inr rfl)) (pgs_cons (pg_name (i := 4) nd rfl (.inr rfl)) pgs_nil))))
      (pss_cons (ps_set (i := 5) nd rfl (.inr rfl) (pcall CI hr (pa_cons (pv 2) (pa_cons (pv 4) (pa_cons (pv 3) pa_nil)))))
      (pss_cons (ps_set (i := 6) nd rfl (.inl rfl) (pcall CR hr (pa_cons (pv 4) (pa_cons (pv 3) pa_nil))))
      (pss_cons (ps_asg (pe_tup (pa_cons (pcall CL hr (pa_cons (pv 6) (pa_cons (pv 5) pa_nil))) (pa_cons (pcall CM hr (pa_cons (pv 4) (pa_cons (pv 3) (pa_cons (pv 5) pa_nil)))) pa_nil))) (pg_tup rfl (pgs_cons (pg_name (i := 7) nd rfl (.inr rfl)) (pgs_cons (pg_name (i := 8) nd rfl (.inl rfl)) pgs_nil))))
      (pss_cons (ps_if (pt_cmpR (op_neD hr.units) (pcall CD hr (pa_cons (pv 4) (pa_cons (pv 3) (pa_cons (pv 5) pa_nil)))) (pv 7) (nomark _)) (pss_one (ps_ret pe_bl)) pss_nil)
      (pss_cons (ps_if (pt_cmpR (op_neD hr.units) (pv 8) (pe_callTy call_tuple_of (by rfl) mt PyProof.Rows.boot_tuple (pa_cons (pe_lc (own := [("cell", 11)]) (g := gName 11) (tt := tTest (tOp (rIn K true) (tVar 11) (tLc (iList K (tVar 7)) (gName 10) tYes (tOp (rIxT K) (tVar 10) (tC (.int 0))) [10]))) (by rfl) nd (pi_tup (pv 5)) (blkOk_by (N := nLaw) (sc := defScope sLaw) (by decide +kernel))
          (fun _ _ _ _ _ => pg_name (i := 11) nd rfl (Or.inl rfl)) (fun _ _ _ _ _ => pts_one (pt_cmpR (show OpR _ (compareOp .NotIn) (rIn K true) from op_notIn_seq) (pv 11) (pe_lc (own := [("row", 10)]) (g := gName 10) (tt := tYes) (by rfl) nd (pi_list (pv 7)) (blkOk_by (N := nLaw) (sc := cellSc) (by decide +kernel))
            (fun _ _ _ _ _ => pg_name (i := 10) nd rfl (Or.inl rfl)) (fun _ _ _ _ _ => pts_nil) (fun _ _ _ _ _ => pe_ix (show IxR _ (rIxT K) from ix_tup) (pv 10) pe_int (fun _ _ => rfl))) rfl)) (fun _ _ _ _ _ => pv 11)) pa_nil)) (nomark _)) (pss_one (ps_ret pe_bl)) pss_nil)
      (pss_cons (ps_set (i := 9) nd rfl (.inl rfl) pe_dnewK)
      (pss_cons (ps_for PassesOwn.never rfl (pi_list (pv 6)) (pg_name (i := 10) nd rfl (.inl rfl))
        (pss_one (ps_if (pt_cmpR (op_eqD hr.units) (pe_lc (own := [("cell", 11)]) (g := gName 11) (by rfl) nd (pi_tup (pe_ix ix_tup (pv 10) pe_int (fun _ _ => rfl))) (blkOk_by (N := nLaw) (sc := defScope sLaw) (by decide +kernel))
            (fun _ _ _ _ _ => pg_name (i := 11) nd rfl (Or.inl rfl)) (fun _ _ _ _ _ => pts_one (pt_cmpR (show OpR _ (compareOp .NotIn) (rIn K true) from op_notIn_seq) (pv 11) (pv 5) rfl)) (fun _ _ _ _ _ => pv 11)) (pe_lst pa_nil) (nomark _))
          (pss_one (ps_for PassesOwn.never rfl (pi_list (pcall CP hr (pa_cons (pv 4) (pa_cons (pv 3) (pa_cons (pe_ix ix_tup (pv 10) pe_int (fun _ _ => rfl)) pa_nil))))) (pg_name (i := 11) nd rfl (.inl rfl))
            (pss_one (ps_dput hu (pv 9) (pv 11) pe_bl rfl)))) pss_nil)))
      (pss_cons (ps_if (pt_cmpR (op_neD hr.units) (pe_callTy call_tuple_of (by rfl) mt PyProof.Rows.boot_tuple (pa_cons (pe_callB (call_sortedDI (by rfl)) (by rfl) ms boot_sorted (pa_cons (pv 9) pa_nil)) pa_nil)) (pv 8) (nomark _)) (pss_one (ps_ret pe_bl)) pss_nil)
      (pss_cons (ps_for PassesOwn.never rfl (pi_range1 (by rfl) mr (pa_cons pe_int pa_nil)) (pg_name (i := 12) nd rfl (.inl rfl))
        (pss_cons (ps_set (i := 13) nd rfl (.inl rfl) (pcall CA hr (pa_cons (pv 2) pa_nil)))
        (pss_cons (ps_set (i := 14) nd rfl (.inr rfl) (pcall CP hr (pa_cons (pv 4) (pa_cons (pv 3) (pa_cons (pv 13) pa_nil)))))
        (pss_one (ps_for PassesOwn.never rfl (pi_list (pv 7)) (pg_tup rfl (pgs_cons (pg_name (i := 11) nd rfl (.inl rfl)) (pgs_cons (pg_name (i := 15) nd rfl (.inl rfl)) pgs_nil)))
          (pss_cons (ps_setLc (i := 16) (own := [("one", 18)]) (g := gName 18) (by rfl) nd rfl rfl (sw_true rfl rfl rfl (by decide +kernel)) (pi_tup (pv 15)) (blkOk_by (N := nLaw) (sc := defScope sLaw) (by decide +kernel))
            (fun _ _ _ _ _ => pg_name (i := 18) nd rfl (Or.inl rfl)) (fun _ _ _ _ _ => pts_one (pt_cmpR (show OpR _ (compareOp .In) (rIn K false) from op_in_seq) (pv 18) (pv 14) rfl)) (fun _ _ _ _ _ => pv 18))
          (pss_one (ps_if (PW.pt (pw_and (pt_cmpR op_in_seq (pv 11) (pv 14) rfl) (pw_and1 (pt_cmpR (op_eqD hr.units) (pe_lc (own := [("one", 18)]) (g := gName 18) (by rfl) nd (pi_list (pv 16)) (blkOk_by (N := nLaw) (sc := defScope sLaw) (by decide +kernel))
            (fun _ _ _ _ _ => pg_name (i := 18) nd rfl (Or.inl rfl)) (fun _ _ _ _ _ => pts_one (pt_cmpR (show OpR _ (compareOp .NotIn) (rIn K true) from op_notIn_seq) (pv 18) (pv 5) rfl)) (fun _ _ _ _ _ => pv 18)) (pe_lst pa_nil) (nomark _))))) (pss_one (ps_ret pe_bl)) pss_nil))))))))
      (pss_cons (ps_set (i := 17) nd rfl (.inr rfl) (pe_callTy call_tuple_of (by rfl) mt PyProof.Rows.boot_tuple (pa_cons (pe_callB (cr_sortedSet (by rfl)) (by rfl) ms boot_sorted (pa_cons (pe_callTy (cr_setT (by rfl)) (by rfl) mse boot_set (pa_cons (pe_op op_catA (pv 5) (pe_tup (pa_cons (pcall CT hr (pa_cons (pv 2) (pa_cons (pv 4) pa_nil))) pa_nil))) pa_nil)) pa_nil)) pa_nil)))
      (pss_cons (ps_if (pt_cmpR (op_neD hr.units) (pe_lc (own := [("cell", 11)]) (g := gName 11) (by rfl) nd (pi_tup (pv 8)) (blkOk_by (N := nLaw) (sc := defScope sLaw) (by decide +kernel))
            (fun _ _ _ _ _ => pg_name (i := 11) nd rfl (Or.inl rfl)) (fun _ _ _ _ _ => pts_one (pt_cmpR (show OpR _ (compareOp .NotIn) (rIn K true) from op_notIn_seq) (pv 11) (pcall CM hr (pa_cons (pv 4) (pa_cons (pv 3) (pa_cons (pv 17) pa_nil)))) rfl)) (fun _ _ _ _ _ => pv 11)) (pe_lst pa_nil) (nomark _)) (pss_one (ps_ret pe_bl)) pss_nil)
      (pss_one (ps_if (pt_cmpR (op_neD hr.units) (pcall CM hr (pa_cons (pv 4) (pa_cons (pv 3) (pa_cons (pv 8) pa_nil)))) (pv 8) (nomark _)) (pss_one (ps_ret pe_bl)) pss_nil))))))))))))))))
    (pss_one (ps_ret pe_bl)), ?_⟩
  refine ⟨.ref a, rfl, a, _, rfl, .inl hS, _, _, rfl, _, _, rfl, rfl, _, rfl, ?_, ?_, for_range (lo := 0) (fun i σ' H' => ∃ y1 y2 y3 y4 y5 y6 y7 y8 y9 y10 y11 y12 y13 y14 y15 y16 y17 : Option V, σ' = [some (.ref a), y1, y2, y3, y4, y5, y6, y7, y8, y9, y10, y11, y12, y13, y14, y15, y16, y17, none] ∧ ExtN H H' ∧ TabS H' T lamQ)
    ⟨none, none, none, none, none, none, none, none, none, none, none, none, none, none, none, none, none, rfl, ExtN.refl H, hT⟩ ?_ ?_⟩
  · rw [List.length_map]
    split <;> omega
  · rw [List.length_map]
    split <;> omega
  · rintro i σ' H1 hi ⟨y1, y2, y3, y4, y5, y6, y7, y8, y9, y10, y11, y12, y13, y14, y15, y16, y17, rfl, ex, hT1⟩
    have hi2 : i < 12 := by
      rw [List.length_map] at hi
      revert hi
      split <;> omega
    have e0 : (0 : Int) + (i : Int) = (i : Int) := Int.zero_add _
    have hS1 := exn_l ex hS
    -- bag
    refine ⟨.ref a, rfl, .int (0 + (i : Int)), rfl, a, ns, i, by rw [e0]; rfl, hS1, by omega, fun p H2 hp e2 hb2 => ?_⟩
    -- winding, many
    refine ⟨.ref p, rfl, p, rfl, hb2, ?_⟩
    rintro wv H3 b3 hb3 ⟨g, h, e, hg, hg2, hh, he, hw3⟩
    have L3 : LS K H1 p T wv g h e H3 := ⟨exn_of (Bx.ex hp e2 b3), hb3, tab_bx (hT1.ext e2) hb2 b3, hw3⟩
    refine ⟨.ref p, rfl, p, 16, rfl, hb3, by decide, by decide, ?_⟩
    rintro _ H4 b4 hb4 ⟨r, rfl, hr24⟩
    have L4 := L3.bx hp b4 hb4
    refine ⟨_, _, rfl, rfl, by show 2 ≤ sizeLine; decide, fun t1 ht1 => ⟨t1, _, rfl, st_of upd_same, rfl, wv, _, rfl, _, _, rfl, rfl, ?_⟩⟩
    have en : (fun i j => V.int (i + j)) 1 (r : Int) = vi (1 + r) := by
      show V.int _ = V.int _
      rw [show ((1 + r : Nat) : Int) = 1 + (r : Int) by omega]
    rw [en]
    obtain ⟨n, en⟩ : ∃ n, n = 1 + r := ⟨_, rfl⟩
    rw [← en]
    have hn1 : 1 ≤ n := by omega
    have hn2 : n ≤ 24 := by omega
    have hn16 : n ≤ 16 := by omega
    have L5 := L4.ex (Ex.new (o := .tup [wv, vi n]) ht1)
    generalize upd H4 t1 (.tup [wv, vi n]) = H5 at L5
    -- wished
    refine ⟨.ref p, rfl, vi n, rfl, wv, rfl, p, n, g, h, e, wv, rfl, L5.bag, L5.win, hn1, hn2, hg, hg2, hh, he, ?_⟩
    rintro _ H6 b6 hb6 ⟨wt, ws, rfl, hwt, up, lt⟩
    have L6 := L5.bx hp b6 hb6
    have hwl : ws.length ≤ 16 := Nat.le_trans (rise_len up lt) hn16
    -- rows
    refine ⟨vi n, rfl, wv, rfl, n, g, h, e, wv, rfl, L6.win, hn2, hg, hg2, hh, he, L6.tab, fun rp xs H7 e7 t7 hrx hrd => ?_⟩
    have L7 := L6.exn e7 t7
    have hwt7 := exn_t e7 hwt
    have nrp := bag_rows L7.bag hrx hrd
    -- due, good
    refine ⟨.ref rp, rfl, .ref wt, rfl, n, g, h, e, rp, wt, xs, ws, rfl, sq_of hrx, hrd, hwt7, hn2, hg, hg2, hh, by omega, fun dp ys H8 hdp e8 hdx hdd => ?_⟩
    have ndp : dp ≠ p := bag_ne L7.bag hdp
    refine ⟨vi n, rfl, wv, rfl, .ref wt, rfl, n, g, h, e, wv, wt, ws, rfl, dp_ex e8 _ _ L7.win, ex_t e8 hwt7, hn2, hg, hg2, hh, by omega, fun gt H9 hgt e9 hgx => ?_⟩
    refine ⟨by show 2 ≤ sizeLine; decide, fun t2 ht2 => ⟨t2, _, rfl, st_of upd_same, rfl, .ref dp, _, rfl, .ref gt, _, rfl, rfl, ?_⟩⟩
    have R9 : LR K H1 p T wv n g h e wt ws rp xs dp ys gt H9 := ⟨L7.ex (e8.trans e9), ex_t (e8.trans e9) hwt7, (e8.trans e9) _ _ hrx, dpa_ex (e8.trans e9) _ _ hrd, e9 _ _ hdx, dpa_ex e9 _ _ hdd, st_of hgx⟩
    have R10 := R9.ex (Ex.new (o := .tup [.ref dp, .ref gt]) ht2)
    generalize upd H9 t2 (.tup [.ref dp, .ref gt]) = H10 at R10
    have hyl : ys.length ≤ 100 := by
      have h1 := dpa_len hdd
      have h2 := barP_len (G := grpM n g h e) (ws := ws) ws
      rw [List.length_map] at h1
      unfold barM at h1
      omega
    have hgl : (goodM (grpM n g h e) ws).length ≤ 16 := Nat.le_trans good_len hwl
    -- barred
    refine ⟨vi n, rfl, wv, rfl, .ref wt, rfl, n, g, h, e, wv, wt, ws, rfl, R10.ls.win, R10.wt, hn2, hg, hg2, hh, by omega, fun bp zs H11 hbp e11 hbx hbd => ?_⟩
    have R11 := R10.ex e11
    refine ⟨.ref dp, rfl, .list ((barM (grpM n g h e) ws).map bD), .list ((barM (grpM n g h e) ws).map bD), .lst (sq_of hbx) hbd, .lst (sq_of R11.due) R11.dd, sh_bar _, sh_bar _, false, by rw [bar_self]; rfl, ?_⟩
    -- makeable
    refine q_when (b := false) (et_is (et_test (ev_opU (ev_var rfl) (eu_tupleOf (K := K) (el_good (K := K) (i := 5) (j := 11) (m := 7) (o := 10) (ev_var rfl) R11.wt (by omega) R11.due R11.dd (by omega) (fun _ => rfl) (fun _ => rfl) (fun _ => rfl) (fun _ _ => rfl) (fun _ _ => rfl)))
      (fun q' H' hq e' => rv_neD (K := K) (cells_of (ex_t e' R11.good)) (cells_of (l := ws.filter fun c => !((barM (grpM n g h e) ws).map (·.1)).contains c) (st_of hq)) (sh_tup _) (sh_tup _)))) ?_) (fun hb => by cases hb) (fun _ H12 e12 => ?_)
    · rw [eqv_tup]
      show (!decide (goodM (grpM n g h e) ws = goodM (grpM n g h e) ws)) = false
      rw [decide_eq_true rfl]
      rfl
    have R12 := R11.ex e12
    have hgrp : ∀ c, (∃ lot ∈ grpM n g h e, c ∈ lot ∧ unwM lot ws = []) ↔ c ∈ goodM (grpM n g h e) ws := fun c => by
      rw [mem_good]
      constructor
      · rintro ⟨lot, a1, a2, a3⟩
        exact ⟨lot, a1, a2, unw_nil.mp a3⟩
      · rintro ⟨lot, a1, a2, a3⟩
        exact ⟨lot, a1, a2, unw_nil.mpr a3⟩
    have hxl : xs.length = (grpM n g h e).length := by rw [dpa_len hrd, grp_len]
    -- made
    refine fun D hD => ?_
    have xD := Ex.new (o := .dK []) hD
    have nrD : rp ≠ D := ne_of_none R12.rows hD
    refine q_forLn (K := K) (a := rp) (xs := xs) (ev_var rfl) (sq_of (xD _ _ R12.rows)) (fun j σ' H' => ∃ (y10 y11 : Option V) (kvs : List (Key × V)) (S : Nat → Prop), σ' = [some (.ref a), some (.int (0 + (i : Int))), some (.ref p), some wv, some (vi n), some (.ref wt), some (.ref rp), some (.ref dp), some (.ref gt), some (.ref D), y10, y11, y12, y13, y14, y15, y16, y17, none] ∧
        Ex H12 H' ∧ H' D = some (.dK kvs) ∧ DK kvs S ∧ ∀ c, S c ↔ ∃ lot ∈ (grpM n g h e).take j, c ∈ lot ∧ unwM lot ws = [])
      (fun H13 e13 => ⟨y10, y11, [], _, rfl, xD.trans e13, e13 _ _ upd_same, DK.nil, fun c => by simp⟩) (fun j σ' H' _ ⟨_, _, _, _, _, ex, _⟩ => sq_of (ex _ _ R12.rows)) ?_ ?_
    · rintro j x σ' H13 hx ⟨y10, y11, kvs, S, rfl, e13, h13D, hdk, hS⟩
      have R13 := R12.ex e13
      obtain ⟨d, hd1, hd2⟩ := dpa_get R13.rd hx
      obtain ⟨qq, hq1, rfl, hq2⟩ := grp_at hd1
      obtain ⟨ra, a1, b1, ca, rfl, hra, d1, _, hca⟩ := str_get hd2
      have hlg : pricksM n g h e qq.1 (wholeM n g h) ∈ grpM n g h e := List.mem_of_getElem? hq2
      have hll := grp_short hlg
      have hSn : ∀ c, S c → c < n := fun c hc => by
        obtain ⟨lot, h1, h2, _⟩ := (hS c).mp hc
        exact grp_lt (List.mem_of_mem_take h1) h2
      have htk : (grpM n g h e).take (j + 1) = (grpM n g h e).take j ++ [pricksM n g h e qq.1 (wholeM n g h)] := by
        rw [List.take_add_one, hq2]
        rfl
      refine s_when (et_test (ev_opLL (unw_lcE (K := K) (j := 11) (m := 5) (vs := [11]) (ev_op (ev_var rfl) ev_c (rv_ixT (K := K) hra (atI_nat (j := 2) rfl))) hca R13.wt (by omega) (fun _ => rfl) (fun _ => rfl) (fun _ => rfl)) (el_lst ea_nil (by decide))
        (fun q1 q2 H' h1 h2 _ => rv_eqD (K := K) (lst_of h1) (lst_of (l := []) h2) (sh_lst _) (sh_lst _)))) (fun hb H14 e14 => ?_) (fun hb H14 e14 => ?_)
      · rw [eqv_lst, decide_eq_true_eq] at hb
        have R14 := R13.ex e14
        have wp : 0 < wholeM n g h := whole_pos (by omega)
        obtain ⟨wlt, _⟩ := ok_at6 hn2 hg hg2 hh
        have tlt : qq.1 < wholeM n g h := by
          have hm : qq ∈ pairsM n g h := List.mem_of_getElem? hq1
          unfold pairsM at hm
          exact tops_lt (by omega) (List.of_mem_zip hm).1
        have bb1 : (lowP qq.1 (wholeM n g h)).2 ≤ wholeM n g h := Nat.div_le_self _ _
        have bb2 := lowP_pos (t := qq.1) wp
        refine ⟨vi n, rfl, wv, rfl, .ref ra, rfl, ra, _, _, a1, rfl, rfl, ex_t e14 hra, atI_nat (j := 0) rfl, n, g, h, e, (lowP qq.1 (wholeM n g h)).1, (lowP qq.1 (wholeM n g h)).2, wv, a1, rfl, R14.ls.win, dp_ex e14 _ _ d1, by omega, by omega, by omega, by omega, bb2, Nat.lt_of_lt_of_le (show _ < 1000000 by omega) (by decide), fun lp H15 hlp e15 hlx => ?_⟩
        rw [pricks_low wp] at hlx
        generalize pricksM n g h e qq.1 (wholeM n g h) = lot at hlx hlg htk hb
        have nlD : lp ≠ D := (ne_of_none (e14 _ _ h13D) hlp).symm
        refine ⟨lp, rfl, ⟨_, sq_of hlx⟩, for_list (K := K) (xs := lot.map vi) (fun k σ' H' => ∃ (y11 : Option V) (kvs : List (Key × V)) (S : Nat → Prop), σ' = [some (.ref a), some (.int (0 + (i : Int))), some (.ref p), some wv, some (vi n), some (.ref wt), some (.ref rp), some (.ref dp), some (.ref gt), some (.ref D), some (.ref ra), y11, y12, y13, y14, y15, y16, y17, none] ∧
            Ex H12 H' ∧ H' D = some (.dK kvs) ∧ DK kvs S ∧ (∀ c, S c ↔ (∃ lot ∈ (grpM n g h e).take j, c ∈ lot ∧ unwM lot ws = []) ∨ c ∈ lot.take k) ∧ H' lp = some (.lst (lot.map vi)))
          ⟨y11, kvs, S, rfl, e13.trans (e14.trans e15), (e14.trans e15) _ _ h13D, hdk, fun c => by rw [hS c]; simp, hlx⟩ (fun k σ' H' _ ⟨_, _, _, _, _, _, _, _, z⟩ => sq_of z) ?_ ?_⟩
        · rintro k x σ' H16 hx ⟨y11, kvs, S, rfl, e16, h16D, hdk, hS, h16l⟩
          rw [List.getElem?_map] at hx
          obtain ⟨c, hc, rfl⟩ := Option.map_eq_some_iff.mp hx
          have hSn : ∀ c, S c → c < n := fun c hc => by
            rcases (hS c).mp hc with ⟨lot', h1, h2, _⟩ | h1
            · exact grp_lt (List.mem_of_mem_take h1) h2
            · exact grp_lt hlg (List.mem_of_mem_take h1)
          have hkl := hdk.len hSn
          refine ⟨.ref D, rfl, vi c, rfl, D, _, rfl, DPut.k (k := kn c) h16D (small1000 (by omega)), ?_⟩
          refine ⟨_, _, _, rfl, Ex.mut e16 hD, upd_same, hdk.put, fun x => ?_, by rw [upd_ne nlD]; exact h16l⟩
          rw [hS x, List.take_add_one, hc, List.mem_append]
          simp [or_assoc]
        · rintro σ' H16 ⟨y11, kvs, S, rfl, e16, h16D, hdk, hS, h16l⟩
          rw [List.length_map, List.take_length] at hS
          refine ⟨_, _, kvs, S, rfl, e16, h16D, hdk, fun c => ?_⟩
          rw [hS c, htk]
          constructor
          · rintro (⟨l, h1, h2, h3⟩ | h1)
            · exact ⟨l, List.mem_append_left _ h1, h2, h3⟩
            · exact ⟨lot, List.mem_append_right _ (List.mem_singleton.mpr rfl), h1, hb⟩
          · rintro ⟨l, h1, h2, h3⟩
            rcases List.mem_append.mp h1 with h1 | h1
            · exact .inl ⟨l, h1, h2, h3⟩
            · rw [List.mem_singleton.mp h1] at h2
              exact .inr h2
      · rw [eqv_lst, decide_eq_false_iff_not] at hb
        refine ⟨_, _, kvs, S, rfl, e13.trans e14, e14 _ _ h13D, hdk, fun c => ?_⟩
        rw [hS c, htk]
        constructor
        · rintro ⟨l, h1, h2, h3⟩
          exact ⟨l, List.mem_append_left _ h1, h2, h3⟩
        · rintro ⟨l, h1, h2, h3⟩
          rcases List.mem_append.mp h1 with h1 | h1
          · exact ⟨l, h1, h2, h3⟩
          · rw [List.mem_singleton.mp h1] at h3
            exact absurd h3 hb
    rintro σ' H13 ⟨y10', y11', kvs, S, rfl, e13, h13D, hdk, hS⟩
    rw [hxl, List.take_length] at hS
    have R13 := R12.ex e13
    have hSg : ∀ c, c ∈ goodM (grpM n g h e) ws ↔ S c := fun c => ((hS c).trans (hgrp c)).symm
    refine q_when (b := false) (et_is (et_test (ev_opU1 (eu_tupleOf (K := K) (el_sortDI (i := 9) (n := n) rfl hdk h13D (fun c hc => lt c (good_sub ((hSg c).mpr hc))) (by omega) (good_up up) hSg)) (fun H' e' => ev_var rfl)
      (fun q' H' hq e' => rv_neD (K := K) (cells_of (st_of hq)) (cells_of (ex_t e' R13.good)) (sh_tup _) (sh_tup _)))) ?_) (fun hb => by cases hb) (fun _ H14 e14 => ?_)
    · rw [eqv_tup, decide_eq_true rfl]
      rfl
    have R14 := R13.ex e14
    -- needles
    refine q_forR1 (n := 5) (ea_cons ev_c ea_nil) (by omega) (fun j σ' H' => ∃ (y11 y12 y13 y14 y15 y16 : Option V), σ' = [some (.ref a), some (.int (0 + (i : Int))), some (.ref p), some wv, some (vi n), some (.ref wt), some (.ref rp), some (.ref dp), some (.ref gt), some (.ref D), y10', y11, y12, y13, y14, y15, y16, y17, none] ∧ LR K H1 p T wv n g h e wt ws rp xs dp ys gt H')
      (fun H15 e15 => ⟨_, _, _, _, _, _, rfl, R14.ex e15⟩) ?_ ?_
    · rintro j σ' H15 hj ⟨y11, y12, y13, y14, y15, y16, rfl, R15⟩
      refine ⟨.ref p, rfl, p, rfl, R15.ls.bag, ?_⟩
      rintro av H16 b16 hb16 ⟨t, b, htb, hbb, hgcd, hav⟩
      have R16 := R15.bx hp nrp ndp b16 hb16
      refine ⟨vi n, rfl, wv, rfl, av, rfl, n, g, h, e, t, b, wv, av, rfl, R16.ls.win, hav, by omega, by omega, by omega, by omega, by omega, Nat.lt_of_le_of_lt hbb (by decide), fun cp H17 hcp e17 hcx => ?_⟩
      have R17 := R16.ex e17
      have hcg := angle_grp (n := n) (g := g) (h := h) (e := e) (by omega) htb
      generalize pricksM n g h e t b = cells at hcx hcg
      have hcl := grp_short hcg
      refine s_forL (K := K) (a := dp) (xs := ys) (ev_var rfl) (sq_of R17.due) (fun k σ' H' => ∃ (y11 y15 y16 : Option V), σ' = [some (.ref a), some (.int (0 + (i : Int))), some (.ref p), some wv, some (vi n), some (.ref wt), some (.ref rp), some (.ref dp), some (.ref gt), some (.ref D), y10', y11, some (.int (j : Int)), some av, some (.ref cp), y15, y16, y17, none] ∧ Ex H17 H')
        (fun H18 e18 => ⟨_, _, _, rfl, e18⟩) (fun k σ' H' _ ⟨_, _, _, _, e'⟩ => sq_of (e' _ _ R17.due)) ?_ ?_
      · rintro k x σ' H18 hx ⟨y11, y15, y16, rfl, e18⟩
        have R18 := R17.ex e18
        have h18c := e18 _ _ hcx
        obtain ⟨d, hd1, hd2⟩ := dpa_get R18.dd hx
        rw [List.getElem?_map] at hd1
        obtain ⟨pp, hpp, rfl⟩ := Option.map_eq_some_iff.mp hd1
        obtain ⟨ra, tc, rfl, hra, htc⟩ := bD_get hd2
        have hpm := List.mem_of_getElem? hpp
        have hp2 : pp.2.length ≤ 1000 := by
          unfold barM barP at hpm
          obtain ⟨c, _, rfl⟩ := List.mem_map.mp hpm
          have := str_len (e := e) hn2 hg hg2 hh
          have h2 : (harmsM (grpM n g h e) ws c).length ≤ (grpM n g h e).length := by
            unfold harmsM
            rw [List.length_map]
            exact List.length_filter_le _ _
          rw [grp_len] at h2
          show ((harmsM (grpM n g h e) ws c).map minN).length ≤ 1000
          rw [List.length_map]
          omega
        refine ⟨ra, _, rfl, hra, rfl, vi pp.1, _, rfl, .ref tc, _, rfl, rfl, ?_⟩
        refine q_asgL (in_lcT (K := K) (b := cp) (ws := cells) (j := 18) (m := 14) (vs := [18]) (ev_var rfl) htc (sq_of h18c) hp2 (fun _ => rfl) (fun _ => rfl) (fun _ => rfl)) fun sp H19 hsp e19 hsx => ?_
        have R19 := R18.ex e19
        have h19c := e19 _ _ h18c
        refine s_when (b := false) (et_is (et_and (et_test (ev_op (ev_var rfl) (ev_var rfl) (rv_isL (K := K) (sq_of h19c) rfl (flat_vis cells)))) (fun _ => et_test (ev_opLL (unw_lcL (K := K) (j := 18) (m := 5) (vs := [18]) (ev_var rfl) (sq_of hsx) R19.wt (Nat.le_trans (List.length_filter_le _ _) hp2) (fun _ => rfl) (fun _ => rfl) (fun _ => rfl)) (el_lst ea_nil (by decide))
          (fun q1 q2 H' h1 h2 _ => rv_eqD (K := K) (lst_of h1) (lst_of (l := []) h2) (sh_lst _) (sh_lst _))))) ?_) (fun hb => by cases hb) (fun _ H20 e20 => ⟨_, _, _, rfl, e18.trans (e19.trans e20)⟩)
        rw [inV_vis, eqv_lst]
        cases hcc : cells.contains pp.1 with
        | false => rfl
        | true =>
          rw [Bool.true_and]
          exact decide_eq_false (bar_seen hpm hcg (by simpa using hcc))
      · rintro σ' H18 ⟨y11, y15, y16, rfl, e18⟩
        exact ⟨_, _, _, _, _, _, rfl, R17.ex e18⟩
    rintro σ' H15 ⟨y11, y12, y13, y14, y15, y16, rfl, R15⟩
    -- more
    refine q_more (K := K) (w := w) (i := 2) (j := 4) (m := 5) (o := 17) (n := n) rfl rfl rfl R15.ls.bag R15.wt hn1 hn2 (by omega) fun mt' H16 x b16 hb16 hx hmx => ?_
    have R16 := R15.bx hp nrp ndp b16 hb16
    have hml : (sortU (ws ++ [x])).length ≤ 100 := by
      have := sortU_len (ws ++ [x])
      rw [List.length_append, List.length_cons, List.length_nil] at this
      omega
    refine q_when (b := false) (et_is (et_test (ev_opLL (el_out (K := K) (j := 11) (os := goodM (grpM n g h e) (sortU (ws ++ [x]))) (ev_var rfl) R16.good (by omega) (fun _ => rfl) (fun _ => rfl)
        (fun y H' e' => eu_call (ea_cons (ev_var rfl) (ea_cons (ev_var rfl) (ea_cons (ev_var rfl) ea_nil))) (fun H2 e2 Q q E => ⟨n, g, h, e, wv, mt', _, rfl, dp_ex (e'.trans e2) _ _ R16.ls.win, st_of ((e'.trans e2) _ _ hmx), hn2, hg, hg2, hh, hml, q⟩))) (el_lst ea_nil (by decide))
      (fun q1 q2 H' h1 h2 _ => rv_neD (K := K) (lst_of h1) (lst_of (l := []) h2) (sh_lst _) (sh_lst _)))) ?_) (fun hb => by cases hb) (fun _ H17 e17 => ?_)
    · rw [eqv_lst, decide_eq_true]
      · rfl
      · exact unw_nil.mpr fun c hc => good_mono (fun y hy => (sortU_mem _ _).mpr (List.mem_append_left _ hy)) hc
    have R17 := R16.ex e17
    refine s_when (b := false) (et_is (et_test (ev_opU1 (eu_call (ea_cons (ev_var rfl) (ea_cons (ev_var rfl) (ea_cons (ev_var rfl) ea_nil))) (fun H2 e2 Q q E => ⟨n, g, h, e, wv, gt, _, rfl, dp_ex e2 _ _ R17.ls.win, ex_t e2 R17.good, hn2, hg, hg2, hh, by omega, q⟩)) (fun H' e' => ev_var rfl)
      (fun q' H' hq e' => rv_neD (K := K) (cells_of (st_of hq)) (cells_of (ex_t e' R17.good)) (sh_tup _) (sh_tup _)))) ?_) (fun hb => by cases hb) (fun _ H18 e18 => ?_)
    · rw [eqv_tup, decide_eq_true good_good]
      rfl
    have R18 := R17.ex e18
    exact ⟨_, _, _, _, _, _, _, _, _, _, _, _, _, _, _, _, _, rfl, ex.trans R18.ls.ext, R18.ls.tab⟩
  · rintro σ' H1 ⟨y1, y2, y3, y4, y5, y6, y7, y8, y9, y10, y11, y12, y13, y14, y15, y16, y17, rfl, ex, hT1⟩
    exact q H1
end
end Nr
namespace Nr
open PySem PySem.Spec PyProof.Rows L2 Evl
/-! what the top has written -/
theorem all_mk {l : PySem.W.OpenLaw} {w : World} {K : PySem.W.Frag} {h : Heap} {mg : Str → Option Value} {fa : Addr} (X : K.In h) (G : h.Ns mainGlobals mg) (hfa : mg "law" = some (.ref fa))
    {f0 : Addr} {od0 an0 : Option Addr} {sl0 : Array (Option Value)} {oc0 kV0 dc0 pm0 cd0 ct0 : Value}
    (a0 : PySem.W.nsIn K mainGlobals "common_divisor" = some (some (.ref f0))) (l0 : K.lookup f0 = some ⟨oc0, od0, .func (PySem.W.fnOf "common_divisor" "common_divisor" (defArgs sGcd) (defBody sGcd) (defScope sGcd) .none kV0 dc0 pm0 an0 cd0 ct0), sl0⟩)
    (c0 : PySem.W.codeIn K cd0 "common_divisor" = true) (k0 : PySem.W.keepIn K (.ref f0) = true)
    {f1 : Addr} {od1 an1 : Option Addr} {sl1 : Array (Option Value)} {oc1 kV1 dc1 pm1 cd1 ct1 : Value}
    (a1 : PySem.W.nsIn K mainGlobals "common_multiple" = some (some (.ref f1))) (l1 : K.lookup f1 = some ⟨oc1, od1, .func (PySem.W.fnOf "common_multiple" "common_multiple" (defArgs sLcm) (defBody sLcm) (defScope sLcm) .none kV1 dc1 pm1 an1 cd1 ct1), sl1⟩)
    (c1 : PySem.W.codeIn K cd1 "common_multiple" = true) (k1 : PySem.W.keepIn K (.ref f1) = true)
    {f2 : Addr} {od2 an2 : Option Addr} {sl2 : Array (Option Value)} {oc2 kV2 dc2 pm2 cd2 ct2 : Value}
    (a2 : PySem.W.nsIn K mainGlobals "lowest" = some (some (.ref f2))) (l2 : K.lookup f2 = some ⟨oc2, od2, .func (PySem.W.fnOf "lowest" "lowest" (defArgs sLowest) (defBody sLowest) (defScope sLowest) .none kV2 dc2 pm2 an2 cd2 ct2), sl2⟩)
    (c2 : PySem.W.codeIn K cd2 "lowest" = true) (k2 : PySem.W.keepIn K (.ref f2) = true)
    {f3 : Addr} {od3 an3 : Option Addr} {sl3 : Array (Option Value)} {oc3 kV3 dc3 pm3 cd3 ct3 : Value}
    (a3 : PySem.W.nsIn K mainGlobals "turns" = some (some (.ref f3))) (l3 : K.lookup f3 = some ⟨oc3, od3, .func (PySem.W.fnOf "turns" "turns" (defArgs sTurns) (defBody sTurns) (defScope sTurns) .none kV3 dc3 pm3 an3 cd3 ct3), sl3⟩)
    (c3 : PySem.W.codeIn K cd3 "turns" = true) (k3 : PySem.W.keepIn K (.ref f3) = true)
    {f4 : Addr} {od4 an4 : Option Addr} {sl4 : Array (Option Value)} {oc4 kV4 dc4 pm4 cd4 ct4 : Value}
    (a4 : PySem.W.nsIn K mainGlobals "cell_at" = some (some (.ref f4))) (l4 : K.lookup f4 = some ⟨oc4, od4, .func (PySem.W.fnOf "cell_at" "cell_at" (defArgs sCellAt) (defBody sCellAt) (defScope sCellAt) .none kV4 dc4 pm4 an4 cd4 ct4), sl4⟩)
    (c4 : PySem.W.codeIn K cd4 "cell_at" = true) (k4 : PySem.W.keepIn K (.ref f4) = true)
    {f5 : Addr} {od5 an5 : Option Addr} {sl5 : Array (Option Value)} {oc5 kV5 dc5 pm5 cd5 ct5 : Value}
    (a5 : PySem.W.nsIn K mainGlobals "pricked" = some (some (.ref f5))) (l5 : K.lookup f5 = some ⟨oc5, od5, .func (PySem.W.fnOf "pricked" "pricked" (defArgs sPricked) (defBody sPricked) (defScope sPricked) .none kV5 dc5 pm5 an5 cd5 ct5), sl5⟩)
    (c5 : PySem.W.codeIn K cd5 "pricked" = true) (k5 : PySem.W.keepIn K (.ref f5) = true)
    {f6 : Addr} {od6 an6 : Option Addr} {sl6 : Array (Option Value)} {oc6 kV6 dc6 pm6 cd6 ct6 : Value}
    (a6 : PySem.W.nsIn K mainGlobals "marks" = some (some (.ref f6))) (l6 : K.lookup f6 = some ⟨oc6, od6, .func (PySem.W.fnOf "marks" "marks" (defArgs sMarks) (defBody sMarks) (defScope sMarks) .none kV6 dc6 pm6 an6 cd6 ct6), sl6⟩)
    (c6 : PySem.W.codeIn K cd6 "marks" = true) (k6 : PySem.W.keepIn K (.ref f6) = true)
    {f7 : Addr} {od7 an7 : Option Addr} {sl7 : Array (Option Value)} {oc7 kV7 dc7 pm7 cd7 ct7 : Value}
    (a7 : PySem.W.nsIn K mainGlobals "stretches" = some (some (.ref f7))) (l7 : K.lookup f7 = some ⟨oc7, od7, .func (PySem.W.fnOf "stretches" "stretches" (defArgs sStretches) (defBody sStretches) (defScope sStretches) .none kV7 dc7 pm7 an7 cd7 ct7), sl7⟩)
    (c7 : PySem.W.codeIn K cd7 "stretches" = true) (k7 : PySem.W.keepIn K (.ref f7) = true)
    {f8 : Addr} {od8 an8 : Option Addr} {sl8 : Array (Option Value)} {oc8 kV8 dc8 pm8 cd8 ct8 : Value}
    (a8 : PySem.W.nsIn K mainGlobals "unwished" = some (some (.ref f8))) (l8 : K.lookup f8 = some ⟨oc8, od8, .func (PySem.W.fnOf "unwished" "unwished" (defArgs sUnw) (defBody sUnw) (defScope sUnw) .none kV8 dc8 pm8 an8 cd8 ct8), sl8⟩)
    (c8 : PySem.W.codeIn K cd8 "unwished" = true) (k8 : PySem.W.keepIn K (.ref f8) = true)
    {f9 : Addr} {od9 an9 : Option Addr} {sl9 : Array (Option Value)} {oc9 kV9 dc9 pm9 cd9 ct9 : Value}
    (a9 : PySem.W.nsIn K mainGlobals "barred" = some (some (.ref f9))) (l9 : K.lookup f9 = some ⟨oc9, od9, .func (PySem.W.fnOf "barred" "barred" (defArgs sBarred) (defBody sBarred) (defScope sBarred) .none kV9 dc9 pm9 an9 cd9 ct9), sl9⟩)
    (c9 : PySem.W.codeIn K cd9 "barred" = true) (k9 : PySem.W.keepIn K (.ref f9) = true)
    {f10 : Addr} {od10 an10 : Option Addr} {sl10 : Array (Option Value)} {oc10 kV10 dc10 pm10 cd10 ct10 : Value}
    (a10 : PySem.W.nsIn K mainGlobals "makeable" = some (some (.ref f10))) (l10 : K.lookup f10 = some ⟨oc10, od10, .func (PySem.W.fnOf "makeable" "makeable" (defArgs sMakeable) (defBody sMakeable) (defScope sMakeable) .none kV10 dc10 pm10 an10 cd10 ct10), sl10⟩)
    (c10 : PySem.W.codeIn K cd10 "makeable" = true) (k10 : PySem.W.keepIn K (.ref f10) = true)
    {f11 : Addr} {od11 an11 : Option Addr} {sl11 : Array (Option Value)} {oc11 kV11 dc11 pm11 cd11 ct11 : Value}
    (a11 : PySem.W.nsIn K mainGlobals "_law_bag" = some (some (.ref f11))) (l11 : K.lookup f11 = some ⟨oc11, od11, .func (PySem.W.fnOf "_law_bag" "_law_bag" (defArgs sBag) (defBody sBag) (defScope sBag) .none kV11 dc11 pm11 an11 cd11 ct11), sl11⟩)
    (c11 : PySem.W.codeIn K cd11 "_law_bag" = true) (k11 : PySem.W.keepIn K (.ref f11) = true)
    {f12 : Addr} {od12 an12 : Option Addr} {sl12 : Array (Option Value)} {oc12 kV12 dc12 pm12 cd12 ct12 : Value}
    (a12 : PySem.W.nsIn K mainGlobals "_law_take" = some (some (.ref f12))) (l12 : K.lookup f12 = some ⟨oc12, od12, .func (PySem.W.fnOf "_law_take" "_law_take" (defArgs sTake) (defBody sTake) (defScope sTake) .none kV12 dc12 pm12 an12 cd12 ct12), sl12⟩)
    (c12 : PySem.W.codeIn K cd12 "_law_take" = true) (k12 : PySem.W.keepIn K (.ref f12) = true)
    {f13 : Addr} {od13 an13 : Option Addr} {sl13 : Array (Option Value)} {oc13 kV13 dc13 pm13 cd13 ct13 : Value}
    (a13 : PySem.W.nsIn K mainGlobals "_law_of" = some (some (.ref f13))) (l13 : K.lookup f13 = some ⟨oc13, od13, .func (PySem.W.fnOf "_law_of" "_law_of" (defArgs sOf) (defBody sOf) (defScope sOf) .none kV13 dc13 pm13 an13 cd13 ct13), sl13⟩)
    (c13 : PySem.W.codeIn K cd13 "_law_of" = true) (k13 : PySem.W.keepIn K (.ref f13) = true)
    {f14 : Addr} {od14 an14 : Option Addr} {sl14 : Array (Option Value)} {oc14 kV14 dc14 pm14 cd14 ct14 : Value}
    (a14 : PySem.W.nsIn K mainGlobals "_law_winding" = some (some (.ref f14))) (l14 : K.lookup f14 = some ⟨oc14, od14, .func (PySem.W.fnOf "_law_winding" "_law_winding" (defArgs sWind) (defBody sWind) (defScope sWind) .none kV14 dc14 pm14 an14 cd14 ct14), sl14⟩)
    (c14 : PySem.W.codeIn K cd14 "_law_winding" = true) (k14 : PySem.W.keepIn K (.ref f14) = true)
    {f15 : Addr} {od15 an15 : Option Addr} {sl15 : Array (Option Value)} {oc15 kV15 dc15 pm15 cd15 ct15 : Value}
    (a15 : PySem.W.nsIn K mainGlobals "_law_lowest" = some (some (.ref f15))) (l15 : K.lookup f15 = some ⟨oc15, od15, .func (PySem.W.fnOf "_law_lowest" "_law_lowest" (defArgs sLow2) (defBody sLow2) (defScope sLow2) .none kV15 dc15 pm15 an15 cd15 ct15), sl15⟩)
    (c15 : PySem.W.codeIn K cd15 "_law_lowest" = true) (k15 : PySem.W.keepIn K (.ref f15) = true)
    {f16 : Addr} {od16 an16 : Option Addr} {sl16 : Array (Option Value)} {oc16 kV16 dc16 pm16 cd16 ct16 : Value}
    (a16 : PySem.W.nsIn K mainGlobals "_law_angle" = some (some (.ref f16))) (l16 : K.lookup f16 = some ⟨oc16, od16, .func (PySem.W.fnOf "_law_angle" "_law_angle" (defArgs sAngle) (defBody sAngle) (defScope sAngle) .none kV16 dc16 pm16 an16 cd16 ct16), sl16⟩)
    (c16 : PySem.W.codeIn K cd16 "_law_angle" = true) (k16 : PySem.W.keepIn K (.ref f16) = true)
    {f17 : Addr} {od17 an17 : Option Addr} {sl17 : Array (Option Value)} {oc17 kV17 dc17 pm17 cd17 ct17 : Value}
    (a17 : PySem.W.nsIn K mainGlobals "_law_pricked" = some (some (.ref f17))) (l17 : K.lookup f17 = some ⟨oc17, od17, .func (PySem.W.fnOf "_law_pricked" "_law_pricked" (defArgs sLPr) (defBody sLPr) (defScope sLPr) .none kV17 dc17 pm17 an17 cd17 ct17), sl17⟩)
    (c17 : PySem.W.codeIn K cd17 "_law_pricked" = true) (k17 : PySem.W.keepIn K (.ref f17) = true)
    {f18 : Addr} {od18 an18 : Option Addr} {sl18 : Array (Option Value)} {oc18 kV18 dc18 pm18  ct18 : Value}
    {cb T : Addr} {ecb : Value} {dcb : Option Addr} {vcb : Array Value} {scb : Array (Option Value)}
    (a18 : PySem.W.nsIn K mainGlobals "_law_breaks" = some (some (.ref f18))) (l18 : K.lookup f18 = some ⟨oc18, od18, .func (PySem.W.fnOf "_law_breaks" "_law_breaks" (defArgs sBreaks) (defBody sBreaks) (defScope sBreaks) .none kV18 dc18 pm18 an18 (.ref cb) ct18), sl18⟩)
    (c18 : PySem.W.codeIn K (.ref cb) "_law_breaks" = true) (k18 : PySem.W.keepIn K (.ref f18) = true)
    (lcb : K.lookup cb = some ⟨ecb, dcb, .fields vcb, scb⟩) (vT : vcb[11]? = some (.ref T)) (nT : K.lookup T = none) (hcdb : PySem.W.codeHdIn K cb T = true) (htb : h.get? T = some { cls := .none, data := .fields #[] })
    {f19 : Addr} {od19 an19 : Option Addr} {sl19 : Array (Option Value)} {oc19 kV19 dc19 pm19 cd19 ct19 : Value}
    (a19 : PySem.W.nsIn K mainGlobals "_law_stretches" = some (some (.ref f19))) (l19 : K.lookup f19 = some ⟨oc19, od19, .func (PySem.W.fnOf "_law_stretches" "_law_stretches" (defArgs sLStr) (defBody sLStr) (defScope sLStr) .none kV19 dc19 pm19 an19 cd19 ct19), sl19⟩)
    (c19 : PySem.W.codeIn K cd19 "_law_stretches" = true) (k19 : PySem.W.keepIn K (.ref f19) = true)
    {f20 : Addr} {od20 an20 : Option Addr} {sl20 : Array (Option Value)} {oc20 kV20 dc20 pm20 cd20 ct20 : Value}
    (a20 : PySem.W.nsIn K mainGlobals "_law_wished" = some (some (.ref f20))) (l20 : K.lookup f20 = some ⟨oc20, od20, .func (PySem.W.fnOf "_law_wished" "_law_wished" (defArgs sWish) (defBody sWish) (defScope sWish) .none kV20 dc20 pm20 an20 cd20 ct20), sl20⟩)
    (c20 : PySem.W.codeIn K cd20 "_law_wished" = true) (k20 : PySem.W.keepIn K (.ref f20) = true)
    {f21 : Addr} {od21 an21 : Option Addr} {sl21 : Array (Option Value)} {oc21 kV21 dc21 pm21 cd21 ct21 : Value}
    (a21 : PySem.W.nsIn K mainGlobals "_law_barred" = some (some (.ref f21))) (l21 : K.lookup f21 = some ⟨oc21, od21, .func (PySem.W.fnOf "_law_barred" "_law_barred" (defArgs sLBar) (defBody sLBar) (defScope sLBar) .none kV21 dc21 pm21 an21 cd21 ct21), sl21⟩)
    (c21 : PySem.W.codeIn K cd21 "_law_barred" = true) (k21 : PySem.W.keepIn K (.ref f21) = true)
    {f22 : Addr} {od22 an22 : Option Addr} {sl22 : Array (Option Value)} {oc22 kV22 dc22 pm22 cd22 ct22 : Value}
    (a22 : PySem.W.nsIn K mainGlobals "law" = some (some (.ref f22))) (l22 : K.lookup f22 = some ⟨oc22, od22, .func (PySem.W.fnOf "law" "law" (defArgs sLaw) (defBody sLaw) (defScope sLaw) .none kV22 dc22 pm22 an22 cd22 ct22), sl22⟩)
    (c22 : PySem.W.codeIn K cd22 "law" = true) (k22 : PySem.W.keepIn K (.ref f22) = true)
    (z_sorted : PySem.W.nsIn K mainGlobals "sorted" = some none)
    (z_range : PySem.W.nsIn K mainGlobals "range" = some none)
    (z_zip : PySem.W.nsIn K mainGlobals "zip" = some none)
    (z_tuple : PySem.W.nsIn K mainGlobals "tuple" = some none)
    (z_len : PySem.W.nsIn K mainGlobals "len" = some none)
    (z_min : PySem.W.nsIn K mainGlobals "min" = some none)
    (z_all : PySem.W.nsIn K mainGlobals "all" = some none)
    (z_set : PySem.W.nsIn K mainGlobals "set" = some none)
    {t_CELL : Tok} (z_CELL : PySem.W.nsIn K mainGlobals "CELL" = some (some (.int 2 t_CELL)))
    : LamX.LawAtS l w K CX0 6 63 "script" mg fa h := by
  have e := hfa.symm.trans (PySem.W.mg_of X G a22)
  cases e
  have m_sorted := PySem.W.mg_none_of X G z_sorted
  have m_range := PySem.W.mg_none_of X G z_range
  have m_zip := PySem.W.mg_none_of X G z_zip
  have m_tuple := PySem.W.mg_none_of X G z_tuple
  have m_len := PySem.W.mg_none_of X G z_len
  have m_min := PySem.W.mg_none_of X G z_min
  have m_all := PySem.W.mg_none_of X G z_all
  have m_set := PySem.W.mg_none_of X G z_set
  have m_CELL := PySem.W.mg_of X G z_CELL
  have F0 := fun_mk (st := sGcd) l0 c0 k0
  have F1 := fun_mk (st := sLcm) l1 c1 k1
  have F2 := fun_mk (st := sLowest) l2 c2 k2
  have F3 := fun_mk (st := sTurns) l3 c3 k3
  have F4 := fun_mk (st := sCellAt) l4 c4 k4
  have F5 := fun_mk (st := sPricked) l5 c5 k5
  have F6 := fun_mk (st := sMarks) l6 c6 k6
  have F7 := fun_mk (st := sStretches) l7 c7 k7
  have F8 := fun_mk (st := sUnw) l8 c8 k8
  have F9 := fun_mk (st := sBarred) l9 c9 k9
  have F10 := fun_mk (st := sMakeable) l10 c10 k10
  have F11 := fun_mk (st := sBag) l11 c11 k11
  have F12 := fun_mk (st := sTake) l12 c12 k12
  have F13 := fun_mk (st := sOf) l13 c13 k13
  have F14 := fun_mk (st := sWind) l14 c14 k14
  have F15 := fun_mk (st := sLow2) l15 c15 k15
  have F16 := fun_mk (st := sAngle) l16 c16 k16
  have F17 := fun_mk (st := sLPr) l17 c17 k17
  have FC : FunC K "_law_breaks" "_law_breaks" sBreaks f18 cb _ := ⟨⟨oc18, od18, kV18, dc18, pm18, an18, ct18, sl18, rfl, l18, c18⟩, k18⟩
  have F18 := FC.fn
  have hcd := PySem.W.codeHd_of_K X hcdb
  have F19 := fun_mk (st := sLStr) l19 c19 k19
  have F20 := fun_mk (st := sWish) l20 c20 k20
  have F21 := fun_mk (st := sLBar) l21 c21 k21
  have F22 := fun_mk (st := sLaw) l22 c22 k22
  have one : ∀ {Pp : Addr × Addr → Prop}, Pp (cb, T) → ∀ p ∈ [(cb, T)], Pp p := fun hP p hp => by
    rw [List.mem_singleton.mp hp]
    exact hP
  refine ⟨PySem.W.fnOf "law" "law" (defArgs sLaw) (defBody sLaw) (defScope sLaw) .none kV22 dc22 pm22 an22 cd22 ct22, [(cb, T)], spLaw K T, one htb, one nT, one hcd, fun s v => .of_eq rfl,
    fun H a ns hl _ hH hS => ⟨a, ns, rfl, hS, hl, LamX.TabS.nil (hH (cb, T) (List.mem_singleton.mpr rfl)), fun _ => rfl⟩, fun base _ _ TBs => ?_⟩
  have TB : LamX.TabB base mg cb T := TBs (cb, T) (List.mem_singleton.mpr rfl)
  have Cgcd : Can l.prog w K mg base "common_divisor" 1 f0 _ ["first", "second"] _ := ⟨ok_gcd (k := 0) F0, PySem.W.mg_of X G a0, F0.kp, F0.binds (ps := ["first", "second"]) fun _ _ _ _ _ _ us hl => match us, hl with | [_, _], _ => rfl⟩
  have Clcm : Can l.prog w K mg base "common_multiple" 2 f1 _ ["numbers"] _ := ⟨ok_lcm F1 Cgcd, PySem.W.mg_of X G a1, F1.kp, F1.binds (ps := ["numbers"]) fun _ _ _ _ _ _ us hl => match us, hl with | [_], _ => rfl⟩
  have Clow : Can l.prog w K mg base "lowest" 2 f2 _ ["top", "bottom"] _ := ⟨ok_lowest F2 Cgcd, PySem.W.mg_of X G a2, F2.kp, F2.binds (ps := ["top", "bottom"]) fun _ _ _ _ _ _ us hl => match us, hl with | [_, _], _ => rfl⟩
  have Ctur : Can l.prog w K mg base "turns" 1 f3 _ ["many", "winding"] _ := ⟨ok_turns (k := 0) F3 m_CELL, PySem.W.mg_of X G a3, F3.kp, F3.binds (ps := ["many", "winding"]) fun _ _ _ _ _ _ us hl => match us, hl with | [_, _], _ => rfl⟩
  have Ccel : Can l.prog w K mg base "cell_at" 1 f4 _ ["many", "winding", "place"] _ := ⟨ok_cellAt (k := 0) F4, PySem.W.mg_of X G a4, F4.kp, F4.binds (ps := ["many", "winding", "place"]) fun _ _ _ _ _ _ us hl => match us, hl with | [_, _, _], _ => rfl⟩
  have Cpri : Can l.prog w K mg base "pricked" 2 f5 _ ["many", "winding", "angle"] _ := ⟨ok_pricked F5 m_CELL m_sorted Ctur Ccel, PySem.W.mg_of X G a5, F5.kp, F5.binds (ps := ["many", "winding", "angle"]) fun _ _ _ _ _ _ us hl => match us, hl with | [_, _, _], _ => rfl⟩
  have Cmar : Can l.prog w K mg base "marks" 1 f6 _ ["many", "rows", "whole"] _ := ⟨ok_marks (k := 0) F6 m_CELL m_sorted m_range, PySem.W.mg_of X G a6, F6.kp, F6.binds (ps := ["many", "rows", "whole"]) fun _ _ _ _ _ _ us hl => match us, hl with | [_, _, _], _ => rfl⟩
  have Cstr : Can l.prog w K mg base "stretches" 3 f7 _ ["many", "winding"] _ := ⟨ok_stretches F7 m_zip m_tuple Ctur Clcm Cmar Cpri Clow, PySem.W.mg_of X G a7, F7.kp, F7.binds (ps := ["many", "winding"]) fun _ _ _ _ _ _ us hl => match us, hl with | [_, _], _ => rfl⟩
  have Cunw : Can l.prog w K mg base "unwished" 1 f8 _ ["cells", "wished"] _ := ⟨ok_unw (k := 0) F8, PySem.W.mg_of X G a8, F8.kp, F8.binds (ps := ["cells", "wished"]) fun _ _ _ _ _ _ us hl => match us, hl with | [_, _], _ => rfl⟩
  have Cbar : Can l.prog w K mg base "barred" 4 f9 _ ["many", "winding", "wished"] _ := ⟨ok_barred F9 m_all m_tuple m_min Cstr Cunw, PySem.W.mg_of X G a9, F9.kp, F9.binds (ps := ["many", "winding", "wished"]) fun _ _ _ _ _ _ us hl => match us, hl with | [_, _, _], _ => rfl⟩
  have Cmak : Can l.prog w K mg base "makeable" 5 f10 _ ["many", "winding", "wished"] _ := ⟨ok_make F10 m_tuple Cbar, PySem.W.mg_of X G a10, F10.kp, F10.binds (ps := ["many", "winding", "wished"]) fun _ _ _ _ _ _ us hl => match us, hl with | [_, _, _], _ => rfl⟩
  have Cbag : Can l.prog w K mg base "_law_bag" 1 f11 _ ["script", "k"] _ := ⟨ok_bag (k := 0) F11 m_len, PySem.W.mg_of X G a11, F11.kp, F11.binds (ps := ["script", "k"]) fun _ _ _ _ _ _ us hl => match us, hl with | [_, _], _ => rfl⟩
  have Ctak : Can l.prog w K mg base "_law_take" 1 f12 _ ["bag", "count"] _ := ⟨ok_take (k := 0) F12, PySem.W.mg_of X G a12, F12.kp, F12.binds (ps := ["bag", "count"]) fun _ _ _ _ _ _ us hl => match us, hl with | [_, _], _ => rfl⟩
  have Cof : Can l.prog w K mg base "_law_of" 2 f13 _ ["bag", "some"] _ := ⟨ok_of F13 m_len Ctak, PySem.W.mg_of X G a13, F13.kp, F13.binds (ps := ["bag", "some"]) fun _ _ _ _ _ _ us hl => match us, hl with | [_, _], _ => rfl⟩
  have Cwin : Can l.prog w K mg base "_law_winding" 3 f14 _ ["bag"] _ := ⟨ok_wind F14 Ctak Cof, PySem.W.mg_of X G a14, F14.kp, F14.binds (ps := ["bag"]) fun _ _ _ _ _ _ us hl => match us, hl with | [_], _ => rfl⟩
  have Clo2 : Can l.prog w K mg base "_law_lowest" 1 f15 _ ["top", "bottom"] _ := ⟨ok_low2 (k := 0) F15, PySem.W.mg_of X G a15, F15.kp, F15.binds (ps := ["top", "bottom"]) fun _ _ _ _ _ _ us hl => match us, hl with | [_, _], _ => rfl⟩
  have Cang : Can l.prog w K mg base "_law_angle" 3 f16 _ ["bag"] _ := ⟨ok_angle F16 Ctak Cof Clo2, PySem.W.mg_of X G a16, F16.kp, F16.binds (ps := ["bag"]) fun _ _ _ _ _ _ us hl => match us, hl with | [_], _ => rfl⟩
  have Clpr : Can l.prog w K mg base "_law_pricked" 1 f17 _ ["many", "winding", "angle"] _ := ⟨ok_lpr (k := 0) F17 m_sorted, PySem.W.mg_of X G a17, F17.kp, F17.binds (ps := ["many", "winding", "angle"]) fun _ _ _ _ _ _ us hl => match us, hl with | [_, _, _], _ => rfl⟩
  have Cbrk : Can l.prog w K mg base "_law_breaks" 2 f18 _ ["many", "winding"] _ := ⟨ok_breaks FC TB m_sorted m_range Clo2, PySem.W.mg_of X G a18, F18.kp, F18.binds (ps := ["many", "winding"]) fun _ _ _ _ _ _ us hl => match us, hl with | [_, _], _ => rfl⟩
  have Clst : Can l.prog w K mg base "_law_stretches" 3 f19 _ ["many", "winding"] _ := ⟨ok_lstr F19 m_zip m_tuple Cbrk Clpr, PySem.W.mg_of X G a19, F19.kp, F19.binds (ps := ["many", "winding"]) fun _ _ _ _ _ _ us hl => match us, hl with | [_, _], _ => rfl⟩
  have Cwis : Can l.prog w K mg base "_law_wished" 4 f20 _ ["bag", "many", "winding"] _ := ⟨ok_wish F20 m_tuple m_range m_sorted Ctak Cof Clpr Cang, PySem.W.mg_of X G a20, F20.kp, F20.binds (ps := ["bag", "many", "winding"]) fun _ _ _ _ _ _ us hl => match us, hl with | [_, _, _], _ => rfl⟩
  have Clba : Can l.prog w K mg base "_law_barred" 1 f21 _ ["rows", "wished"] _ := ⟨ok_lbar (k := 0) F21 m_tuple m_min, PySem.W.mg_of X G a21, F21.kp, F21.binds (ps := ["rows", "wished"]) fun _ _ _ _ _ _ us hl => match us, hl with | [_, _], _ => rfl⟩
  exact ok_law F22 m_range m_min m_len m_tuple m_sorted m_set Cbag Cwin Ctak Cwis Clst Clba Cmak Cbar Cpri Cang
end Nr
open PySem PySem.W PyProof.Rows
set_option maxHeartbeats 0 in
theorem PySem.Challenge.cw_needleroll_k03_whole_what_is_barred_and_holds : PySem.Challenge.rw_needleroll_k03_whole_what_is_barred_and.Holds := by
  w_on; o_law; k_head; (case hw => w_witness2)
  k_fill
  refine LamX.walk_ofTs (l := PySem.Challenge.rw_needleroll_k03_whole_what_is_barred_and) (n := 63) (k := 6) (x := "script") (CX := fun _ => L2.CX0) rfl (by decide) rfl ⟨rfl, by decide, by decide⟩ (fun w h Y => PySem.W.km_in_of Y) ?F (fun _ _ _ _ _ h => h)
  case F =>
    intro w mg fa h Y KX G hmg
    refine' Nr.all_mk KX G hmg ?a0 ?l0 ?c0 ?k0 ?a1 ?l1 ?c1 ?k1 ?a2 ?l2 ?c2 ?k2 ?a3 ?l3 ?c3 ?k3 ?a4 ?l4 ?c4 ?k4 ?a5 ?l5 ?c5 ?k5 ?a6 ?l6 ?c6 ?k6 ?a7 ?l7 ?c7 ?k7 ?a8 ?l8 ?c8 ?k8 ?a9 ?l9 ?c9 ?k9 ?a10 ?l10 ?c10 ?k10 ?a11 ?l11 ?c11 ?k11 ?a12 ?l12 ?c12 ?k12 ?a13 ?l13 ?c13 ?k13 ?a14 ?l14 ?c14 ?k14 ?a15 ?l15 ?c15 ?k15 ?a16 ?l16 ?c16 ?k16 ?a17 ?l17 ?c17 ?k17 ?a18 ?l18 ?c18 ?k18 ?lcb ?vT ?nT ?hcdb ?htb ?a19 ?l19 ?c19 ?k19 ?a20 ?l20 ?c20 ?k20 ?a21 ?l21 ?c21 ?k21 ?a22 ?l22 ?c22 ?k22 ?z_sorted ?z_range ?z_zip ?z_tuple ?z_len ?z_min ?z_all ?z_set ?z_CELL
    (case a0 => k_is)
    (case l0 => k_is)
    (case c0 => k_is)
    (case k0 => k_is)
    (case a1 => k_is)
    (case l1 => k_is)
    (case c1 => k_is)
    (case k1 => k_is)
    (case a2 => k_is)
    (case l2 => k_is)
    (case c2 => k_is)
    (case k2 => k_is)
    (case a3 => k_is)
    (case l3 => k_is)
    (case c3 => k_is)
    (case k3 => k_is)
    (case a4 => k_is)
    (case l4 => k_is)
    (case c4 => k_is)
    (case k4 => k_is)
    (case a5 => k_is)
    (case l5 => k_is)
    (case c5 => k_is)
    (case k5 => k_is)
    (case a6 => k_is)
    (case l6 => k_is)
    (case c6 => k_is)
    (case k6 => k_is)
    (case a7 => k_is)
    (case l7 => k_is)
    (case c7 => k_is)
    (case k7 => k_is)
    (case a8 => k_is)
    (case l8 => k_is)
    (case c8 => k_is)
    (case k8 => k_is)
    (case a9 => k_is)
    (case l9 => k_is)
    (case c9 => k_is)
    (case k9 => k_is)
    (case a10 => k_is)
    (case l10 => k_is)
    (case c10 => k_is)
    (case k10 => k_is)
    (case a11 => k_is)
    (case l11 => k_is)
    (case c11 => k_is)
    (case k11 => k_is)
    (case a12 => k_is)
    (case l12 => k_is)
    (case c12 => k_is)
    (case k12 => k_is)
    (case a13 => k_is)
    (case l13 => k_is)
    (case c13 => k_is)
    (case k13 => k_is)
    (case a14 => k_is)
    (case l14 => k_is)
    (case c14 => k_is)
    (case k14 => k_is)
    (case a15 => k_is)
    (case l15 => k_is)
    (case c15 => k_is)
    (case k15 => k_is)
    (case a16 => k_is)
    (case l16 => k_is)
    (case c16 => k_is)
    (case k16 => k_is)
    (case a17 => k_is)
    (case l17 => k_is)
    (case c17 => k_is)
    (case k17 => k_is)
    (case a18 => k_is)
    (case l18 => k_is)
    (case c18 => k_is)
    (case k18 => k_is)
    (case lcb => k_is)
    (case vT => rfl)
    (case nT => rfl)
    (case hcdb => rfl)
    (case htb => exact PySem.W.km_tabs_of Y _ (List.mem_singleton.mpr rfl))
    (case a19 => k_is)
    (case l19 => k_is)
    (case c19 => k_is)
    (case k19 => k_is)
    (case a20 => k_is)
    (case l20 => k_is)
    (case c20 => k_is)
    (case k20 => k_is)
    (case a21 => k_is)
    (case l21 => k_is)
    (case c21 => k_is)
    (case k21 => k_is)
    (case a22 => k_is)
    (case l22 => k_is)
    (case c22 => k_is)
    (case k22 => k_is)
    (case z_sorted => k_is)
    (case z_range => k_is)
    (case z_zip => k_is)
    (case z_tuple => k_is)
    (case z_len => k_is)
    (case z_min => k_is)
    (case z_all => k_is)
    (case z_set => k_is)
    (case z_CELL => k_is)

