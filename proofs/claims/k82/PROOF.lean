import PyProof.Rows.All
import Wide.All
import OpenK.AllK
import Wide.FinOn
import HandS.ForMost
import HandS.WideBits
import HandS.Conv
import HandS.IsInst
import HandS.Style
import HandS.Flow
import HandS.TupAny
import HandS.NoneIn
import HandS.Iter
import HandS.Walk
import HandS.TupMul
import KE.KStateDown
import HandS.Head0
import HandS.Head1
import HandS.Head2
import KE.KDictDisplayH
import Open.Refutes
import HandS.HeadHook1
import HandS.HeadHook2
import HandS.More
import HandS.Zip
import KE.KDictZip
import KE.KItemsList
import HandS.ListItems
import PySem.Challenge.RW_giftstreams_k82_what_is_a_plan
set_option Elab.async false
set_option linter.all false
set_option maxRecDepth 100000
set_option maxHeartbeats 4000000
/-! What the laws over rules and plans have in common: things (numbers, texts, tuples of such), pots, rooms, defs called by name. -/
namespace Lb
open PySem PySem.Spec PyProof.Rows L2
/-! ### defs of the module -/
structure GD (P : Program) (w : World) (K : PySem.W.Frag) (mg : Str → Option Value) (base : Heap) (CX : CXT) (x : Str) (ps : List Str) (k : Nat) (sp : Sp) : Prop where
  ex : ∃ f fd, FnOk P w K mg base CX k f fd ps sp ∧ mg x = some (.ref f) ∧ PySem.W.keepIn K (.ref f) = true ∧ Binds K fd ps []
section
variable {X : Cx} {CX : CXT} {x : Str} {ps : List Str} {k : Nat} {sp : Sp} {E : XK} {q pos : Pos} {e : Expr} {es : List Expr} {t : TA}
theorem pe_gd (D : GD X.prog X.w X.K X.mg X.base CX x ps k sp) (hr : Room k X.A) (hg : Gl X x) (hx : Passes CX X E) (ha : PA X (e :: es) t)
    (hdb : (x == ("__debug__" : Str)) = false := by decide) (he : starEach (e :: es) X.env = (false, eval e X.env) :: starEach es X.env := by rfl)
    (hpl : (backTo pos (starEach es X.env)).any (·.1) = false := by rfl) : PE X (.Call (.Name x q) (e :: es) [] pos) (tCall sp [] E t) := by
  obtain ⟨f, fd, G, hm, hk, b⟩ := D.ex
  exact pe_call G hr hg hm hk b .nil hx ha hdb he hpl
end
/-- all that was tracked but p and r is as it was -/
def But (p r : Addr) (H H' : Hp) : Prop := ∀ b o, H b = some o → b ≠ p → b ≠ r → H' b = some o
theorem But.of {p r : Addr} {H H' : Hp} (s : Same H H') : But p r H H' := fun b o e _ _ => s b o e
theorem But.refl {p r : Addr} {H : Hp} : But p r H H := fun _ _ e _ _ => e
theorem But.trans {p r : Addr} {H H1 H2 : Hp} (a : But p r H H1) (b : But p r H1 H2) : But p r H H2 := fun c o e n m => b c o (a c o e n m) n m
theorem But.upd {p r : Addr} {H H' : Hp} {o : HO} (a : But p r H H') : But p r H (L2.upd H' p o) := fun c u e n m => by
  rw [upd_ne n]
  exact a c u e n m
theorem But.updR {p r : Addr} {H H' : Hp} {o : HO} (a : But p r H H') : But p r H (L2.upd H' r o) := fun c u e n m => by
  rw [upd_ne m]
  exact a c u e n m
theorem Same.new {H : Hp} {p : Addr} {o : HO} (n : H p = none) : Same H (L2.upd H p o) := fun b u e => by
  rw [upd_ne (ne_of_none e n)]
  exact e
theorem But.one {p r : Addr} {H H' : Hp} (a : But p p H H') : But p r H H' := fun b o e n _ => a b o e n n
/-- a pot: two numbers, the first not below 0 -/
def Pot (H : Hp) (p : Addr) : Prop := ∃ x y : Int, H p = some (.lst [.int x, .int y]) ∧ 0 ≤ x
theorem Pot.same {H H' : Hp} {p : Addr} (s : Same H H') : Pot H p → Pot H' p
  | ⟨x, y, h, h0⟩ => ⟨x, y, s _ _ h, h0⟩
theorem at_ofN {xs : List Nat} {z : Int} {v : Nat} (h0 : 0 ≤ z) (h : xs[z.toNat]? = some v) : atI xs z = some v := by
  have e : z = (z.toNat : Int) := by omega
  rw [e]
  exact atI_nat (by simpa using h)

/-! ### things -/
inductive D where
  | non
  | bl (b : Bool)
  | int (i : Int)
  | str (s : Str)
  | emp
  | tup (xs : List D)
mutual
/-- v is this thing -/
def Rep (H : Hp) : V → D → Prop
  | v, .non => v = .non
  | v, .bl b => v = .bl b
  | v, .int i => v = .int i
  | v, .str s => v = .str s
  | v, .emp => ∃ p, v = .ref p ∧ H p = some (.lst [])
  | v, .tup ds => ∃ p vs, v = .ref p ∧ H p = some (.tup vs) ∧ RepL H vs ds
def RepL (H : Hp) : List V → List D → Prop
  | vs, [] => vs = []
  | vs, d :: ds => ∃ v r, vs = v :: r ∧ Rep H v d ∧ RepL H r ds
end
/-- what things are made of stays -/
def Keeps (H H' : Hp) : Prop := (∀ b vs, H b = some (.tup vs) → H' b = some (.tup vs)) ∧ ∀ b, H b = some (.lst []) → H' b = some (.lst [])
theorem Keeps.of {H H' : Hp} (s : Same H H') : Keeps H H' := ⟨fun _ _ e => s _ _ e, fun _ e => s _ _ e⟩
theorem Keeps.trans {H H1 H2 : Hp} (a : Keeps H H1) (b : Keeps H1 H2) : Keeps H H2 := ⟨fun _ _ e => b.1 _ _ (a.1 _ _ e), fun _ e => b.2 _ (a.2 _ e)⟩
mutual
theorem Rep.keep {H H' : Hp} (k : Keeps H H') : ∀ {v : V} (d : D), Rep H v d → Rep H' v d
  | v, .non, h => by simpa only [Rep] using h
  | v, .bl b, h => by simpa only [Rep] using h
  | v, .int i, h => by simpa only [Rep] using h
  | v, .str s, h => by simpa only [Rep] using h
  | v, .emp, h => by
    simp only [Rep] at h ⊢
    obtain ⟨p, rfl, h⟩ := h
    exact ⟨p, rfl, k.2 _ h⟩
  | v, .tup ds, h => by
    simp only [Rep] at h ⊢
    obtain ⟨p, vs, rfl, h, r⟩ := h
    exact ⟨p, vs, rfl, k.1 _ _ h, RepL.keep k ds r⟩
theorem RepL.keep {H H' : Hp} (k : Keeps H H') : ∀ {vs : List V} (ds : List D), RepL H vs ds → RepL H' vs ds
  | vs, [], h => by simpa only [RepL] using h
  | vs, d :: ds, h => by
    simp only [RepL] at h ⊢
    obtain ⟨v, r, rfl, h1, h2⟩ := h
    exact ⟨v, r, rfl, Rep.keep k d h1, RepL.keep k ds h2⟩
end
theorem RepL.nil {H : Hp} : RepL H [] [] := by simp only [RepL]
theorem RepL.cons {H : Hp} {v : V} {d : D} {vs : List V} {ds : List D} (a : Rep H v d) (b : RepL H vs ds) : RepL H (v :: vs) (d :: ds) := by
  simp only [RepL]
  exact ⟨v, vs, rfl, a, b⟩
theorem RepL.length {H : Hp} : ∀ {vs : List V} {ds : List D}, RepL H vs ds → vs.length = ds.length
  | vs, [], h => by
    simp only [RepL] at h
    rw [h]
    rfl
  | vs, d :: ds, h => by
    simp only [RepL] at h
    obtain ⟨v, r, rfl, _, h2⟩ := h
    rw [List.length_cons, List.length_cons, RepL.length h2]
theorem RepL.at_ {H : Hp} : ∀ {vs : List V} {ds : List D} {i : Nat} {d : D}, RepL H vs ds → ds[i]? = some d → ∃ v, vs[i]? = some v ∧ Rep H v d
  | vs, [], i, d, h, e => by simp at e
  | vs, c :: ds, 0, d, h, e => by
    simp only [RepL] at h
    obtain ⟨v, r, rfl, h1, _⟩ := h
    simp at e
    subst e
    exact ⟨v, rfl, h1⟩
  | vs, c :: ds, i + 1, d, h, e => by
    simp only [RepL] at h
    obtain ⟨v, r, rfl, _, h2⟩ := h
    obtain ⟨u, q1, q2⟩ := RepL.at_ (i := i) h2 (by simpa using e)
    exact ⟨u, by simpa using q1, q2⟩
theorem RepL.app {H : Hp} {us : List V} {bs : List D} (b : RepL H us bs) : ∀ {vs : List V} {ds : List D}, RepL H vs ds → RepL H (vs ++ us) (ds ++ bs)
  | vs, [], h => by
    simp only [RepL] at h
    subst h
    exact b
  | vs, d :: ds, h => by
    simp only [RepL] at h
    obtain ⟨v, r, rfl, h1, h2⟩ := h
    exact RepL.cons h1 (RepL.app b h2)
theorem RepL.take {H : Hp} : ∀ {vs : List V} {ds : List D} (n : Nat), RepL H vs ds → RepL H (vs.take n) (ds.take n)
  | vs, ds, 0, _ => by
    rw [List.take_zero, List.take_zero]
    exact .nil
  | vs, [], n + 1, h => by
    simp only [RepL] at h
    subst h
    exact .nil
  | vs, d :: ds, n + 1, h => by
    simp only [RepL] at h
    obtain ⟨v, r, rfl, h1, h2⟩ := h
    exact RepL.cons h1 (RepL.take n h2)
theorem RepL.drop {H : Hp} : ∀ {vs : List V} {ds : List D} (n : Nat), RepL H vs ds → RepL H (vs.drop n) (ds.drop n)
  | vs, ds, 0, h => h
  | vs, [], n + 1, h => by
    simp only [RepL] at h
    subst h
    exact .nil
  | vs, d :: ds, n + 1, h => by
    simp only [RepL] at h
    obtain ⟨v, r, rfl, h1, h2⟩ := h
    exact RepL.drop n h2
theorem Rep.tupI {H : Hp} {p : Addr} {vs : List V} {ds : List D} (h : H p = some (.tup vs)) (r : RepL H vs ds) : Rep H (.ref p) (.tup ds) := by
  simp only [Rep]
  exact ⟨p, vs, rfl, h, r⟩
theorem Rep.tupE {H : Hp} {v : V} {ds : List D} (h : Rep H v (.tup ds)) : ∃ p vs, v = .ref p ∧ H p = some (.tup vs) ∧ RepL H vs ds := by
  simpa only [Rep] using h
theorem Rep.intI {H : Hp} {i : Int} : Rep H (.int i) (.int i) := by simp only [Rep]
theorem Rep.strI {H : Hp} {s : Str} : Rep H (.str s) (.str s) := by simp only [Rep]
theorem Rep.blI {H : Hp} {b : Bool} : Rep H (.bl b) (.bl b) := by simp only [Rep]
theorem Rep.nonI {H : Hp} : Rep H .non .non := by simp only [Rep]
/-- tuples stay -/
def KeepT (H H' : Hp) : Prop := ∀ b vs, H b = some (.tup vs) → H' b = some (.tup vs)
theorem KeepT.of {H H' : Hp} (s : Same H H') : KeepT H H' := fun _ _ e => s _ _ e
theorem KeepT.trans {H H1 H2 : Hp} (a : KeepT H H1) (b : KeepT H1 H2) : KeepT H H2 := fun _ _ e => b _ _ (a _ _ e)
theorem KeepT.upd {H H' : Hp} {q : Addr} {xs : List V} {o : HO} (k : KeepT H H') (e : H' q = some (.lst xs)) : KeepT H (L2.upd H' q o) := fun b vs h => by
  have n : b ≠ q := fun z => by
    have h2 := k _ _ h
    rw [z, e] at h2
    cases h2
  rw [upd_ne n]
  exact k _ _ h
mutual
/-- no list in it -/
def D.pure : D → Prop
  | .emp => False
  | .tup ds => pureL ds
  | _ => True
def pureL : List D → Prop
  | [] => True
  | d :: ds => d.pure ∧ pureL ds
end
mutual
theorem Rep.keepT {H H' : Hp} (k : KeepT H H') : ∀ {v : V} (d : D), d.pure → Rep H v d → Rep H' v d
  | v, .non, _, h => by simpa only [Rep] using h
  | v, .bl b, _, h => by simpa only [Rep] using h
  | v, .int i, _, h => by simpa only [Rep] using h
  | v, .str s, _, h => by simpa only [Rep] using h
  | v, .emp, q, h => by
    simp only [D.pure] at q
  | v, .tup ds, q, h => by
    simp only [Rep] at h ⊢
    simp only [D.pure] at q
    obtain ⟨p, vs, rfl, h, r⟩ := h
    exact ⟨p, vs, rfl, k _ _ h, RepL.keepT k ds q r⟩
theorem RepL.keepT {H H' : Hp} (k : KeepT H H') : ∀ {vs : List V} (ds : List D), pureL ds → RepL H vs ds → RepL H' vs ds
  | vs, [], _, h => by simpa only [RepL] using h
  | vs, d :: ds, q, h => by
    simp only [RepL] at h ⊢
    simp only [pureL] at q
    obtain ⟨v, r, rfl, h1, h2⟩ := h
    exact ⟨v, r, rfl, Rep.keepT k d q.1 h1, RepL.keepT k ds q.2 h2⟩
end
/-- a new tuple of things -/
theorem Rep.new {H : Hp} {t : Addr} {vs : List V} {ds : List D} (n : H t = none) (r : RepL H vs ds) : Rep (L2.upd H t (.tup vs)) (.ref t) (.tup ds) :=
  Rep.tupI upd_same (RepL.keep (Keeps.of (Same.new n)) ds r)
theorem RepL.one {H : Hp} {v : V} {d : D} (a : Rep H v d) : RepL H [v] [d] := .cons a .nil
theorem RepL.two {H : Hp} {v u : V} {d e : D} (a : Rep H v d) (b : Rep H u e) : RepL H [v, u] [d, e] := .cons a (.one b)
theorem RepL.three {H : Hp} {v u x : V} {d e f : D} (a : Rep H v d) (b : Rep H u e) (c : Rep H x f) : RepL H [v, u, x] [d, e, f] := .cons a (.two b c)
end Lb


set_option Elab.async false
set_option linter.all false
set_option maxRecDepth 100000
set_option maxHeartbeats 4000000
/-! Rules, tests and gifts as plain data. -/
namespace Lb
open PySem PySem.Spec PyProof.Rows L2
def BIG : Int := 10 ^ 30
inductive Ch where
  | add (c : Int)
  | times (c : Int)
  | rest (m : Int)
  | one
  | sum
def Ch.d : Ch → D
  | .add c => .tup [.str "add", .int c]
  | .times c => .tup [.str "times", .int c]
  | .rest m => .tup [.str "rest", .int m]
  | .one => .tup [.str "one"]
  | .sum => .tup [.str "sum"]
def Ch.Ok : Ch → Prop
  | .add c => -BIG ≤ c ∧ c ≤ BIG
  | .times c => -BIG ≤ c ∧ c ≤ BIG
  | .rest m => 1 ≤ m ∧ m ≤ BIG
  | _ => True
abbrev ruleD (cs : List Ch) : D := .tup (cs.map Ch.d)
def RuleOk (cs : List Ch) : Prop := cs.length ≤ 3 ∧ ∀ c ∈ cs, c.Ok
inductive Lk where
  | rest (m r : Int)
  | under (c : Int)
  | after (cs : List Ch) (ls : List Lk)
mutual
def Lk.d : Lk → D
  | .rest m r => .tup [.str "rest", .int m, .int r]
  | .under c => .tup [.str "below", .int c]
  | .after cs ls => .tup [.str "after", ruleD cs, .tup (testL ls)]
def testL : List Lk → List D
  | [] => []
  | l :: ls => l.d :: testL ls
end
abbrev testD (ls : List Lk) : D := .tup (testL ls)
mutual
/-- a look, so deep at most -/
def Lk.Ok : Nat → Lk → Prop
  | _, .rest m r => 1 ≤ m ∧ m ≤ 100 ∧ 0 ≤ r ∧ r < m
  | _, .under c => -BIG ≤ c ∧ c ≤ BIG
  | 0, .after _ _ => False
  | n + 1, .after cs ls => RuleOk cs ∧ ls.length ≤ 2 ∧ TestAll n ls
def TestAll : Nat → List Lk → Prop
  | _, [] => True
  | n, l :: ls => Lk.Ok n l ∧ TestAll n ls
end
theorem Ch.pure : ∀ c : Ch, c.d.pure := by
  intro c
  cases c <;> simp only [Ch.d, D.pure, pureL, and_true]
theorem rule_pureL : ∀ cs : List Ch, pureL (cs.map Ch.d)
  | [] => by simp only [List.map_nil, pureL]
  | c :: cs => by
    simp only [List.map_cons, pureL]
    exact ⟨c.pure, rule_pureL cs⟩
theorem rule_pure (cs : List Ch) : (ruleD cs).pure := by
  simp only [D.pure]
  exact rule_pureL cs
mutual
theorem Lk.pure : ∀ l : Lk, l.d.pure
  | .rest m r => by simp only [Lk.d, D.pure, pureL, and_true]
  | .under c => by simp only [Lk.d, D.pure, pureL, and_true]
  | .after cs ls => by
    simp only [Lk.d, D.pure, pureL, and_true, true_and]
    exact ⟨rule_pureL cs, test_pureL ls⟩
theorem test_pureL : ∀ ls : List Lk, pureL (testL ls)
  | [] => by simp only [testL, pureL]
  | l :: ls => by
    simp only [testL, pureL]
    exact ⟨Lk.pure l, test_pureL ls⟩
end
theorem testL_length : ∀ ls : List Lk, (testL ls).length = ls.length
  | [] => by
    simp only [testL]
    rfl
  | l :: ls => by simp only [testL, List.length_cons, testL_length ls]
theorem testL_app : ∀ (ls ms : List Lk), testL (ls ++ ms) = testL ls ++ testL ms
  | [], ms => by simp only [testL, List.nil_append]
  | l :: ls, ms => by simp only [testL, List.cons_append, testL_app ls ms]
theorem TestAll.app {n : Nat} : ∀ {ls ms : List Lk}, TestAll n ls → TestAll n ms → TestAll n (ls ++ ms)
  | [], ms, _, b => b
  | l :: ls, ms, a, b => by
    simp only [TestAll, List.cons_append] at a ⊢
    exact ⟨a.1, TestAll.app a.2 b⟩

/-! ### gifts -/
inductive Gf where
  | num (i : Int)
  | tup (gs : List Gf)
mutual
def Gf.d : Gf → D
  | .num i => .int i
  | .tup gs => .tup (giftL gs)
def giftL : List Gf → List D
  | [] => []
  | g :: gs => g.d :: giftL gs
end
mutual
/-- all numbers in it -/
def Gf.nums : Gf → List Int
  | .num i => [i]
  | .tup gs => numsL gs
def numsL : List Gf → List Int
  | [] => []
  | g :: gs => g.nums ++ numsL gs
end
mutual
def Gf.each (f : Int → Int) : Gf → Gf
  | .num i => .num (f i)
  | .tup gs => .tup (eachL f gs)
def eachL (f : Int → Int) : List Gf → List Gf
  | [] => []
  | g :: gs => g.each f :: eachL f gs
end
mutual
/-- made by the law: so deep at most -/
def Gf.Ok : Nat → Gf → Prop
  | _, .num i => -BIG ≤ i ∧ i ≤ BIG
  | 0, .tup _ => False
  | n + 1, .tup gs => gs.length ≤ 3 ∧ GiftAll n gs
def GiftAll : Nat → List Gf → Prop
  | _, [] => True
  | n, g :: gs => Gf.Ok n g ∧ GiftAll n gs
end
mutual
theorem Gf.pure : ∀ g : Gf, g.d.pure
  | .num i => by simp only [Gf.d, D.pure]
  | .tup gs => by
    simp only [Gf.d, D.pure]
    exact gift_pureL gs
theorem gift_pureL : ∀ gs : List Gf, pureL (giftL gs)
  | [] => by simp only [giftL, pureL]
  | g :: gs => by
    simp only [giftL, pureL]
    exact ⟨Gf.pure g, gift_pureL gs⟩
end
theorem giftL_length : ∀ gs : List Gf, (giftL gs).length = gs.length
  | [] => by
    simp only [giftL]
    rfl
  | g :: gs => by simp only [giftL, List.length_cons, giftL_length gs]
theorem eachL_length (f : Int → Int) : ∀ gs : List Gf, (eachL f gs).length = gs.length
  | [] => by simp only [eachL]
  | g :: gs => by simp only [eachL, List.length_cons, eachL_length f gs]
def Ch.on : Ch → Gf → Gf
  | .add c, g => g.each (· + c)
  | .times c, g => g.each (· * c)
  | .rest m, g => g.each (· % m)
  | .one, g => .tup [g]
  | .sum, g => .num g.nums.sum
def made : List Ch → Gf → Gf
  | [], g => g
  | c :: cs, g => made cs (c.on g)
mutual
def Lk.holds : Lk → Gf → Bool
  | .rest m r, g => decide (g.nums.sum % m = r)
  | .under c, g => decide (g.nums.sum < c)
  | .after cs ls, g => holdsL ls (made cs g)
def holdsL : List Lk → Gf → Bool
  | [], _ => true
  | l :: ls, g => l.holds g && holdsL ls g
end

/-! ### how deep, how great -/
mutual
/-- so deep at most, and at most three wide -/
def Gf.Dep : Nat → Gf → Prop
  | _, .num _ => True
  | 0, .tup _ => False
  | n + 1, .tup gs => gs.length ≤ 3 ∧ DepAll n gs
def DepAll : Nat → List Gf → Prop
  | _, [] => True
  | n, g :: gs => Gf.Dep n g ∧ DepAll n gs
end
theorem DepAll.at_ {n : Nat} : ∀ {gs : List Gf} {i : Nat} {g : Gf}, DepAll n gs → gs[i]? = some g → g.Dep n
  | [], i, g, _, e => by simp at e
  | c :: gs, 0, g, h, e => by
    simp only [DepAll] at h
    simp at e
    rw [← e]
    exact h.1
  | c :: gs, i + 1, g, h, e => by
    simp only [DepAll] at h
    exact DepAll.at_ h.2 (by simpa using e)
theorem numsL_app : ∀ (gs hs : List Gf), numsL (gs ++ hs) = numsL gs ++ numsL hs
  | [], hs => by simp only [numsL, List.nil_append]
  | g :: gs, hs => by simp only [numsL, List.cons_append, numsL_app gs hs, List.append_assoc]
theorem numsL_one (g : Gf) : numsL [g] = g.nums := by simp only [numsL, List.append_nil]
theorem numsL_take {gs : List Gf} {i : Nat} {g : Gf} (e : gs[i]? = some g) : numsL (gs.take (i + 1)) = numsL (gs.take i) ++ g.nums := by
  rw [List.take_add_one, e, numsL_app]
  exact congrArg _ (numsL_one g)
theorem numsL_le {gs : List Gf} (i : Nat) : (numsL (gs.take i)).length ≤ (numsL gs).length := by
  have e : numsL gs = numsL (gs.take i) ++ numsL (gs.drop i) := by rw [← numsL_app, List.take_append_drop]
  rw [e, List.length_append]
  omega
theorem giftL_at : ∀ {gs : List Gf} {i : Nat} {d : D}, (giftL gs)[i]? = some d → ∃ g, gs[i]? = some g ∧ d = g.d
  | [], i, d, e => by simp [giftL] at e
  | c :: gs, 0, d, e => by
    simp only [giftL] at e
    simp at e
    exact ⟨c, rfl, e.symm⟩
  | c :: gs, i + 1, d, e => by
    simp only [giftL] at e
    obtain ⟨g, h1, h2⟩ := giftL_at (gs := gs) (i := i) (by simpa using e)
    exact ⟨g, by simpa using h1, h2⟩
theorem giftL_get {gs : List Gf} {i : Nat} {g : Gf} (e : gs[i]? = some g) : (giftL gs)[i]? = some g.d := by
  have l : i < gs.length := (List.getElem?_eq_some_iff.mp e).1
  have l2 : i < (giftL gs).length := by
    rw [giftL_length]
    exact l
  obtain ⟨h, h1, h2⟩ := giftL_at (gs := gs) (i := i) (List.getElem?_eq_getElem l2)
  rw [e] at h1
  cases h1
  rw [List.getElem?_eq_getElem l2, h2]
mutual
theorem Gf.nums_each (f : Int → Int) : ∀ g : Gf, (g.each f).nums = g.nums.map f
  | .num i => by simp only [Gf.each, Gf.nums, List.map_cons, List.map_nil]
  | .tup gs => by
    simp only [Gf.each, Gf.nums]
    exact numsL_each f gs
theorem numsL_each (f : Int → Int) : ∀ gs : List Gf, numsL (eachL f gs) = (numsL gs).map f
  | [] => by simp only [eachL, numsL, List.map_nil]
  | g :: gs => by simp only [eachL, numsL, List.map_append, Gf.nums_each f g, numsL_each f gs]
end
mutual
theorem Gf.Dep.each (f : Int → Int) : ∀ {n : Nat} (g : Gf), g.Dep n → (g.each f).Dep n
  | n, .num i, _ => by cases n <;> simp only [Gf.each, Gf.Dep]
  | 0, .tup gs, h => by simp only [Gf.Dep] at h
  | n + 1, .tup gs, h => by
    simp only [Gf.Dep] at h
    simp only [Gf.each, Gf.Dep, eachL_length]
    exact ⟨h.1, DepAll.each f gs h.2⟩
theorem DepAll.each (f : Int → Int) : ∀ {n : Nat} (gs : List Gf), DepAll n gs → DepAll n (eachL f gs)
  | n, [], _ => by simp only [eachL, DepAll]
  | n, g :: gs, h => by
    simp only [DepAll] at h
    simp only [eachL, DepAll]
    exact ⟨Gf.Dep.each f g h.1, DepAll.each f gs h.2⟩
end
mutual
theorem Gf.Dep.up : ∀ {n : Nat} (g : Gf), g.Dep n → g.Dep (n + 1)
  | n, .num i, _ => by simp only [Gf.Dep]
  | 0, .tup gs, h => by simp only [Gf.Dep] at h
  | n + 1, .tup gs, h => by
    simp only [Gf.Dep] at h ⊢
    exact ⟨h.1, DepAll.up gs h.2⟩
theorem DepAll.up : ∀ {n : Nat} (gs : List Gf), DepAll n gs → DepAll (n + 1) gs
  | n, [], _ => by simp only [DepAll]
  | n, g :: gs, h => by
    simp only [DepAll] at h ⊢
    exact ⟨Gf.Dep.up g h.1, DepAll.up gs h.2⟩
end
/-- so great at most: bits, depth -/
structure Gf.Fit (b n : Nat) (g : Gf) : Prop where
  dep : g.Dep n
  len : g.nums.length ≤ 100
  big : ∀ i ∈ g.nums, i.natAbs < 2 ^ b

/-! ### changes by number -/
def Ch.word : Ch → Str
  | .add _ => "add"
  | .times _ => "times"
  | .rest _ => "rest"
  | .one => "one"
  | .sum => "sum"
def Ch.arg : Ch → Int
  | .add c => c
  | .times c => c
  | .rest m => m
  | _ => 0
def Ch.fn : Ch → Int → Int
  | .add c => (· + c)
  | .times c => (· * c)
  | .rest m => (· % m)
  | _ => id
def Ch.byNum : Ch → Prop
  | .one => False
  | .sum => False
  | _ => True
theorem BIG_bits {c : Int} (h : -BIG ≤ c) (h2 : c ≤ BIG) : c.natAbs < 2 ^ 100 := by
  unfold BIG at h h2
  omega
theorem Gf.Fit.sub {b n : Nat} {gs : List Gf} {i : Nat} {g : Gf} (f : Gf.Fit b (n + 1) (.tup gs)) (e : gs[i]? = some g) : Gf.Fit b n g := by
  have d := f.dep
  simp only [Gf.Dep] at d
  have s : ∀ j ∈ g.nums, j ∈ (Gf.tup gs).nums := by
    intro j hj
    simp only [Gf.nums]
    have e2 : numsL gs = numsL (gs.take (i + 1)) ++ numsL (gs.drop (i + 1)) := by rw [← numsL_app, List.take_append_drop]
    rw [e2, numsL_take e]
    simp [hj]
  refine ⟨d.2.at_ e, ?_, fun j hj => f.big j (s j hj)⟩
  have l := f.len
  simp only [Gf.nums] at l
  have l2 := numsL_le (gs := gs) (i + 1)
  rw [numsL_take e, List.length_append] at l2
  omega
theorem eachL_at {f : Int → Int} : ∀ {gs : List Gf} {i : Nat} {d : D}, (giftL (eachL f gs))[i]? = some d → ∃ g, gs[i]? = some g ∧ d = (g.each f).d
  | [], i, d, e => by simp [eachL, giftL] at e
  | c :: gs, 0, d, e => by
    simp only [eachL, giftL] at e
    simp at e
    exact ⟨c, rfl, e.symm⟩
  | c :: gs, i + 1, d, e => by
    simp only [eachL, giftL] at e
    obtain ⟨g, h1, h2⟩ := eachL_at (gs := gs) (i := i) (by simpa using e)
    exact ⟨g, by simpa using h1, h2⟩
end Lb


set_option Elab.async false
set_option linter.all false
set_option maxRecDepth 100000
set_option maxHeartbeats 4000000
/-! Things as the library's data; how great what a rule makes may be. -/
namespace Lb
open PySem PySem.Spec PyProof.Rows L2
mutual
def D.py : D → PyData
  | .non => .none
  | .bl b => .bool b
  | .int i => .int i
  | .str s => .str s
  | .emp => .list []
  | .tup ds => .tuple (pyL ds)
def pyL : List D → List PyData
  | [] => []
  | d :: ds => d.py :: pyL ds
end
mutual
theorem Rep.dp {K : PySem.W.Frag} {H : Hp} : ∀ {v : V} (d : D), Rep H v d → Dp K H v d.py
  | v, .non, h => by
    simp only [Rep] at h
    subst h
    exact .non
  | v, .bl b, h => by
    simp only [Rep] at h
    subst h
    exact .bl b
  | v, .int i, h => by
    simp only [Rep] at h
    subst h
    exact .int i
  | v, .str s, h => by
    simp only [Rep] at h
    subst h
    exact .str s
  | v, .emp, h => by
    simp only [Rep] at h
    obtain ⟨p, rfl, h⟩ := h
    exact .lst (SqL.of h) .nil
  | v, .tup ds, h => by
    obtain ⟨p, vs, rfl, h, r⟩ := h.tupE
    exact .tup (SqT.of h) (RepL.dp ds r)
theorem RepL.dp {K : PySem.W.Frag} {H : Hp} : ∀ {vs : List V} (ds : List D), RepL H vs ds → DpAll K H vs (pyL ds)
  | vs, [], h => by
    simp only [RepL] at h
    subst h
    exact .nil
  | vs, d :: ds, h => by
    simp only [RepL] at h
    obtain ⟨v, r, rfl, h1, h2⟩ := h
    exact .cons (Rep.dp d h1) (RepL.dp ds h2)
end
theorem made_app : ∀ (xs ys : List Ch) (g : Gf), made (xs ++ ys) g = made ys (made xs g)
  | [], ys, g => by simp only [List.nil_append, made]
  | x :: xs, ys, g => by simp only [List.cons_append, made, made_app xs ys]
theorem made_take {cs : List Ch} {i : Nat} {c : Ch} (e : cs[i]? = some c) (g : Gf) : made (cs.take (i + 1)) g = c.on (made (cs.take i) g) := by
  rw [List.take_add_one, e, made_app]
  rfl
theorem Gf.Dep.le {n m : Nat} {g : Gf} (h : g.Dep n) (l : n ≤ m) : g.Dep m := by
  obtain ⟨k, rfl⟩ := Nat.le.dest l
  induction k with
  | zero => exact h
  | succ k ih => exact Gf.Dep.up g (ih (by omega))
theorem Gf.Fit.le {b b' n m : Nat} {g : Gf} (f : g.Fit b n) (h : b ≤ b') (l : n ≤ m) : g.Fit b' m :=
  ⟨f.dep.le l, f.len, fun i hi => Nat.lt_of_lt_of_le (f.big i hi) (Nat.pow_le_pow_right (by decide) h)⟩
theorem sum_abs {b : Nat} : ∀ {ns : List Int}, (∀ i ∈ ns, i.natAbs < 2 ^ b) → ns.sum.natAbs ≤ ns.length * 2 ^ b
  | [], _ => by simp
  | n :: ns, h => by
    have h1 := h n (.head _)
    have h2 := sum_abs (ns := ns) fun i hi => h i (.tail _ hi)
    rw [List.sum_cons, List.length_cons, Nat.succ_mul]
    have := Int.natAbs_add_le n ns.sum
    omega
theorem Ch.Ok.bits : ∀ {c : Ch}, c.Ok → c.arg.natAbs < 2 ^ 100
  | .add k, h => BIG_bits h.1 h.2
  | .times k, h => BIG_bits h.1 h.2
  | .rest k, h => BIG_bits (by have := h.1; unfold BIG; show _ ≤ k; omega) h.2
  | .one, _ => by decide
  | .sum, _ => by decide
theorem Ch.fit {c : Ch} (ok : c.Ok) {b n : Nat} (hb : 100 ≤ b) {g : Gf} (f : g.Fit b n) : (c.on g).Fit (b + 101) (n + 1) := by
  have up : ∀ {x : Nat}, x ≤ b + 101 → (2 : Nat) ^ x ≤ 2 ^ (b + 101) := fun h => Nat.pow_le_pow_right (by decide) h
  have P : (2 : Nat) ^ 100 ≤ 2 ^ b := Nat.pow_le_pow_right (by decide) hb
  have each : ∀ fn : Int → Int, (∀ i : Int, i.natAbs < 2 ^ b → (fn i).natAbs < 2 ^ (b + 101)) → (g.each fn).Fit (b + 101) (n + 1) := by
    intro fn h
    refine ⟨(Gf.Dep.each fn g f.dep).le (by omega), by rw [Gf.nums_each, List.length_map]; exact f.len, fun i hi => ?_⟩
    rw [Gf.nums_each] at hi
    obtain ⟨j, hj, rfl⟩ := List.mem_map.mp hi
    exact h j (f.big j hj)
  have bt := Ch.Ok.bits ok
  cases c with
  | add k =>
    refine each _ fun i hi => ?_
    have h1 : (i + k).natAbs ≤ i.natAbs + k.natAbs := Int.natAbs_add_le i k
    have h2 : k.natAbs < 2 ^ 100 := bt
    have h3 : (2 : Nat) ^ b + 2 ^ b ≤ 2 ^ (b + 101) := by
      have : (2 : Nat) ^ b + 2 ^ b = 2 ^ (b + 1) := by rw [Nat.pow_succ]; omega
      rw [this]
      exact up (by omega)
    show (i + k).natAbs < _
    omega
  | times k =>
    refine each _ fun i hi => ?_
    show (i * k).natAbs < _
    rw [Int.natAbs_mul]
    have h2 : k.natAbs < 2 ^ 100 := bt
    have h3 : i.natAbs * k.natAbs < 2 ^ b * 2 ^ 100 := Nat.mul_lt_mul'' hi h2
    rw [← Nat.pow_add] at h3
    exact Nat.lt_of_lt_of_le h3 (up (by omega))
  | rest k =>
    refine each _ fun i hi => ?_
    show (i % k).natAbs < _
    have k0 := ok.1
    have h1 := Int.emod_nonneg i (show k ≠ 0 by omega)
    have h2 := Int.emod_lt_of_pos i (show 0 < k by omega)
    have h3 : k.natAbs < 2 ^ 100 := bt
    have h4 : (2 : Nat) ^ 100 ≤ 2 ^ (b + 101) := up (by omega)
    omega
  | one =>
    refine ⟨?_, ?_, ?_⟩
    · simp only [Ch.on, Gf.Dep, DepAll, List.length_cons, List.length_nil]
      exact ⟨by omega, f.dep, trivial⟩
    · simp only [Ch.on, Gf.nums, numsL, List.append_nil]
      exact f.len
    · simp only [Ch.on, Gf.nums, numsL, List.append_nil]
      exact fun i hi => Nat.lt_of_lt_of_le (f.big i hi) (up (by omega))
  | sum =>
    refine ⟨?_, ?_, ?_⟩
    · cases n <;> simp only [Ch.on, Gf.Dep]
    · simp only [Ch.on, Gf.nums, List.length_cons, List.length_nil]
      omega
    · simp only [Ch.on, Gf.nums]
      intro i hi
      rw [List.mem_singleton.mp hi]
      have h1 := sum_abs f.big
      have h2 : g.nums.length * 2 ^ b ≤ 100 * 2 ^ b := Nat.mul_le_mul_right _ f.len
      have h3 : 100 * (2 : Nat) ^ b < 2 ^ 7 * 2 ^ b := Nat.mul_lt_mul_of_pos_right (by decide) (Nat.two_pow_pos b)
      rw [← Nat.pow_add] at h3
      have h4 : (2 : Nat) ^ (7 + b) ≤ 2 ^ (b + 101) := up (by omega)
      omega
theorem made_fit {b n : Nat} (hb : 100 ≤ b) : ∀ {cs : List Ch} {g : Gf}, (∀ c ∈ cs, c.Ok) → g.Fit b n → (made cs g).Fit (b + 101 * cs.length) (n + cs.length)
  | [], g, _, f => by
    simp only [made, List.length_nil]
    exact f.le (by omega) (by omega)
  | c :: cs, g, h, f => by
    simp only [made, List.length_cons]
    have f1 := Ch.fit (h c (.head _)) hb f
    have f2 := made_fit (b := b + 101) (n := n + 1) (by omega) (cs := cs) (fun x hx => h x (.tail _ hx)) f1
    exact f2.le (by omega) (by omega)
end Lb


set_option Elab.async false
set_option linter.all false
set_option maxRecDepth 100000
set_option maxHeartbeats 4000000
/-! Which things are rules, which are tests. -/
namespace Lb
open PySem PySem.Spec PyProof.Rows L2
def D.whole : D → Bool
  | .int _ => true
  | _ => false
def chOk : D → Bool
  | .tup [.str z] => decide (z = "one") || decide (z = "sum")
  | .tup [.str z, .int i] => decide (z = "add") || decide (z = "times") || (decide (z = "rest") && decide (1 ≤ i))
  | _ => false
def isRuleB : D → Bool
  | .tup ds => ds.all chOk
  | _ => false
def rangeOk : D → D → Bool
  | .int m, .int r => decide (0 ≤ r) && decide (r < m)
  | _, _ => false
/-- a look's inside, f telling what a test is -/
def lk (f : D → Bool) : List D → Bool
  | [.str z, .int _] => decide (z = "below")
  | [.str z, a, b] => if z = "after" then isRuleB a && f b else decide (z = "rest") && rangeOk a b
  | _ => false
def lkOk (f : D → Bool) : D → Bool
  | .tup ds => lk f ds
  | _ => false
/-- whether it is a test, looked at so deep -/
def testN : Nat → D → Bool
  | n + 1, .tup ds => ds.all (lkOk (testN n))
  | _, _ => false
section
variable {f : D → Bool}
theorem lkL_nil : lk f [] = false := rfl
theorem lkL_one (a : D) : lk f [a] = false := by cases a <;> rfl
theorem lkL_two (z : Str) (k : Int) : lk f [.str z, .int k] = decide (z = "below") := rfl
theorem lkL_two_a {a b : D} (h : ∀ z, a ≠ .str z) : lk f [a, b] = false := by
  cases a <;> first | exact absurd rfl (h _) | rfl
theorem lkL_two_b {a b : D} (h : ∀ z, b ≠ .int z) : lk f [a, b] = false := by
  cases a <;> cases b <;> first | exact absurd rfl (h _) | rfl
theorem lkL_three_a {a b c : D} (h : ∀ z, a ≠ .str z) : lk f [a, b, c] = false := by
  cases a <;> first | exact absurd rfl (h _) | rfl
theorem lkL_three {z : Str} {b c : D} : lk f [.str z, b, c] = if z = "after" then isRuleB b && f c else decide (z = "rest") && rangeOk b c := by
  cases b <;> rfl
theorem lkL_after {b c : D} : lk f [.str "after", b, c] = (isRuleB b && f c) := by
  rw [lkL_three, if_pos rfl]
theorem lkL_rest {z : Str} {b c : D} (h : z ≠ "after") : lk f [.str z, b, c] = (decide (z = "rest") && rangeOk b c) := by
  rw [lkL_three, if_neg h]
theorem lkL_four {a b c d : D} {r : List D} : lk f (a :: b :: c :: d :: r) = false := by
  cases a <;> first | rfl | (cases b <;> rfl)
end
theorem rangeOk_a {b c : D} (h : ∀ z, b ≠ .int z) : rangeOk b c = false := by
  cases b <;> first | exact absurd rfl (h _) | rfl
theorem rangeOk_b {b c : D} (h : ∀ z, c ≠ .int z) : rangeOk b c = false := by
  cases b <;> cases c <;> first | exact absurd rfl (h _) | rfl
theorem noInt {a : D} (h : a.whole = false) : ∀ z, a ≠ .int z := fun z e => by
  subst e
  cases h
mutual
/-- tuples so deep at most -/
def D.Deep : Nat → D → Prop
  | 0, .tup _ => False
  | n + 1, .tup ds => DeepL n ds
  | _, _ => True
def DeepL : Nat → List D → Prop
  | _, [] => True
  | n, d :: ds => D.Deep n d ∧ DeepL n ds
end
end Lb


set_option Elab.async false
set_option linter.all false
set_option maxRecDepth 100000
set_option maxHeartbeats 4000000
namespace K82
open PySem PySem.Spec PyProof.Rows L2 Lb
def top (i : Nat) : Stmt := PySem.Challenge.pw_giftstreams_k82_what_is_a_plan.main.body.getD i (.Pass ⟨0, 0, 0, 0⟩)
abbrev sPot : Stmt := top 17
abbrev sDigit : Stmt := top 18
abbrev sWhole : Stmt := top 19
/-- names of Python's own that the module doesn't give away -/
structure Blt (mg : Str → Option Value) : Prop where
  len : mg "len" = none
  divmod : mg "divmod" = none
  range : mg "range" = none
  isinstance : mg "isinstance" = none
  max : mg "max" = none
  min : mg "min" = none
  sum : mg "sum" = none
  tuple : mg "tuple" = none
  repr : mg "repr" = none
  all : mg "all" = none
  int : mg "int" = none
  bool : mg "bool" = none
  str : mg "str" = none
def spPot (K : PySem.W.Frag) : Sp := fun vs H Q _ => ∃ (a : Addr) (ns : List Int) (k : Int), vs = [.ref a, .int k] ∧ SqL K H a (ns.map V.int) ∧ 0 ≤ k ∧ k ≤ 63 ∧
  ∀ p H', H p = none → Same H H' → Pot H' p → Q (.ref p) H'
def spDigit : Sp := fun vs H Q _ => ∃ (p : Addr) (m : Int), vs = [.ref p, .int m] ∧ Pot H p ∧ 0 < m ∧ m < 2 ^ 128 ∧
  ∀ (d : Int) (H' : Hp), 0 ≤ d → d < m → Pot H' p → But p p H H' → Q (.int d) H'
section
variable {P : Program} {w : World} {K : PySem.W.Frag} {mg : Str → Option Value} {base : Heap}
theorem scPot : FnScope ["_law_script", "_law_k", "_law_cell"] ["_law_script", "_law_k"] (defScope sPot) := ⟨rfl, rfl, rfl, by decide +kernel, rfl, by decide +kernel, by decide +kernel⟩
theorem ok_pot {f : Addr} {fd : FuncData} (F : Fun K "_law_pot" "_law_pot" sPot f fd) (B : Blt mg) : FnOk P w K mg base CX0 1 f fd ["_law_script", "_law_k"] (spPot K) := by
  refine F.ok scPot (fun vs H Q E h => ?_) (fun cdv A outer s H vs Q E hr h => ?_)
  · obtain ⟨a, ns, k, rfl, _⟩ := h
    rfl
  · obtain ⟨a, ns, k, rfl, sq, h0, h63, fin⟩ := h
    refine ⟨_, pss_cons (ps_set (i := 2) scPot.nd rfl (Or.inl rfl) (pe_ifExp (pt_cmpR op_lt (pv 1) (pe_callB call_len_seq (by rfl) B.len boot_len (pa_cons (pv 0) pa_nil)) (nomark _)) (pe_ix ix_list (pv 0) (pv 1) (fun _ _ => rfl)) pe_int))
      (pss_cons (ps_if (pt_cmpR op_ge (pv 2) (pe_op op_pow pe_int pe_int) (nomark _))
        (pss_one (ps_ret (pe_lst (pa_cons (pe_op op_sub (pv 2) (pe_op op_pow pe_int pe_int)) (pa_cons (pe_op op_add (pe_op op_add (pe_op op_mod (pv 2) pe_int) (pe_op op_mul pe_int (pv 1))) pe_int) pa_nil)))))
        pss_nil)
      (pss_one (ps_ret (pe_lst (pa_cons pe_int (pa_cons (pe_op op_add (pe_op op_add (pe_op op_mod (pv 2) pe_int) (pe_op op_mul pe_int (pv 1))) pe_int) pa_nil)))))), ?_⟩
    refine ⟨_, rfl, _, rfl, a, _, rfl, .inl sq, _, _, rfl, rfl, _, rfl, ite2 (fun hk => ?_) (fun hk => ?_)⟩
    · have hk : k < ((ns.map V.int).length : Nat) := of_decide_eq_true hk
      rw [List.length_map] at hk
      obtain ⟨z, hz⟩ : ∃ z, ns[k.toNat]? = some z := ⟨ns[k.toNat]'(by omega), List.getElem?_eq_getElem (by omega)⟩
      refine ⟨_, rfl, _, rfl, a, _, k, .int z, rfl, rfl, sq, at_of (j := k.toNat) (by omega) (by simp [hz]), ?_⟩
      revert z
      intro z _
      refine ⟨_, rfl, _, _, rfl, rfl, ⟨by decide, by decide, by decide⟩, _, _, rfl, rfl, _, rfl, ite2 (fun hz => ?_) (fun hz => ?_)⟩
      · have hz : (10 : Int) ^ (18 : Int).toNat ≤ z := of_decide_eq_true hz
        refine ⟨_, rfl, _, _, rfl, rfl, ⟨by decide, by decide, by decide⟩, _, _, rfl, rfl, _, rfl, _, _, rfl, rfl, (by show (0 : Int) < 2147483629; decide), _, rfl, _, _, rfl, rfl, .inl ⟨by decide, by decide⟩, _, _, rfl, rfl, _, _, rfl, rfl,
          (by show 2 ≤ sizeLine; decide), fun p np => ?_⟩
        exact fin p _ np (Same.new np) ⟨_, _, upd_same, by omega⟩
      · refine ⟨_, rfl, _, _, rfl, rfl, (by show (0 : Int) < 2147483629; decide), _, rfl, _, _, rfl, rfl, .inl ⟨by decide, by decide⟩, _, _, rfl, rfl, _, _, rfl, rfl,
          (by show 2 ≤ sizeLine; decide), fun p np => ?_⟩
        exact fin p _ np (Same.new np) ⟨_, _, upd_same, by decide⟩
    · refine ⟨_, rfl, _, _, rfl, rfl, ⟨by decide, by decide, by decide⟩, _, _, rfl, rfl, _, rfl, ite2 (fun hz => ?_) (fun hz => ?_)⟩
      · have hz : (10 : Int) ^ (18 : Int).toNat ≤ 0 := of_decide_eq_true hz
        exact absurd hz (by decide)
      · refine ⟨_, rfl, _, _, rfl, rfl, (by show (0 : Int) < 2147483629; decide), _, rfl, _, _, rfl, rfl, .inl ⟨by decide, by decide⟩, _, _, rfl, rfl, _, _, rfl, rfl,
          (by show 2 ≤ sizeLine; decide), fun p np => ?_⟩
        exact fin p _ np (Same.new np) ⟨_, _, upd_same, by decide⟩
theorem scDigit : FnScope ["_law_pot_here", "_law_many", "_law_digit_here"] ["_law_pot_here", "_law_many"] (defScope sDigit) := ⟨rfl, rfl, rfl, by decide +kernel, rfl, by decide +kernel, by decide +kernel⟩
theorem divP {i j : Int} (h0 : 0 < j) (h : j < 2 ^ 128) : CDivP i j := by
  refine ⟨h0, ?_⟩
  show (decide ((if j == 0 then 0 else j.natAbs.log2 / 30 + 1) > 300) && _) = false
  have n0 : ¬ (j == 0) = true := by simp; omega
  rw [if_neg n0]
  have l : j.natAbs.log2 < 128 := by
    refine (Nat.log2_lt (by omega)).mpr ?_
    omega
  rw [decide_eq_false (by omega), Bool.false_and]
theorem ok_digit {f : Addr} {fd : FuncData} (F : Fun K "_law_digit" "_law_digit" sDigit f fd) (B : Blt mg) : FnOk P w K mg base CX0 1 f fd ["_law_pot_here", "_law_many"] spDigit := by
  refine F.ok scDigit (fun vs H Q E h => ?_) (fun cdv A outer s H vs Q E hr h => ?_)
  · obtain ⟨p, m, rfl, _⟩ := h
    rfl
  · obtain ⟨p, m, rfl, ⟨x, y, hp, hx⟩, hm, hm2, fin⟩ := h
    refine ⟨_, pss_cons (ps_if (pt_cmpR op_gt (pe_ix ix_list (pv 0) pe_int (fun _ _ => rfl)) pe_int (nomark _))
        (pss_cons (ps_asg (pe_callB call_divmodW (by rfl) B.divmod boot_divmod (pa_cons (pe_ix ix_list (pv 0) pe_int (fun _ _ => rfl)) (pa_cons (pv 1) pa_nil)))
          (pg_tup rfl (pgs_cons (pg_sub (pv 0) pe_int set_list) (pgs_cons (pg_name (i := 2) scDigit.nd rfl (.inl rfl)) pgs_nil))))
          (pss_one (ps_ret (pv 2))))
        pss_nil)
      (pss_cons (ps_asg (pe_op op_mod (pe_op op_add (pe_op op_mul (pe_ix ix_list (pv 0) pe_int (fun _ _ => rfl)) pe_int) pe_int) pe_int) (pg_sub (pv 0) pe_int set_list))
      (pss_one (ps_ret (pe_op op_mod (pe_op op_fdiv (pe_op op_mod (pe_op op_mul (pe_ix ix_list (pv 0) pe_int (fun _ _ => rfl)) (pe_ix ix_list (pv 0) pe_int (fun _ _ => rfl))) pe_int) pe_int) (pv 1))))), ?_⟩
    refine ⟨_, rfl, p, _, _, _, rfl, rfl, SqL.of hp, rfl, _, _, rfl, rfl, _, rfl, ite2 (fun h0 => ?_) (fun h0 => ?_)⟩
    · refine ⟨_, rfl, p, _, _, _, rfl, rfl, SqL.of hp, rfl, _, rfl, _, _, rfl, divP hm hm2, fun t nt => ?_⟩
      have npt : p ≠ t := ne_of_none hp nt
      refine ⟨t, _, rfl, SqT.of upd_same, rfl, _, _, rfl, ⟨_, rfl, p, _, _, 0, rfl, rfl, (by rw [upd_ne npt]; exact hp), rfl, _, _, rfl, rfl, _, rfl, ?_⟩⟩
      refine fin _ _ (Int.emod_nonneg _ (by omega)) (Int.emod_lt_of_pos _ hm) ⟨_, _, upd_same, Int.ediv_nonneg hx (by omega)⟩ ?_
      exact (But.of (Same.new nt)).upd
    · refine ⟨_, rfl, p, _, _, _, rfl, rfl, SqL.of hp, rfl, _, _, rfl, rfl, .inr ⟨by decide, by decide⟩, _, _, rfl, rfl, _, _, rfl, rfl, (by show (0 : Int) < 2147483647; decide), _, rfl, p, _, _, 1, rfl, rfl, hp, rfl, ?_⟩
      have b1 : 0 ≤ (y * 48271 + 12345) % 2147483647 := Int.emod_nonneg _ (by decide)
      have b2 : (y * 48271 + 12345) % 2147483647 < 2147483647 := Int.emod_lt_of_pos _ (by decide)
      refine ⟨_, rfl, p, _, _, _, rfl, rfl, SqL.of upd_same, rfl, _, rfl, p, _, _, _, rfl, rfl, SqL.of upd_same, rfl, _, _, rfl, rfl, .inl ⟨by omega, by omega⟩, _, _, rfl, rfl, (by show (0 : Int) < 2147483629; decide), _, _, rfl, rfl, ⟨by decide, by decide⟩,
        _, rfl, _, _, rfl, rfl, hm, ?_⟩
      exact fin _ _ (Int.emod_nonneg _ (by omega)) (Int.emod_lt_of_pos _ hm) ⟨_, _, upd_same, hx⟩ ((But.of (Same.refl H)).upd)
/-! ### whole numbers -/
def gr : Key := Sum.inr "great"
/-- a room: how many inner parts and how many great numbers may still come, how many rows there are -/
def pk : Key := Sum.inr "parts"
def rk : Key := Sum.inr "rows"
structure RmV where
  parts : Int
  great : Int
  rows : Nat
  ok : rows ≤ 8
abbrev RmV.o (n : RmV) : HO := .dK [(pk, .int n.parts), (gr, .int n.great), (rk, .int n.rows)]
def Rm (H : Hp) (r : Addr) : Prop := ∃ n : RmV, H r = some n.o

def spWhole : Sp := fun vs H Q _ => ∃ (p r : Addr), vs = [.ref p, .ref r] ∧ Pot H p ∧ Rm H r ∧
  ∀ (i : Int) (H' : Hp), -BIG ≤ i → i ≤ BIG → Pot H' p → Rm H' r → But p r H H' → Q (.int i) H'
theorem Pot.ne {H : Hp} {p r : Addr} (a : Pot H p) (b : Rm H r) : p ≠ r := fun e => by
  obtain ⟨x, y, h, _⟩ := a
  obtain ⟨n, h2⟩ := b
  rw [e, h2] at h
  cases h
theorem Rm.same {H H' : Hp} {r : Addr} (s : Same H H') : Rm H r → Rm H' r
  | ⟨n, h⟩ => ⟨n, s _ _ h⟩
theorem Rm.but {H H' : Hp} {p r : Addr} (n : p ≠ r) (b : But p p H H') : Rm H r → Rm H' r
  | ⟨n', h⟩ => ⟨n', b _ _ h n.symm n.symm⟩
abbrev nWhole : List Str := ["_law_pot_here", "_law_room", "_law_great", "_law_turn"]
theorem scWhole : FnScope nWhole ["_law_pot_here", "_law_room"] (defScope sWhole) := ⟨rfl, rfl, rfl, by decide +kernel, rfl, by decide +kernel, by decide +kernel⟩
theorem ok_whole {f : Addr} {fd : FuncData} (F : Fun K "_law_whole" "_law_whole" sWhole f fd) (B : Blt mg)
    (D : GD P w K mg base CX0 "_law_digit" ["_law_pot_here", "_law_many"] 1 spDigit) : FnOk P w K mg base CX0 2 f fd ["_law_pot_here", "_law_room"] spWhole := by
  refine F.ok scWhole (fun vs H Q E h => ?_) (fun cdv A outer s H vs Q E hr h => ?_)
  · obtain ⟨p, r, rfl, _⟩ := h
    rfl
  · obtain ⟨p, r, rfl, hp, hR, fin⟩ := h
    have hu := hu_of hr
    refine ⟨_, pss_cons (ps_if (PW.pt (pw_or (pt_cmpR op_lt (pe_gd D hr rfl pass0 (pa_cons (pv 0) (pa_cons pe_int pa_nil))) pe_int (nomark _)) (pw_or1 (pt_cmpR op_eq (pe_dget hu (pv 1) pe_str (fun _ _ => rfl)) pe_int (nomark _)))))
        (pss_one (ps_ret (pe_op op_sub (pe_gd D hr rfl pass0 (pa_cons (pv 0) (pa_cons pe_int pa_nil))) pe_int))) pss_nil)
      (pss_cons (ps_dput hu (pv 1) pe_str (pe_op op_sub (pe_dget hu (pv 1) pe_str (fun _ _ => rfl)) pe_int) rfl)
      (pss_cons (ps_set (i := 2) scWhole.nd rfl (.inl rfl) pe_int)
      (pss_cons (ps_for PassesOwn.never rfl (pi_range1 rfl B.range (pa_cons pe_int pa_nil)) (pg_name (i := 3) scWhole.nd rfl (.inl rfl))
        (pss_one (ps_set (i := 2) scWhole.nd rfl (.inl rfl) (pe_op op_add (pe_op op_mul (pv 2) (pe_op op_pow pe_int pe_int)) (pe_gd D hr rfl pass0 (pa_cons (pv 0) (pa_cons (pe_op op_pow pe_int pe_int) pa_nil)))))))
      (pss_one (ps_ret (pe_ix ix_list (pe_lst (pa_cons (pv 2) (pa_cons (pe_un un_neg (pv 2)) pa_nil))) (pe_gd D hr rfl pass0 (pa_cons (pv 0) (pa_cons pe_int pa_nil))) (fun _ _ => rfl))))))), ?_⟩
    have npr := Pot.ne hp hR
    refine ⟨_, rfl, p, 8, rfl, hp, by decide, by decide, fun d H1 d0 d1 p1 b1 => ?_⟩
    have R1 := hR.but npr b1
    have small : ∀ (H2 : Hp), Pot H2 p → Rm H2 r → But p r H H2 → tCall spDigit [] E0 (tCons (tVar 0) (tCons (tC (.int 23)) tNil)) (L2.start nWhole [.ref p, .ref r]) H2 fun x H3 => rI0 (fun i j => V.int (i - j)) x (.int 11) H3 Q := by
      intro H2 p2 R2 b2
      refine ⟨_, rfl, p, 23, rfl, p2, by decide, by decide, fun e H3 e0 e1 p3 b3 => ⟨_, _, rfl, rfl, ?_⟩⟩
      exact fin _ _ (by unfold BIG; omega) (by unfold BIG; omega) p3 (Rm.but npr b3 R2) (b2.trans b3.one)
    refine ⟨_, _, rfl, rfl, _, rfl, ite2 (fun h7 => small H1 p1 R1 b1.one) (fun h7 => ?_)⟩
    obtain ⟨n, hn⟩ := R1
    refine ⟨_, rfl, r, .int n.great, rfl, DGet.k (k := gr) hn, rfl, _, rfl, ite2 (fun h0 => small H1 p1 ⟨n, hn⟩ b1.one) (fun h0 => ?_)⟩
    refine ⟨_, rfl, r, .int n.great, rfl, DGet.k (k := gr) hn, _, _, rfl, rfl, _, rfl, r, _, rfl, DPut.k (k := gr) hn (by show 3 < sizeLine; decide), 3, rfl, by decide, by decide,
      for_range (lo := 0) (n := 3) (fun i σ G => ∃ (g : Int) (v : Option V), σ = [some (.ref p), some (.ref r), some (.int g), v] ∧ 0 ≤ g ∧ g < 10000000000 ^ i ∧ Pot G p ∧ Rm G r ∧ But p r H G)
        ⟨_, _, rfl, by decide, by decide, ?_, ⟨⟨n.parts, n.great - 1, n.rows, n.ok⟩, upd_same⟩, b1.one.updR⟩ ?_ ?_⟩
    · obtain ⟨x, y, e, h0⟩ := p1
      exact ⟨x, y, by rw [upd_ne npr]; exact e, h0⟩
    · rintro i σ G hi ⟨g, v, rfl, g0, g1, pg, rg, bg⟩
      refine ⟨_, rfl, _, _, rfl, rfl, ⟨by decide, by decide, by decide⟩, _, _, rfl, rfl, .inr ⟨by decide, by decide⟩, _, rfl, _, _, rfl, rfl, ⟨by decide, by decide, by decide⟩, p, _, rfl, pg, by decide, by decide, fun e G2 e0 e1 p2 b2 => ⟨_, _, rfl, rfl, ?_⟩⟩
      have e1 : e < 10000000000 := e1
      refine ⟨_, _, rfl, ?_, ?_, p2, Rm.but npr b2 rg, bg.trans b2.one⟩
      · show 0 ≤ g * 10000000000 + e
        omega
      · show g * 10000000000 + e < 10000000000 ^ (i + 1)
        rw [Int.pow_succ]
        generalize (10000000000 : Int) ^ i = T at g1 ⊢
        omega
    · rintro σ G ⟨g, v, rfl, g0, g1, pg, rg, bg⟩
      have g1 : g < 10 ^ 30 := by
        have q : (10000000000 : Int) ^ 3 = 10 ^ 30 := by decide
        rw [q] at g1
        exact g1
      refine ⟨_, rfl, _, rfl, _, rfl, (by show 2 ≤ sizeLine; decide), fun l hl => ?_⟩
      have npl : p ≠ l := by
        obtain ⟨x, y, e, _⟩ := pg
        exact ne_of_none e hl
      refine ⟨_, rfl, p, 2, rfl, Pot.same (Same.new hl) pg, by decide, by decide, fun e G2 e0 e1 p2 b2 => ?_⟩
      have nlp : l ≠ p := fun q => npl q.symm
      have hl2 : G2 l = some (.lst [.int g, .int (-g)]) := b2 _ _ upd_same nlp nlp
      have bb : But p r H G2 := (bg.trans (But.of (Same.new hl))).trans b2.one
      have cases2 : e = 0 ∨ e = 1 := by omega
      rcases cases2 with rfl | rfl
      · refine ⟨l, _, 0, _, rfl, rfl, SqL.of hl2, rfl, ?_⟩
        exact fin g G2 (by unfold BIG; omega) (by unfold BIG; omega) p2 (Rm.but npr b2 (Rm.same (Same.new hl) rg)) bb
      · refine ⟨l, _, 1, _, rfl, rfl, SqL.of hl2, rfl, ?_⟩
        exact fin (-g) G2 (by unfold BIG; omega) (by unfold BIG; omega) p2 (Rm.but npr b2 (Rm.same (Same.new hl) rg)) bb
end
end K82


set_option Elab.async false
set_option linter.all false
set_option maxRecDepth 100000
set_option maxHeartbeats 4000000
namespace K82
open PySem PySem.Spec PyProof.Rows L2 Lb
abbrev sChange : Stmt := top 20
abbrev sRule : Stmt := top 21
abbrev nPR : List Str := ["_law_pot_here", "_law_room"]
/-- a def that makes something of a pot and a room -/
def spMake (R : Hp → V → Prop) : Sp := fun vs H Q _ => ∃ (p r : Addr), vs = [.ref p, .ref r] ∧ Pot H p ∧ Rm H r ∧
  ∀ (v : V) (H' : Hp), Pot H' p → Rm H' r → But p r H H' → R H' v → Q v H'
def IsCh (H : Hp) (v : V) : Prop := ∃ c : Ch, c.Ok ∧ Rep H v c.d
def IsRule (H : Hp) (v : V) : Prop := ∃ cs : List Ch, RuleOk cs ∧ Rep H v (ruleD cs)
section
variable {P : Program} {w : World} {K : PySem.W.Frag} {mg : Str → Option Value} {base : Heap}
abbrev nChange : List Str := ["_law_pot_here", "_law_room", "_law_kind"]
theorem scChange : FnScope nChange nPR (defScope sChange) := ⟨rfl, rfl, rfl, by decide +kernel, rfl, by decide +kernel, by decide +kernel⟩
theorem ok_change {f : Addr} {fd : FuncData} (F : Fun K "_law_change" "_law_change" sChange f fd)
    (D : GD P w K mg base CX0 "_law_digit" ["_law_pot_here", "_law_many"] 1 spDigit) (DW : GD P w K mg base CX0 "_law_whole" nPR 2 spWhole) : FnOk P w K mg base CX0 3 f fd nPR (spMake IsCh) := by
  refine F.ok scChange (fun vs H Q E h => ?_) (fun cdv A outer s H vs Q E hr h => ?_)
  · obtain ⟨p, r, rfl, _⟩ := h
    rfl
  · obtain ⟨p, r, rfl, hp, hR, fin⟩ := h
    have hr1 := hr.mono (show 1 ≤ 2 by decide)
    refine ⟨_, pss_cons (ps_set (i := 2) scChange.nd rfl (.inl rfl) (pe_gd D hr1 rfl pass0 (pa_cons (pv 0) (pa_cons pe_int pa_nil))))
      (pss_cons (ps_if (pt_cmpR op_lt (pv 2) pe_int (nomark _))
        (pss_one (ps_ret (pe_tup (pa_cons (pe_ix ix_list (pe_lst (pa_cons pe_str (pa_cons pe_str pa_nil))) (pv 2) (fun _ _ => rfl)) (pa_cons (pe_gd DW hr rfl pass0 (pa_cons (pv 0) (pa_cons (pv 1) pa_nil))) pa_nil))))) pss_nil)
      (pss_cons (ps_if (pt_cmpR op_eq (pv 2) pe_int (nomark _))
        (pss_one (ps_ret (pe_tup (pa_cons pe_str (pa_cons (pe_op op_add pe_int (pe_gd D hr1 rfl pass0 (pa_cons (pv 0) (pa_cons (pe_ix ix_list (pe_lst (pa_cons pe_int (pa_cons (pe_op op_pow pe_int pe_int) pa_nil))) (pe_gd D hr1 rfl pass0 (pa_cons (pv 0) (pa_cons pe_int pa_nil))) (fun _ _ => rfl)) pa_nil)))) pa_nil))))) pss_nil)
      (pss_one (ps_ret (pe_ix ix_list (pe_lst (pa_cons (pe_tup (pa_cons pe_str pa_nil)) (pa_cons (pe_tup (pa_cons pe_str pa_nil)) pa_nil))) (pe_op op_sub (pv 2) pe_int) (fun _ _ => rfl)))))), ?_⟩
    have npr := Pot.ne hp hR
    refine ⟨_, rfl, p, 5, rfl, hp, by decide, by decide, fun k H1 k0 k1 p1 b1 => ?_⟩
    have R1 := Rm.but npr b1 hR
    refine ⟨_, rfl, _, _, rfl, rfl, _, rfl, ite2 (fun h => ?_) (fun h => ?_)⟩
    · have h : k < 2 := of_decide_eq_true h
      refine ⟨(by show 2 ≤ sizeLine; decide), fun l nl => ⟨_, rfl, l, _, _, .str (if k = 0 then "add" else "times"), rfl, rfl, SqL.of upd_same, ?_, ?_⟩⟩
      · have c2 : k = 0 ∨ k = 1 := by omega
        rcases c2 with rfl | rfl <;> rfl
      refine ⟨_, rfl, _, rfl, p, r, rfl, Pot.same (Same.new nl) p1, Rm.same (Same.new nl) R1, fun i H2 i0 i1 p2 r2 b2 => ⟨(by show 2 ≤ sizeLine; decide), fun t nt => ?_⟩⟩
      refine fin _ _ (Pot.same (Same.new nt) p2) (Rm.same (Same.new nt) r2) (((b1.one.trans (But.of (Same.new nl))).trans b2).trans (But.of (Same.new nt))) ?_
      have c2 : k = 0 ∨ k = 1 := by omega
      rcases c2 with rfl | rfl
      · exact ⟨.add i, ⟨i0, i1⟩, Rep.new nt (.two Rep.strI Rep.intI)⟩
      · exact ⟨.times i, ⟨i0, i1⟩, Rep.new nt (.two Rep.strI Rep.intI)⟩
    · have h : ¬ k < 2 := fun q => h (decide_eq_true q)
      refine ⟨_, rfl, rfl, _, rfl, ite2 (fun h2 => ?_) (fun h2 => ?_)⟩
      · refine ⟨_, rfl, _, _, rfl, rfl, ⟨by decide, by decide, by decide⟩, (by show 2 ≤ sizeLine; decide), fun l nl => ?_⟩
        have npl : l ≠ p := fun q => by
          obtain ⟨x, y, e, _⟩ := p1
          rw [q, e] at nl
          cases nl
        refine ⟨_, rfl, p, 2, rfl, Pot.same (Same.new nl) p1, by decide, by decide, fun e H2 e0 e1 p2 b2 => ?_⟩
        have hl2 : H2 l = some (.lst [.int 12, .int (10 ^ (29 : Int).toNat)]) := b2 _ _ upd_same npl npl
        have R2 : Rm H2 r := Rm.but npr b2 (Rm.same (Same.new nl) R1)
        have B2 : But p r H H2 := (b1.one.trans (But.of (Same.new nl))).trans b2.one
        have go : ∀ m : Int, 0 < m → m ≤ 10 ^ 29 → spDigit [.ref p, .int m] H2 (fun x H3 => rI0 (fun i j => V.int (i + j)) (.int 1) x H3 fun z H4 => (2 ≤ sizeLine ∧ ∀ t, H4 t = none → Q (.ref t) (L2.upd H4 t (.tup [.str "rest", z])))) E0 := by
          intro m m0 m1
          refine ⟨p, m, rfl, p2, m0, by omega, fun x H3 x0 x1 p3 b3 => ⟨_, _, rfl, rfl, (by decide), fun t nt => ?_⟩⟩
          refine fin _ _ (Pot.same (Same.new nt) p3) (Rm.same (Same.new nt) (Rm.but npr b3 R2)) ((B2.trans b3.one).trans (But.of (Same.new nt))) ?_
          exact ⟨.rest (1 + x), ⟨by omega, by unfold BIG; omega⟩, Rep.new nt (.two Rep.strI Rep.intI)⟩
        have c2 : e = 0 ∨ e = 1 := by omega
        rcases c2 with rfl | rfl
        · exact ⟨l, _, 0, _, rfl, rfl, SqL.of hl2, rfl, go 12 (by decide) (by decide)⟩
        · exact ⟨l, _, 1, _, rfl, rfl, SqL.of hl2, rfl, go (10 ^ 29) (by decide) (by decide)⟩
      · have h2 : ¬ k = 2 := fun q => h2 (by rw [q]; rfl)
        refine ⟨(by show 1 ≤ sizeLine; decide), fun t nt => ⟨(by show 1 ≤ sizeLine; decide), fun u nu => ⟨(by show 2 ≤ sizeLine; decide), fun l nl => ?_⟩⟩⟩
        have S : Same H1 (L2.upd (L2.upd (L2.upd H1 t (.tup [.str "one"])) u (.tup [.str "sum"])) l (.lst [.ref t, .ref u])) := ((Same.new nt).trans (Same.new nu)).trans (Same.new nl)
        refine ⟨_, rfl, _, _, rfl, rfl, ?_⟩
        have c2 : k = 3 ∨ k = 4 := by omega
        rcases c2 with rfl | rfl
        · refine ⟨l, _, 0, _, rfl, rfl, SqL.of upd_same, rfl, ?_⟩
          refine fin _ _ (Pot.same S p1) (Rm.same S R1) (b1.one.trans (But.of S)) ⟨.one, trivial, ?_⟩
          exact Rep.tupI (vs := [.str "one"]) (Same.new nl _ _ (Same.new nu _ _ upd_same)) (.one Rep.strI)
        · refine ⟨l, _, 1, _, rfl, rfl, SqL.of upd_same, rfl, ?_⟩
          refine fin _ _ (Pot.same S p1) (Rm.same S R1) (b1.one.trans (But.of S)) ⟨.sum, trivial, ?_⟩
          exact Rep.tupI (vs := [.str "sum"]) (Same.new nl _ _ upd_same) (.one Rep.strI)
end
end K82


set_option Elab.async false
set_option linter.all false
set_option maxRecDepth 100000
set_option maxHeartbeats 4000000
namespace K82
open PySem PySem.Spec PyProof.Rows L2 Lb
theorem But.keepT {H H' : Hp} {p r : Addr} (b : But p r H H') (hp : Pot H p) (hR : Rm H r) : KeepT H H' := by
  obtain ⟨x, y, e, _⟩ := hp
  obtain ⟨n, e2⟩ := hR
  refine fun c vs h => b _ _ h (fun q => ?_) (fun q => ?_)
  · rw [q, e] at h
    cases h
  · rw [q, e2] at h
    cases h
/-- what is so of things, and stays so where tuples stay -/
def Stays (R : Hp → V → Prop) : Prop := ∀ H H' v, KeepT H H' → R H v → R H' v
section
variable {P : Program} {w : World} {K : PySem.W.Frag} {mg : Str → Option Value} {base : Heap}
/-- tuple([.. for _law_k in range(_law_digit(pot, n))]) -/
theorem made_tuple {R : Hp → V → Prop} (st : Stays R) {p r : Addr} {n : Int} {i : Nat} {te : TE} {σ : L2.St} {H : Hp} {Q : VK} (hσ : σ[0]? = some (some (.ref p))) (hp : Pot H p) (hR : Rm H r) (n0 : 0 < n) (n1 : n ≤ 1000)
    (hw : ∀ x : V, wipe ((wipe σ [i]).set i (some x)) [i] = wipe σ [i])
    (item : ∀ (x : V) (H2 : Hp) (Q2 : VK), Pot H2 p → Rm H2 r → (∀ v H', Pot H' p → Rm H' r → But p r H2 H' → R H' v → Q2 v H') → te ((wipe σ [i]).set i (some x)) H2 Q2)
    (fin : ∀ t H' vs, Pot H' p → Rm H' r → But p r H H' → H' t = some (.tup vs) → (vs.length : Int) < n → (∀ v ∈ vs, R H' v) → Q (.ref t) H') :
    tCB (fun xs H Q => ∃ p ys, xs = [.ref p] ∧ ((SqL K H p ys ∧ ∀ l, H l = none → Q (.ref l) (upd H l (.tup ys))) ∨ (SqT K H p ys ∧ Q (.ref p) H)))
      (tCons (tLc (iRng1 (tCons (tCall spDigit [] E0 (tCons (tVar 0) (tCons (tC (.int n)) tNil))) tNil)) (gName i) tYes te [i]) tNil) σ H Q := by
  refine ⟨_, hσ, p, n, rfl, hp, n0, by omega, fun d H1 d0 d1 p1 b1 => ⟨d, rfl, by omega, by omega, fun D nD => ?_⟩⟩
  have npr := Pot.ne hp hR
  have R1 := Rm.but npr b1 hR
  have nDp : D ≠ p := fun q => by
    obtain ⟨x, y, e, _⟩ := p1
    rw [q, e] at nD
    cases nD
  have nDr : D ≠ r := fun q => by
    obtain ⟨x, e⟩ := R1
    rw [q, e] at nD
    cases nD
  refine lc_range (lo := 0) (n := d.toNat) (fun j G => ∃ vs : List V, G D = some (.lst vs) ∧ vs.length = j ∧ Pot G p ∧ Rm G r ∧ But p r H1 G ∧ ∀ v ∈ vs, R G v)
    ⟨[], upd_same, rfl, Pot.same (Same.new nD) p1, Rm.same (Same.new nD) R1, But.of (Same.new nD), fun v hv => nomatch hv⟩ ?_ ?_
  · rintro j G hj ⟨vs, gD, hl, pG, rG, bG, all⟩
    refine ⟨hw _, ?_⟩
    show te _ G _
    refine item _ _ _ pG rG fun v G2 p2 r2 b2 h2 => ?_
    have gD2 := b2 _ _ gD nDp nDr
    have k3 : KeepT G (upd G2 D (.lst (vs ++ [v]))) := (But.keepT b2 pG rG).upd gD2
    have k4 : KeepT G2 (upd G2 D (.lst (vs ++ [v]))) := KeepT.upd (fun _ _ e => e) gD2
    refine ⟨vs, gD2, ?_, vs ++ [v], upd_same, by rw [List.length_append, hl]; rfl, ?_, ?_, ?_, ?_⟩
    · rw [hl, sizeLine_eq]
      omega
    · obtain ⟨x, y, e, h0⟩ := p2
      exact ⟨x, y, by rw [upd_ne nDp.symm]; exact e, h0⟩
    · obtain ⟨x, e⟩ := r2
      exact ⟨x, by rw [upd_ne nDr.symm]; exact e⟩
    · intro c o h n m
      have q := b2 _ _ (bG _ _ h n m) n m
      rw [upd_ne (ne_of_none h nD)]
      exact q
    · intro u hu
      rcases List.mem_append.mp hu with hu | hu
      · exact st _ _ _ k3 (all u hu)
      · rw [List.mem_singleton.mp hu]
        exact st _ _ _ k4 h2
  · rintro G ⟨vs, gD, hl, pG, rG, bG, all⟩
    refine ⟨D, vs, rfl, .inl ⟨SqL.of gD, fun t nt => ?_⟩⟩
    refine fin t _ vs (Pot.same (Same.new nt) pG) (Rm.same (Same.new nt) rG) ((b1.one.trans bG).trans (But.of (Same.new nt))) upd_same (by omega) fun v hv => st _ _ _ (KeepT.of (Same.new nt)) (all v hv)
end
end K82


set_option Elab.async false
set_option linter.all false
set_option maxRecDepth 100000
set_option maxHeartbeats 4000000
namespace K82
open PySem PySem.Spec PyProof.Rows L2 Lb
abbrev sLook : Stmt := top 22
abbrev sTest : Stmt := top 23
abbrev nPRD : List Str := ["_law_pot_here", "_law_room", "_law_deep"]
/-- the same, so deep at most -/
def spMake3 (n : Int) (R : Hp → V → Prop) : Sp := fun vs H Q _ => ∃ (p r : Addr), vs = [.ref p, .ref r, .int n] ∧ Pot H p ∧ Rm H r ∧
  ∀ (v : V) (H' : Hp), Pot H' p → Rm H' r → But p r H H' → R H' v → Q v H'
def IsLook (n : Nat) (H : Hp) (v : V) : Prop := ∃ l : Lk, Lk.Ok n l ∧ Rep H v l.d
def IsTest (n : Nat) (H : Hp) (v : V) : Prop := ∃ ls : List Lk, ls.length ≤ 2 ∧ TestAll n ls ∧ Rep H v (testD ls)
theorem stays_ch : Stays IsCh := fun H H' v k ⟨c, o, r⟩ => ⟨c, o, Rep.keepT k _ c.pure r⟩
theorem stays_rule : Stays IsRule := fun H H' v k ⟨c, o, r⟩ => ⟨c, o, Rep.keepT k _ (rule_pure c) r⟩
theorem stays_look (n : Nat) : Stays (IsLook n) := fun H H' v k ⟨c, o, r⟩ => ⟨c, o, Rep.keepT k _ c.pure r⟩
theorem test_pure (ls : List Lk) : (testD ls).pure := by
  simp only [D.pure]
  exact test_pureL ls
theorem stays_test (n : Nat) : Stays (IsTest n) := fun H H' v k ⟨c, o, o2, r⟩ => ⟨c, o, o2, Rep.keepT k _ (test_pure c) r⟩
theorem chs_of {H : Hp} : ∀ {vs : List V}, (∀ v ∈ vs, IsCh H v) → ∃ cs : List Ch, cs.length = vs.length ∧ (∀ c ∈ cs, c.Ok) ∧ RepL H vs (cs.map Ch.d)
  | [], _ => ⟨[], rfl, fun c h => (nomatch h), RepL.nil⟩
  | v :: vs, h => by
    obtain ⟨c, o, r⟩ := h v (.head _)
    obtain ⟨cs, e, a, rs⟩ := chs_of fun u hu => h u (.tail _ hu)
    exact ⟨c :: cs, by rw [List.length_cons, List.length_cons, e], fun x hx => by
      rcases List.mem_cons.mp hx with rfl | hx
      · exact o
      · exact a x hx, RepL.cons r rs⟩
theorem looks_of {n : Nat} {H : Hp} : ∀ {vs : List V}, (∀ v ∈ vs, IsLook n H v) → ∃ ls : List Lk, ls.length = vs.length ∧ TestAll n ls ∧ RepL H vs (testL ls)
  | [], _ => ⟨[], rfl, by simp only [TestAll], by simp only [testL]; exact RepL.nil⟩
  | v :: vs, h => by
    obtain ⟨c, o, r⟩ := h v (.head _)
    obtain ⟨cs, e, a, rs⟩ := looks_of fun u hu => h u (.tail _ hu)
    exact ⟨c :: cs, by rw [List.length_cons, List.length_cons, e], by simp only [TestAll]; exact ⟨o, a⟩, by simp only [testL]; exact RepL.cons r rs⟩
section
variable {P : Program} {w : World} {K : PySem.W.Frag} {mg : Str → Option Value} {base : Heap}
abbrev nRule : List Str := ["_law_pot_here", "_law_room", "_law_k"]
theorem scRule : FnScope nRule nPR (defScope sRule) := ⟨rfl, rfl, rfl, by decide +kernel, rfl, by decide +kernel, by decide +kernel⟩
theorem ok_rule {f : Addr} {fd : FuncData} (F : Fun K "_law_rule" "_law_rule" sRule f fd) (B : Blt mg)
    (D : GD P w K mg base CX0 "_law_digit" ["_law_pot_here", "_law_many"] 1 spDigit) (DC : GD P w K mg base CX0 "_law_change" nPR 3 (spMake IsCh)) : FnOk P w K mg base CX0 4 f fd nPR (spMake IsRule) := by
  refine F.ok scRule (fun vs H Q E h => ?_) (fun cdv A outer s H vs Q E hr h => ?_)
  · obtain ⟨p, r, rfl, _⟩ := h
    rfl
  · obtain ⟨p, r, rfl, hp, hR, fin⟩ := h
    have hr1 := hr.mono (show 1 ≤ 3 by decide)
    refine ⟨_, pss_one (ps_ret (pe_callTy call_tuple_of (by rfl) B.tuple boot_tuple (pa_cons
      (pe_lc (own := [("_law_k", 2)]) (g := gName 2) (tt := tYes) (te := tCall (spMake IsCh) [] E0 (tCons (tVar 0) (tCons (tVar 1) tNil))) rfl scRule.nd (pi_range1 rfl B.range (pa_cons (pe_gd D hr1 rfl pass0 (pa_cons (pv 0) (pa_cons pe_int pa_nil))) pa_nil)) (blkOk_by (N := nRule) (sc := defScope sRule) (by decide +kernel)) (fun _ _ _ _ _ => pg_name (i := 2) scRule.nd rfl (Or.inl rfl)) (fun _ _ _ _ _ => pts_nil)
        (fun _ _ _ _ _ => pe_gd DC hr rfl pass0 (pa_cons (pv 0) (pa_cons (pv 1) pa_nil)))) pa_nil))), ?_⟩
    refine made_tuple (K := K) (n := 4) (i := 2) stays_ch rfl hp hR (by decide) (by decide) (fun _ => rfl) ?_ ?_
    · intro x H2 Q2 p2 r2 k
      exact ⟨_, rfl, _, rfl, p, r, rfl, p2, r2, k⟩
    · intro t H' vs p' r' b' ht hl all
      obtain ⟨cs, e, o, rp⟩ := chs_of all
      exact fin _ _ p' r' b' ⟨cs, ⟨by omega, o⟩, Rep.tupI ht rp⟩
/-- of the tests one step less deep -/
def spLess : Nat → Sp
  | 0 => fun _ _ _ _ => False
  | n + 1 => spMake3 n (IsTest n)
abbrev nLook : List Str := ["_law_pot_here", "_law_room", "_law_deep", "_law_kind", "_law_by"]
theorem scLook : FnScope nLook nPRD (defScope sLook) := ⟨rfl, rfl, rfl, by decide +kernel, rfl, by decide +kernel, by decide +kernel⟩
theorem ok_look {f : Addr} {fd : FuncData} (F : Fun K "_law_look" "_law_look" sLook f fd) (n : Nat)
    (D : GD P w K mg base CX0 "_law_digit" ["_law_pot_here", "_law_many"] 1 spDigit) (DW : GD P w K mg base CX0 "_law_whole" nPR 2 spWhole)
    (DR : GD P w K mg base CX0 "_law_rule" nPR 4 (spMake IsRule)) (DT : GD P w K mg base CX0 "_law_test" nPRD (4 + 2 * n) (spLess n)) : FnOk P w K mg base CX0 (5 + 2 * n) f fd nPRD (spMake3 n (IsLook n)) := by
  have e5 : 5 + 2 * n = (4 + 2 * n) + 1 := by omega
  rw [e5]
  refine F.ok scLook (fun vs H Q E h => ?_) (fun cdv A outer s H vs Q E hr h => ?_)
  · obtain ⟨p, r, rfl, _⟩ := h
    rfl
  · obtain ⟨p, r, rfl, hp, hR, fin⟩ := h
    have hr1 := hr.mono (show 1 ≤ 4 + 2 * n by omega)
    have hr2 := hr.mono (show 2 ≤ 4 + 2 * n by omega)
    have hr4 := hr.mono (show 4 ≤ 4 + 2 * n by omega)
    refine ⟨_, pss_cons (ps_set (i := 3) scLook.nd rfl (.inl rfl) (pe_gd D hr1 rfl pass0 (pa_cons (pv 0) (pa_cons pe_int pa_nil))))
      (pss_cons (ps_if (pt_cmpR op_lt (pv 3) pe_int (nomark _))
        (pss_cons (ps_set (i := 4) scLook.nd rfl (.inl rfl) (pe_op op_add pe_int (pe_gd D hr1 rfl pass0 (pa_cons (pv 0) (pa_cons pe_int pa_nil)))))
        (pss_one (ps_ret (pe_tup (pa_cons pe_str (pa_cons (pv 4) (pa_cons (pe_gd D hr1 rfl pass0 (pa_cons (pv 0) (pa_cons (pv 4) pa_nil))) pa_nil))))))) pss_nil)
      (pss_cons (ps_if (PW.pt (pw_or (pt_cmpR op_eq (pv 3) pe_int (nomark _)) (pw_or1 (pt_cmpR op_eq (pv 2) pe_int (nomark _)))))
        (pss_one (ps_ret (pe_tup (pa_cons pe_str (pa_cons (pe_gd DW hr2 rfl pass0 (pa_cons (pv 0) (pa_cons (pv 1) pa_nil))) pa_nil))))) pss_nil)
      (pss_one (ps_ret (pe_tup (pa_cons pe_str (pa_cons (pe_gd DR hr4 rfl pass0 (pa_cons (pv 0) (pa_cons (pv 1) pa_nil))) (pa_cons (pe_gd DT hr rfl pass0 (pa_cons (pv 0) (pa_cons (pv 1) (pa_cons (pe_op op_sub (pv 2) pe_int) pa_nil)))) pa_nil)))))))), ?_⟩
    have npr := Pot.ne hp hR
    refine ⟨_, rfl, p, 4, rfl, hp, by decide, by decide, fun k H1 k0 k1 p1 b1 => ?_⟩
    have R1 := Rm.but npr b1 hR
    refine ⟨_, rfl, _, _, rfl, rfl, _, rfl, ite2 (fun h => ?_) (fun h => ?_)⟩
    · refine ⟨_, rfl, p, 4, rfl, p1, by decide, by decide, fun e H2 e0 e1 p2 b2 => ⟨_, _, rfl, rfl, _, rfl, _, rfl, _, rfl, p, 1 + e, rfl, p2, by omega, by omega, fun x H3 x0 x1 p3 b3 => ⟨(by show 3 ≤ sizeLine; decide), fun t nt => ?_⟩⟩⟩
      refine fin _ _ (Pot.same (Same.new nt) p3) (Rm.same (Same.new nt) (Rm.but npr b3 (Rm.but npr b2 R1))) (((b1.one.trans b2.one).trans b3.one).trans (But.of (Same.new nt))) ⟨.rest (1 + e) x, ?_, Rep.new nt (.three Rep.strI Rep.intI Rep.intI)⟩
      cases n <;> (simp only [Lk.Ok]; omega)
    · have below : ∀ (G : Hp), Pot G p → Rm G r → But p r H G → spWhole [.ref p, .ref r] G (fun x H3 => (2 ≤ sizeLine ∧ ∀ t, H3 t = none → Q (.ref t) (L2.upd H3 t (.tup [.str "below", x])))) E0 := by
        intro G pG rG bG
        refine ⟨p, r, rfl, pG, rG, fun i H3 i0 i1 p3 r3 b3 => ⟨(by decide), fun t nt => ?_⟩⟩
        refine fin _ _ (Pot.same (Same.new nt) p3) (Rm.same (Same.new nt) r3) ((bG.trans b3).trans (But.of (Same.new nt))) ⟨.under i, ?_, Rep.new nt (.two Rep.strI Rep.intI)⟩
        cases n <;> (simp only [Lk.Ok]; exact ⟨i0, i1⟩)
      refine ⟨_, rfl, rfl, _, rfl, ite2 (fun h2 => ⟨_, rfl, _, rfl, below H1 p1 R1 b1.one⟩) (fun h2 => ⟨_, rfl, rfl, _, rfl, ite2 (fun h3 => ⟨_, rfl, _, rfl, below H1 p1 R1 b1.one⟩) (fun h3 => ?_)⟩)⟩
      cases n with
      | zero => exact absurd rfl h3
      | succ m =>
        refine ⟨_, rfl, _, rfl, p, r, rfl, p1, R1, fun v H2 p2 r2 b2 cs => ?_⟩
        refine ⟨_, rfl, _, rfl, _, rfl, _, _, rfl, rfl, p, r, ?_, p2, r2, fun u H3 p3 r3 b3 ts => ⟨(by show 3 ≤ sizeLine; decide), fun t nt => ?_⟩⟩
        · have e1 : ((m + 1 : Nat) : Int) - 1 = m := by omega
          show [V.ref p, V.ref r, V.int (((m + 1 : Nat) : Int) - 1)] = _
          rw [e1]
        obtain ⟨rs, ro, rr⟩ := stays_rule _ _ _ (But.keepT b3 p2 r2) cs
        obtain ⟨ls, l2, lo, lr⟩ := ts
        refine fin _ _ (Pot.same (Same.new nt) p3) (Rm.same (Same.new nt) r3) (((b1.one.trans b2).trans b3).trans (But.of (Same.new nt))) ⟨.after rs ls, ?_, ?_⟩
        · simp only [Lk.Ok]
          exact ⟨ro, l2, lo⟩
        · simp only [Lk.d]
          exact Rep.new nt (.three Rep.strI rr lr)
abbrev nTest : List Str := ["_law_pot_here", "_law_room", "_law_deep", "_law_k"]
theorem scTest : FnScope nTest nPRD (defScope sTest) := ⟨rfl, rfl, rfl, by decide +kernel, rfl, by decide +kernel, by decide +kernel⟩
theorem ok_test {f : Addr} {fd : FuncData} (F : Fun K "_law_test" "_law_test" sTest f fd) (B : Blt mg) (n : Nat)
    (D : GD P w K mg base CX0 "_law_digit" ["_law_pot_here", "_law_many"] 1 spDigit) (DL : GD P w K mg base CX0 "_law_look" nPRD (5 + 2 * n) (spMake3 n (IsLook n))) : FnOk P w K mg base CX0 (6 + 2 * n) f fd nPRD (spMake3 n (IsTest n)) := by
  have e5 : 6 + 2 * n = (5 + 2 * n) + 1 := by omega
  rw [e5]
  refine F.ok scTest (fun vs H Q E h => ?_) (fun cdv A outer s H vs Q E hr h => ?_)
  · obtain ⟨p, r, rfl, _⟩ := h
    rfl
  · obtain ⟨p, r, rfl, hp, hR, fin⟩ := h
    have hr1 := hr.mono (show 1 ≤ 5 + 2 * n by omega)
    refine ⟨_, pss_one (ps_ret (pe_callTy call_tuple_of (by rfl) B.tuple boot_tuple (pa_cons
      (pe_lc (own := [("_law_k", 3)]) (g := gName 3) (tt := tYes) (te := tCall (spMake3 n (IsLook n)) [] E0 (tCons (tVar 0) (tCons (tVar 1) (tCons (tVar 2) tNil)))) rfl scTest.nd (pi_range1 rfl B.range (pa_cons (pe_gd D hr1 rfl pass0 (pa_cons (pv 0) (pa_cons pe_int pa_nil))) pa_nil)) (blkOk_by (N := nTest) (sc := defScope sTest) (by decide +kernel)) (fun _ _ _ _ _ => pg_name (i := 3) scTest.nd rfl (Or.inl rfl)) (fun _ _ _ _ _ => pts_nil)
        (fun _ _ _ _ _ => pe_gd DL hr rfl pass0 (pa_cons (pv 0) (pa_cons (pv 1) (pa_cons (pv 2) pa_nil))))) pa_nil))), ?_⟩
    refine made_tuple (K := K) (n := 3) (i := 3) (stays_look n) rfl hp hR (by decide) (by decide) (fun _ => rfl) ?_ ?_
    · intro x H2 Q2 p2 r2 k
      exact ⟨_, rfl, _, rfl, _, rfl, p, r, rfl, p2, r2, k⟩
    · intro t H' vs p' r' b' ht hl all
      obtain ⟨ls, e, o, rp⟩ := looks_of all
      exact fin _ _ p' r' b' ⟨ls, by omega, o, Rep.tupI ht rp⟩
end
end K82


set_option Elab.async false
set_option linter.all false
set_option maxRecDepth 100000
set_option maxHeartbeats 4000000
/-! Plans, as the laws over plans make them. -/
namespace Lb
open PySem PySem.Spec PyProof.Rows L2
inductive Pl where
  | list (ns : List Int)
  | broken (ns : List Int) (z : Str)
  | count (a b n : Int)
  | row (k : Int)
  | turn (cs : List Ch) (p : Pl)
  | sieve (ls : List Lk) (p : Pl)
  | upto (ls : List Lk) (p : Pl)
  | cut (n : Int) (p : Pl)
  | left (n : Int) (p : Pl)
  | chain (ps : List Pl)
  | beside (ps : List Pl)
  | ahead (p : Pl)
  | windows (s t : Int) (p : Pl)
  | marks (m : Int) (p : Pl)
  | spare (p q : Pl)
  | wanted (n : Int) (z : Str) (p : Pl)
abbrev numD (ns : List Int) : D := .tup (ns.map D.int)
mutual
def Pl.d : Pl → D
  | .list ns => .tup [.str "list", numD ns]
  | .broken ns z => .tup [.str "broken", numD ns, .str z]
  | .count a b n => .tup [.str "count", .int a, .int b, .int n]
  | .row k => .tup [.str "row", .int k]
  | .turn cs p => .tup [.str "turn", ruleD cs, p.d]
  | .sieve ls p => .tup [.str "sieve", testD ls, p.d]
  | .upto ls p => .tup [.str "upto", testD ls, p.d]
  | .cut n p => .tup [.str "cut", .int n, p.d]
  | .left n p => .tup [.str "left", .int n, p.d]
  | .chain ps => .tup [.str "chain", .tup (planL ps)]
  | .beside ps => .tup [.str "beside", .tup (planL ps)]
  | .ahead p => .tup [.str "ahead", p.d]
  | .windows s t p => .tup [.str "windows", .int s, .int t, p.d]
  | .marks m p => .tup [.str "marks", .int m, p.d]
  | .spare p q => .tup [.str "spare", p.d, q.d]
  | .wanted n z p => .tup [.str "wanted", .int n, .str z, p.d]
def planL : List Pl → List D
  | [] => []
  | p :: ps => p.d :: planL ps
end
theorem planL_length : ∀ ps : List Pl, (planL ps).length = ps.length
  | [] => by
    simp only [planL]
    rfl
  | p :: ps => by simp only [planL, List.length_cons, planL_length ps]
/-- numbers as the laws make them -/
def NumsOk (ns : List Int) : Prop := ns.length ≤ 6 ∧ ∀ i ∈ ns, -BIG ≤ i ∧ i ≤ BIG
mutual
/-- a plan that a law makes, so deep at most -/
def Pl.Ok : Nat → Pl → Prop
  | _, .list ns => NumsOk ns
  | _, .broken ns z => NumsOk ns ∧ (z = "torn" ∨ z = "a" ∨ z = "brokenup")
  | _, .count a b n => (-BIG ≤ a ∧ a ≤ BIG) ∧ (-BIG ≤ b ∧ b ≤ BIG) ∧ 0 ≤ n ∧ n ≤ 8
  | _, .row k => 0 ≤ k ∧ k ≤ 7
  | n + 1, .turn cs p => RuleOk cs ∧ Pl.Ok n p
  | n + 1, .sieve ls p => ls.length ≤ 2 ∧ TestAll 2 ls ∧ Pl.Ok n p
  | n + 1, .upto ls p => ls.length ≤ 2 ∧ TestAll 2 ls ∧ Pl.Ok n p
  | n + 1, .cut k p => 0 ≤ k ∧ k ≤ 200 ∧ Pl.Ok n p
  | n + 1, .left k p => 0 ≤ k ∧ k ≤ 200 ∧ Pl.Ok n p
  | n + 1, .chain ps => ps.length ≤ 4 ∧ PlAll n ps
  | n + 1, .beside ps => 1 ≤ ps.length ∧ ps.length ≤ 3 ∧ PlAll n ps
  | n + 1, .ahead p => Pl.Ok n p
  | n + 1, .windows s t p => (1 ≤ s ∧ s ≤ 20) ∧ (1 ≤ t ∧ t ≤ 20) ∧ Pl.Ok n p
  | n + 1, .marks m p => 1 ≤ m ∧ m ≤ BIG ∧ Pl.Ok n p
  | n + 1, .spare p q => Pl.Ok n p ∧ Pl.Ok n q
  | n + 1, .wanted k z p => 0 ≤ k ∧ k ≤ 200 ∧ (z = "few" ∨ z = "toofew") ∧ Pl.Ok n p
  | 0, _ => False
def PlAll : Nat → List Pl → Prop
  | _, [] => True
  | n, p :: ps => Pl.Ok n p ∧ PlAll n ps
end
theorem num_pureL : ∀ ns : List Int, pureL (ns.map D.int)
  | [] => by simp only [List.map_nil, pureL]
  | n :: ns => by
    simp only [List.map_cons, pureL, D.pure]
    exact ⟨trivial, num_pureL ns⟩
theorem test_pureD (ls : List Lk) : (testD ls).pure := by
  simp only [D.pure]
  exact test_pureL ls
mutual
theorem Pl.pure : ∀ p : Pl, p.d.pure
  | .list ns => by
    simp only [Pl.d, D.pure, pureL]
    exact ⟨trivial, num_pureL ns, trivial⟩
  | .broken ns z => by
    simp only [Pl.d, D.pure, pureL]
    exact ⟨trivial, num_pureL ns, trivial, trivial⟩
  | .count a b n => by simp only [Pl.d, D.pure, pureL, and_self]
  | .row k => by simp only [Pl.d, D.pure, pureL, and_self]
  | .turn cs p => by
    simp only [Pl.d, D.pure, pureL]
    exact ⟨trivial, rule_pureL cs, p.pure, trivial⟩
  | .sieve ls p => by
    simp only [Pl.d, D.pure, pureL]
    exact ⟨trivial, test_pureL ls, p.pure, trivial⟩
  | .upto ls p => by
    simp only [Pl.d, D.pure, pureL]
    exact ⟨trivial, test_pureL ls, p.pure, trivial⟩
  | .cut n p => by
    simp only [Pl.d, D.pure, pureL]
    exact ⟨trivial, trivial, p.pure, trivial⟩
  | .left n p => by
    simp only [Pl.d, D.pure, pureL]
    exact ⟨trivial, trivial, p.pure, trivial⟩
  | .chain ps => by
    simp only [Pl.d, D.pure, pureL]
    exact ⟨trivial, plan_pureL ps, trivial⟩
  | .beside ps => by
    simp only [Pl.d, D.pure, pureL]
    exact ⟨trivial, plan_pureL ps, trivial⟩
  | .ahead p => by
    simp only [Pl.d, D.pure, pureL]
    exact ⟨trivial, p.pure, trivial⟩
  | .windows s t p => by
    simp only [Pl.d, D.pure, pureL]
    exact ⟨trivial, trivial, trivial, p.pure, trivial⟩
  | .marks m p => by
    simp only [Pl.d, D.pure, pureL]
    exact ⟨trivial, trivial, p.pure, trivial⟩
  | .spare p q => by
    simp only [Pl.d, D.pure, pureL]
    exact ⟨trivial, p.pure, q.pure, trivial⟩
  | .wanted n z p => by
    simp only [Pl.d, D.pure, pureL]
    exact ⟨trivial, trivial, trivial, p.pure, trivial⟩
theorem plan_pureL : ∀ ps : List Pl, pureL (planL ps)
  | [] => by simp only [planL, pureL]
  | p :: ps => by
    simp only [planL, pureL]
    exact ⟨p.pure, plan_pureL ps⟩
end
/-- a value that is a plan, as a law makes them -/
def IsPl (n : Nat) (H : Hp) (v : V) : Prop := ∃ p : Pl, p.Ok n ∧ Rep H v p.d
theorem IsPl.keep {n : Nat} {H H' : Hp} {v : V} (k : KeepT H H') : IsPl n H v → IsPl n H' v
  | ⟨p, o, r⟩ => ⟨p, o, Rep.keepT k _ p.pure r⟩
theorem plans_of {n : Nat} {H : Hp} : ∀ {vs : List V}, (∀ v ∈ vs, IsPl n H v) → ∃ ps : List Pl, ps.length = vs.length ∧ PlAll n ps ∧ RepL H vs (planL ps)
  | [], _ => ⟨[], rfl, by simp only [PlAll], by simp only [planL]; exact RepL.nil⟩
  | v :: vs, h => by
    obtain ⟨c, o, r⟩ := h v (.head _)
    obtain ⟨ls, e, a, rs⟩ := plans_of fun u hu => h u (.tail _ hu)
    exact ⟨c :: ls, by rw [List.length_cons, List.length_cons, e], by simp only [PlAll]; exact ⟨o, a⟩, by simp only [planL]; exact RepL.cons r rs⟩
mutual
theorem Pl.Ok.up : ∀ {n : Nat} (p : Pl), p.Ok n → p.Ok (n + 1)
  | n, .list ns, h => by cases n <;> (simp only [Pl.Ok] at h ⊢; exact h)
  | n, .broken ns z, h => by cases n <;> (simp only [Pl.Ok] at h ⊢; exact h)
  | n, .count a b c, h => by cases n <;> (simp only [Pl.Ok] at h ⊢; exact h)
  | n, .row k, h => by cases n <;> (simp only [Pl.Ok] at h ⊢; exact h)
  | n + 1, .turn cs p, h => by
    simp only [Pl.Ok] at h ⊢
    exact ⟨h.1, Pl.Ok.up p h.2⟩
  | n + 1, .sieve ls p, h => by
    simp only [Pl.Ok] at h ⊢
    exact ⟨h.1, h.2.1, Pl.Ok.up p h.2.2⟩
  | n + 1, .upto ls p, h => by
    simp only [Pl.Ok] at h ⊢
    exact ⟨h.1, h.2.1, Pl.Ok.up p h.2.2⟩
  | n + 1, .cut k p, h => by
    simp only [Pl.Ok] at h ⊢
    exact ⟨h.1, h.2.1, Pl.Ok.up p h.2.2⟩
  | n + 1, .left k p, h => by
    simp only [Pl.Ok] at h ⊢
    exact ⟨h.1, h.2.1, Pl.Ok.up p h.2.2⟩
  | n + 1, .chain ps, h => by
    simp only [Pl.Ok] at h ⊢
    exact ⟨h.1, PlAll.up ps h.2⟩
  | n + 1, .beside ps, h => by
    simp only [Pl.Ok] at h ⊢
    exact ⟨h.1, h.2.1, PlAll.up ps h.2.2⟩
  | n + 1, .ahead p, h => by
    simp only [Pl.Ok] at h ⊢
    exact Pl.Ok.up p h
  | n + 1, .windows s t p, h => by
    simp only [Pl.Ok] at h ⊢
    exact ⟨h.1, h.2.1, Pl.Ok.up p h.2.2⟩
  | n + 1, .marks m p, h => by
    simp only [Pl.Ok] at h ⊢
    exact ⟨h.1, h.2.1, Pl.Ok.up p h.2.2⟩
  | n + 1, .spare p q, h => by
    simp only [Pl.Ok] at h ⊢
    exact ⟨Pl.Ok.up p h.1, Pl.Ok.up q h.2⟩
  | n + 1, .wanted k z p, h => by
    simp only [Pl.Ok] at h ⊢
    exact ⟨h.1, h.2.1, h.2.2.1, Pl.Ok.up p h.2.2.2⟩
  | 0, .turn _ _, h => by simp only [Pl.Ok] at h
  | 0, .sieve _ _, h => by simp only [Pl.Ok] at h
  | 0, .upto _ _, h => by simp only [Pl.Ok] at h
  | 0, .cut _ _, h => by simp only [Pl.Ok] at h
  | 0, .left _ _, h => by simp only [Pl.Ok] at h
  | 0, .chain _, h => by simp only [Pl.Ok] at h
  | 0, .beside _, h => by simp only [Pl.Ok] at h
  | 0, .ahead _, h => by simp only [Pl.Ok] at h
  | 0, .windows _ _ _, h => by simp only [Pl.Ok] at h
  | 0, .marks _ _, h => by simp only [Pl.Ok] at h
  | 0, .spare _ _, h => by simp only [Pl.Ok] at h
  | 0, .wanted _ _ _, h => by simp only [Pl.Ok] at h
theorem PlAll.up : ∀ {n : Nat} (ps : List Pl), PlAll n ps → PlAll (n + 1) ps
  | n, [], h => by simp only [PlAll]
  | n, p :: ps, h => by
    simp only [PlAll] at h ⊢
    exact ⟨Pl.Ok.up p h.1, PlAll.up ps h.2⟩
end
end Lb


set_option Elab.async false
set_option linter.all false
set_option maxRecDepth 100000
set_option maxHeartbeats 4000000
namespace K82
open PySem PySem.Spec PyProof.Rows L2 Lb
abbrev sLeaf : Stmt := top 24
theorem stays_pl (n : Nat) : Stays (IsPl n) := fun H H' v k h => h.keep k
def IsNum (H : Hp) (v : V) : Prop := ∃ i : Int, v = .int i ∧ -BIG ≤ i ∧ i ≤ BIG
theorem stays_num : Stays IsNum := fun _ _ _ _ h => h
theorem nums_of {H : Hp} : ∀ {vs : List V}, (∀ v ∈ vs, IsNum H v) → ∃ ns : List Int, ns.length = vs.length ∧ (∀ i ∈ ns, -BIG ≤ i ∧ i ≤ BIG) ∧ vs = ns.map V.int
  | [], _ => ⟨[], rfl, fun c h => (nomatch h), rfl⟩
  | v :: vs, h => by
    obtain ⟨i, rfl, a, b⟩ := h v (.head _)
    obtain ⟨ns, e, o, rs⟩ := nums_of fun u hu => h u (.tail _ hu)
    exact ⟨i :: ns, by rw [List.length_cons, List.length_cons, e], fun x hx => by
      rcases List.mem_cons.mp hx with rfl | hx
      · exact ⟨a, b⟩
      · exact o x hx, by rw [rs]; rfl⟩
theorem rep_nums {H : Hp} : ∀ ns : List Int, RepL H (ns.map V.int) (ns.map D.int)
  | [] => .nil
  | n :: ns => .cons Rep.intI (rep_nums ns)
section
variable {P : Program} {w : World} {K : PySem.W.Frag} {mg : Str → Option Value} {base : Heap}
abbrev nLeaf : List Str := ["_law_pot_here", "_law_room", "_law_kind", "_law_numbers", "_law_k"]
theorem scLeaf : FnScope nLeaf nPR (defScope sLeaf) := ⟨rfl, rfl, rfl, by decide +kernel, rfl, by decide +kernel, by decide +kernel⟩
theorem ok_leaf {f : Addr} {fd : FuncData} (F : Fun K "_law_leaf" "_law_leaf" sLeaf f fd) (B : Blt mg)
    (D : GD P w K mg base CX0 "_law_digit" ["_law_pot_here", "_law_many"] 1 spDigit) (DW : GD P w K mg base CX0 "_law_whole" nPR 2 spWhole) : FnOk P w K mg base CX0 3 f fd nPR (spMake (IsPl 0)) := by
  refine F.ok scLeaf (fun vs H Q E h => ?_) (fun cdv A outer s H vs Q E hr h => ?_)
  · obtain ⟨p, r, rfl, _⟩ := h
    rfl
  · obtain ⟨p, r, rfl, hp, hR, fin⟩ := h
    have hu := hu_of hr
    have hr1 := hr.mono (show 1 ≤ 2 by decide)
    refine ⟨_, pss_cons (ps_set (i := 2) scLeaf.nd rfl (.inl rfl) (pe_gd D hr1 rfl pass0 (pa_cons (pv 0) (pa_cons pe_int pa_nil))))
      (pss_cons (ps_set (i := 3) scLeaf.nd rfl (.inl rfl) (pe_callTy call_tuple_of (by rfl) B.tuple boot_tuple (pa_cons
        (pe_lc (own := [("_law_k", 4)]) (g := gName 4) (tt := tYes) (te := tCall spWhole [] E0 (tCons (tVar 0) (tCons (tVar 1) tNil))) rfl scLeaf.nd (pi_range1 rfl B.range (pa_cons (pe_gd D hr1 rfl pass0 (pa_cons (pv 0) (pa_cons pe_int pa_nil))) pa_nil)) (blkOk_by (N := nLeaf) (sc := defScope sLeaf) (by decide +kernel)) (fun _ _ _ _ _ => pg_name (i := 4) scLeaf.nd rfl (Or.inl rfl)) (fun _ _ _ _ _ => pts_nil)
          (fun _ _ _ _ _ => pe_gd DW hr rfl pass0 (pa_cons (pv 0) (pa_cons (pv 1) pa_nil)))) pa_nil)))
      (pss_cons (ps_if (pt_cmpR op_eq (pv 2) pe_int (nomark _))
        (pss_one (ps_ret (pe_tup (pa_cons pe_str (pa_cons (pv 3) (pa_cons (pe_ix ix_list (pe_lst (pa_cons pe_str (pa_cons pe_str (pa_cons pe_str pa_nil)))) (pe_gd D hr1 rfl pass0 (pa_cons (pv 0) (pa_cons pe_int pa_nil))) (fun _ _ => rfl)) pa_nil)))))) pss_nil)
      (pss_cons (ps_if (pt_cmpR op_eq (pv 2) pe_int (nomark _))
        (pss_one (ps_ret (pe_tup (pa_cons pe_str (pa_cons (pe_gd DW hr rfl pass0 (pa_cons (pv 0) (pa_cons (pv 1) pa_nil))) (pa_cons (pe_gd DW hr rfl pass0 (pa_cons (pv 0) (pa_cons (pv 1) pa_nil))) (pa_cons (pe_gd D hr1 rfl pass0 (pa_cons (pv 0) (pa_cons pe_int pa_nil))) pa_nil))))))) pss_nil)
      (pss_cons (ps_if (PW.pt (pw_and (pt_cmpR op_gt (pv 2) pe_int (nomark _)) (pw_and1 (pt_cmpR op_lt (pe_dget hu (pv 1) pe_str (fun _ _ => rfl)) pe_int (nomark _)))))
        (pss_cons (ps_dput hu (pv 1) pe_str (pe_op op_add (pe_dget hu (pv 1) pe_str (fun _ _ => rfl)) pe_int) rfl)
        (pss_one (ps_ret (pe_tup (pa_cons pe_str (pa_cons (pe_op op_sub (pe_dget hu (pv 1) pe_str (fun _ _ => rfl)) pe_int) pa_nil)))))) pss_nil)
      (pss_one (ps_ret (pe_tup (pa_cons pe_str (pa_cons (pv 3) pa_nil))))))))), ?_⟩
    have npr := Pot.ne hp hR
    refine ⟨_, rfl, p, 6, rfl, hp, by decide, by decide, fun kd H1 k0 k1 p1 b1 => ?_⟩
    have R1 := Rm.but npr b1 hR
    dsimp only [gName]
    show tAsg _ _ _ _ _
    show tCB _ _ _ _ _
    show tCB _ (tCons (tLc _ _ _ _ _) tNil) _ _ _
    show tCB _ (tCons (tLc _ _ _ _ [4]) tNil) _ _ _
    show tCB _ _ [some (.ref p), some (.ref r), some (.int kd), none, none] _ _
    refine made_tuple (K := K) (n := 7) (i := 4) stays_num rfl p1 R1 (by decide) (by decide) (fun _ => rfl) ?_ ?_
    · intro x H2 Q2 p2 r2 k
      exact ⟨_, rfl, _, rfl, p, r, rfl, p2, r2, fun i H3 i0 i1 p3 r3 b3 => k _ _ p3 r3 b3 ⟨i, rfl, i0, i1⟩⟩
    intro t H2 vs p2 r2 b2 ht hl all
    obtain ⟨ns, hn, on, rfl⟩ := nums_of all
    have okn : NumsOk ns := ⟨by omega, on⟩
    have rn : Rep H2 (.ref t) (numD ns) := Rep.tupI ht (rep_nums ns)
    have B2 : But p r H H2 := b1.one.trans b2
    have last : ∀ u, H2 u = none → Q (.ref u) (L2.upd H2 u (.tup [.str "list", .ref t])) := fun u nu =>
      fin _ _ (Pot.same (Same.new nu) p2) (Rm.same (Same.new nu) r2) (B2.trans (But.of (Same.new nu))) ⟨.list ns, by simp only [Pl.Ok]; exact okn, by simp only [Pl.d]; exact Rep.new nu (.two Rep.strI rn)⟩
    refine ⟨_, rfl, rfl, _, rfl, ite2 (fun h4 => ?_) (fun h4 => ⟨_, rfl, rfl, _, rfl, ite2 (fun h3 => ?_) (fun h3 => ?_)⟩)⟩
    · refine ⟨_, rfl, (by show 3 ≤ sizeLine; decide), fun l nl => ?_⟩
      have nlp : l ≠ p := fun q => by
        obtain ⟨x, y, e, _⟩ := p2
        rw [q, e] at nl
        cases nl
      refine ⟨_, rfl, p, 3, rfl, Pot.same (Same.new nl) p2, by decide, by decide, fun e H3 e0 e1 p3 b3 => ?_⟩
      have hl3 : H3 l = some (.lst [.str "torn", .str "a", .str "brokenup"]) := b3 _ _ upd_same nlp nlp
      have r3 : Rm H3 r := Rm.but npr b3 (Rm.same (Same.new nl) r2)
      have k3 : KeepT H2 H3 := fun c vs e => b3 _ _ (Same.new nl _ _ e) (fun q => by obtain ⟨x, y, e2, _⟩ := p2; rw [q, e2] at e; cases e) (fun q => by obtain ⟨x, y, e2, _⟩ := p2; rw [q, e2] at e; cases e)
      have go : ∀ z : Str, (z = "torn" ∨ z = "a" ∨ z = "brokenup") → 3 ≤ sizeLine ∧ ∀ u, H3 u = none → Q (.ref u) (L2.upd H3 u (.tup [.str "broken", .ref t, .str z])) := fun z hz => ⟨by decide, fun u nu => by
        refine fin _ _ (Pot.same (Same.new nu) p3) (Rm.same (Same.new nu) r3) (((B2.trans (But.of (Same.new nl))).trans b3.one).trans (But.of (Same.new nu))) ⟨.broken ns z, by simp only [Pl.Ok]; exact ⟨okn, hz⟩, ?_⟩
        simp only [Pl.d]
        exact Rep.new nu (.three Rep.strI (Rep.keepT k3 _ (by simp only [Lb.D.pure]; exact num_pureL ns) rn) Rep.strI)⟩
      have c3 : e = 0 ∨ e = 1 ∨ e = 2 := by omega
      rcases c3 with rfl | rfl | rfl
      · exact ⟨l, _, 0, _, rfl, rfl, SqL.of hl3, rfl, go _ (.inl rfl)⟩
      · exact ⟨l, _, 1, _, rfl, rfl, SqL.of hl3, rfl, go _ (.inr (.inl rfl))⟩
      · exact ⟨l, _, 2, _, rfl, rfl, SqL.of hl3, rfl, go _ (.inr (.inr rfl))⟩
    · refine ⟨_, rfl, _, rfl, p, r, rfl, p2, r2, fun i H3 i0 i1 p3 r3 b3 => ⟨_, rfl, _, rfl, p, r, rfl, p3, r3, fun j H4 j0 j1 p4 r4 b4 => ⟨_, rfl, p, 9, rfl, p4, by decide, by decide, fun e H5 e0 e1 p5 b5 => ⟨(by show 4 ≤ sizeLine; decide), fun u nu => ?_⟩⟩⟩⟩
      refine fin _ _ (Pot.same (Same.new nu) p5) (Rm.same (Same.new nu) (Rm.but npr b5 r4)) ((((B2.trans b3).trans b4).trans b5.one).trans (But.of (Same.new nu))) ⟨.count i j e, by simp only [Pl.Ok]; exact ⟨⟨i0, i1⟩, ⟨j0, j1⟩, e0, by omega⟩, ?_⟩
      simp only [Pl.d]
      exact Rep.new nu (.cons Rep.strI (.three Rep.intI Rep.intI Rep.intI))
    · obtain ⟨n, hn⟩ := id r2
      refine ⟨_, rfl, _, _, rfl, rfl, _, rfl, ite2 (fun h5 => ⟨_, rfl, r, .int n.rows, rfl, DGet.k (k := rk) hn, _, _, rfl, rfl, _, rfl, ite2 (fun h8 => ?_) (fun h8 => ⟨_, rfl, (by show 2 ≤ sizeLine; decide), last⟩)⟩) (fun h5 => ⟨_, rfl, (by show 2 ≤ sizeLine; decide), last⟩)⟩
      have h8 : (n.rows : Int) < 8 := of_decide_eq_true h8
      refine ⟨_, rfl, r, .int n.rows, rfl, DGet.k (k := rk) hn, _, _, rfl, rfl, _, rfl, r, _, rfl, DPut.k (k := rk) hn (by show 3 < sizeLine; decide), ?_⟩
      have hn3 : L2.upd H2 r (RmV.o ⟨n.parts, n.great, n.rows + 1, by omega⟩) r = some (RmV.o ⟨n.parts, n.great, n.rows + 1, by omega⟩) := upd_same
      refine ⟨_, rfl, r, .int (n.rows + 1 : Nat), rfl, DGet.k (k := rk) hn3, _, _, rfl, rfl, (by show 2 ≤ sizeLine; decide), fun u nu => ?_⟩
      refine fin _ _ (Pot.same (Same.new nu) ?_) (Rm.same (Same.new nu) ⟨_, hn3⟩) (B2.updR.trans (But.of (Same.new nu))) ⟨.row (((n.rows + 1 : Nat) : Int) - 1), by simp only [Pl.Ok]; omega, ?_⟩
      · obtain ⟨x, y, e, h0⟩ := p2
        exact ⟨x, y, by rw [upd_ne npr]; exact e, h0⟩
      · simp only [Pl.d]
        exact Rep.new nu (.two Rep.strI Rep.intI)
end
end K82


set_option Elab.async false
set_option linter.all false
set_option maxRecDepth 100000
set_option maxHeartbeats 4000000
namespace K82
open PySem PySem.Spec PyProof.Rows L2 Lb
abbrev sUpon : Stmt := top 25
theorem if_T {b : Bool} {A B : Prop} (h : b = true) (x : A) : if b = true then A else B := by
  rw [h]
  exact iteT x
theorem if_F {b : Bool} {A B : Prop} (h : b = false) (x : B) : if b = true then A else B := by
  rw [h]
  exact iteF x
theorem eqT {a : Str} {A B : Prop} (h : A) : if decide (V.str a = V.str a) = true then A else B := by
  rw [if_pos (decide_eq_true rfl)]
  exact h
theorem eqF {a b : Str} {A B : Prop} (n : a ≠ b) (h : B) : if decide (V.str a = V.str b) = true then A else B := by
  rw [if_neg fun q => n (V.str.inj (of_decide_eq_true q))]
  exact h
/-- a plan and how wide its gifts are -/
def IsPair (n : Nat) (H : Hp) (v : V) : Prop := ∃ (t : Addr) (u : V) (wd : Int), v = .ref t ∧ H t = some (.tup [u, .int wd]) ∧ IsPl n H u ∧ 1 ≤ wd ∧ wd ≤ 60
theorem stays_pair (n : Nat) : Stays (IsPair n) := fun H H' v k ⟨t, u, wd, e, h, o, a, b⟩ => ⟨t, u, wd, e, k _ _ h, o.keep k, a, b⟩
/-- the words of the plans upon one plan -/
def UpW (z : Str) : Prop := z = "turn" ∨ z = "sieve" ∨ z = "upto" ∨ z = "cut" ∨ z = "left" ∨ z = "ahead" ∨ z = "windows" ∨ z = "marks" ∨ z = "wanted"
def spUpon (n : Nat) : Sp := fun vs H Q _ => ∃ (p r : Addr) (z : Str) (v : V), vs = [.ref p, .ref r, .str z, v] ∧ Pot H p ∧ Rm H r ∧ UpW z ∧ IsPair n H v ∧
  ∀ (v : V) (H' : Hp), Pot H' p → Rm H' r → But p r H H' → IsPair (n + 1) H' v → Q v H'
section
variable {P : Program} {w : World} {K : PySem.W.Frag} {mg : Str → Option Value} {base : Heap}

theorem made_list {R : Hp → V → Prop} (st : Stays R) {p r : Addr} {n : Nat} {i : Nat} {te : TE} {σ : L2.St} {H : Hp} {Q : VK} (hp : Pot H p) (hR : Rm H r) (n1 : n ≤ 1000)
    (hw : ∀ x : V, wipe ((wipe σ [i]).set i (some x)) [i] = wipe σ [i])
    (item : ∀ (x : V) (H2 : Hp) (Q2 : VK), Pot H2 p → Rm H2 r → (∀ v H', Pot H' p → Rm H' r → But p r H2 H' → R H' v → Q2 v H') → te ((wipe σ [i]).set i (some x)) H2 Q2)
    (fin : ∀ D H' vs, Pot H' p → Rm H' r → But p r H H' → H' D = some (.lst vs) → vs.length = n → (∀ v ∈ vs, R H' v) → D ≠ p → D ≠ r → Q (.ref D) H') :
    tLc (iRng1 (tCons (tC (.int (n : Int))) tNil)) (gName i) tYes te [i] σ H Q := by
  refine ⟨n, rfl, by omega, by omega, fun D nD => ?_⟩
  have nDp : D ≠ p := fun q => by
    obtain ⟨x, y, e, _⟩ := hp
    rw [q, e] at nD
    cases nD
  have nDr : D ≠ r := fun q => by
    obtain ⟨x, e⟩ := hR
    rw [q, e] at nD
    cases nD
  refine lc_range (lo := 0) (n := (n : Int).toNat) (fun j G => ∃ vs : List V, G D = some (.lst vs) ∧ vs.length = j ∧ Pot G p ∧ Rm G r ∧ But p r H G ∧ ∀ v ∈ vs, R G v)
    ⟨[], upd_same, rfl, Pot.same (Same.new nD) hp, Rm.same (Same.new nD) hR, But.of (Same.new nD), fun v hv => nomatch hv⟩ ?_ ?_
  · rintro j G hj ⟨vs, gD, hl, pG, rG, bG, all⟩
    refine ⟨hw _, ?_⟩
    show te _ G _
    refine item _ _ _ pG rG fun v G2 p2 r2 b2 h2 => ?_
    have gD2 := b2 _ _ gD nDp nDr
    have k3 : KeepT G (upd G2 D (.lst (vs ++ [v]))) := (But.keepT b2 pG rG).upd gD2
    have k4 : KeepT G2 (upd G2 D (.lst (vs ++ [v]))) := KeepT.upd (fun _ _ e => e) gD2
    refine ⟨vs, gD2, ?_, vs ++ [v], upd_same, by rw [List.length_append, hl]; rfl, ?_, ?_, ?_, ?_⟩
    · rw [hl, sizeLine_eq]
      omega
    · obtain ⟨x, y, e, h0⟩ := p2
      exact ⟨x, y, by rw [upd_ne nDp.symm]; exact e, h0⟩
    · obtain ⟨x, e⟩ := r2
      exact ⟨x, by rw [upd_ne nDr.symm]; exact e⟩
    · intro c o h n m
      have q := b2 _ _ (bG _ _ h n m) n m
      rw [upd_ne (ne_of_none h nD)]
      exact q
    · intro u hu
      rcases List.mem_append.mp hu with hu | hu
      · exact st _ _ _ k3 (all u hu)
      · rw [List.mem_singleton.mp hu]
        exact st _ _ _ k4 h2
  · rintro G ⟨vs, gD, hl, pG, rG, bG, all⟩
    exact fin D G vs pG rG bG gD (by omega) all nDp nDr
def IsSz (_ : Hp) (v : V) : Prop := ∃ i : Int, v = .int i ∧ 1 ≤ i ∧ i ≤ 20
abbrev nUpon : List Str := ["_law_pot_here", "_law_room", "_law_word", "_law_inner", "_law_one", "_law_wide", "_law_size", "_law_stride", "_law_k"]
abbrev pUpon : List Str := ["_law_pot_here", "_law_room", "_law_word", "_law_inner"]
theorem scUpon : FnScope nUpon pUpon (defScope sUpon) := ⟨rfl, rfl, rfl, by decide +kernel, rfl, by decide +kernel, by decide +kernel⟩
theorem ok_upon {f : Addr} {fd : FuncData} (F : Fun K "_law_upon" "_law_upon" sUpon f fd) (B : Blt mg) (n : Nat)
    (D : GD P w K mg base CX0 "_law_digit" ["_law_pot_here", "_law_many"] 1 spDigit) (DR : GD P w K mg base CX0 "_law_rule" nPR 4 (spMake IsRule)) (DT : GD P w K mg base CX0 "_law_test" nPRD 10 (spMake3 (2 : Nat) (IsTest 2))) : FnOk P w K mg base CX0 11 f fd pUpon (spUpon n) := by
  refine F.ok scUpon (fun vs H Q E h => ?_) (fun cdv A outer s H vs Q E hr h => ?_)
  · obtain ⟨p, r, z, v, rfl, _⟩ := h
    rfl
  · obtain ⟨p, r, z, v, rfl, hp, hR, hz, hv, fin⟩ := h
    have hr1 := hr.mono (show 1 ≤ 10 by decide)
    have hr4 := hr.mono (show 4 ≤ 10 by decide)
    refine ⟨_, pss_cons (ps_asg (pv 3) (pg_tup rfl (pgs_cons (pg_name (i := 4) scUpon.nd rfl (.inl rfl)) (pgs_cons (pg_name (i := 5) scUpon.nd rfl (.inl rfl)) pgs_nil))))
      (pss_cons (ps_if (pt_cmpR op_eq (pv 2) pe_str (nomark _))
        (pss_one (ps_ret (pe_tup (pa_cons (pe_tup (pa_cons (pv 2) (pa_cons (pe_gd DR hr4 rfl pass0 (pa_cons (pv 0) (pa_cons (pv 1) pa_nil))) (pa_cons (pv 4) pa_nil)))) (pa_cons (pv 5) pa_nil))))) pss_nil)
      (pss_cons (ps_if (pt_cmpR op_in_seq (pv 2) (pe_tup (pa_cons pe_str (pa_cons pe_str pa_nil))) rfl)
        (pss_one (ps_ret (pe_tup (pa_cons (pe_tup (pa_cons (pv 2) (pa_cons (pe_gd DT hr rfl pass0 (pa_cons (pv 0) (pa_cons (pv 1) (pa_cons pe_int pa_nil)))) (pa_cons (pv 4) pa_nil)))) (pa_cons (pv 5) pa_nil))))) pss_nil)
      (pss_cons (ps_if (pt_cmpR op_in_seq (pv 2) (pe_tup (pa_cons pe_str (pa_cons pe_str pa_nil))) rfl)
        (pss_one (ps_ret (pe_tup (pa_cons (pe_tup (pa_cons (pv 2) (pa_cons (pe_gd D hr1 rfl pass0 (pa_cons (pv 0) (pa_cons (pe_ix ix_list (pe_lst (pa_cons pe_int (pa_cons pe_int (pa_cons pe_int pa_nil)))) (pe_gd D hr1 rfl pass0 (pa_cons (pv 0) (pa_cons pe_int pa_nil))) (fun _ _ => rfl)) pa_nil))) (pa_cons (pv 4) pa_nil)))) (pa_cons (pv 5) pa_nil))))) pss_nil)
      (pss_cons (ps_if (pt_cmpR op_eq (pv 2) pe_str (nomark _))
        (pss_one (ps_ret (pe_tup (pa_cons (pe_tup (pa_cons (pv 2) (pa_cons (pe_op op_add pe_int (pe_gd D hr1 rfl pass0 (pa_cons (pv 0) (pa_cons (pe_ix ix_list (pe_lst (pa_cons pe_int (pa_cons (pe_op op_pow pe_int pe_int) pa_nil))) (pe_gd D hr1 rfl pass0 (pa_cons (pv 0) (pa_cons pe_int pa_nil))) (fun _ _ => rfl)) pa_nil)))) (pa_cons (pv 4) pa_nil)))) (pa_cons pe_int pa_nil))))) pss_nil)
      (pss_cons (ps_if (pt_cmpR op_eq (pv 2) pe_str (nomark _))
        (pss_one (ps_ret (pe_tup (pa_cons (pe_tup (pa_cons (pv 2) (pa_cons (pe_gd D hr1 rfl pass0 (pa_cons (pv 0) (pa_cons (pe_ix ix_list (pe_lst (pa_cons pe_int (pa_cons pe_int pa_nil))) (pe_gd D hr1 rfl pass0 (pa_cons (pv 0) (pa_cons pe_int pa_nil))) (fun _ _ => rfl)) pa_nil)))
            (pa_cons (pe_ix ix_list (pe_lst (pa_cons pe_str (pa_cons pe_str pa_nil))) (pe_gd D hr1 rfl pass0 (pa_cons (pv 0) (pa_cons pe_int pa_nil))) (fun _ _ => rfl)) (pa_cons (pv 4) pa_nil))))) (pa_cons (pv 5) pa_nil))))) pss_nil)
      (pss_cons (ps_if (pt_cmpR op_eq (pv 2) pe_str (nomark _))
        (pss_cons (ps_asg (pe_lc (own := [("_law_k", 8)]) (g := gName 8) (tt := tYes) (te := tOp (rI0 fun i j => .int (i + j)) (tC (.int 1)) (tCall spDigit [] E0 (tCons (tVar 0) (tCons (tOp (rIxL K) (tLst (tCons (tC (.int 1)) (tCons (tC (.int 3)) (tCons (tC (.int 20)) tNil)))) (tCall spDigit [] E0 (tCons (tVar 0) (tCons (tC (.int 3)) tNil)))) tNil)))) rfl scUpon.nd (pi_range1 rfl B.range (pa_cons pe_int pa_nil))
            (blkOk_by (N := nUpon) (sc := defScope sUpon) (by decide +kernel)) (fun _ _ _ _ _ => pg_name (i := 8) scUpon.nd rfl (Or.inl rfl)) (fun _ _ _ _ _ => pts_nil)
            (fun _ _ _ _ _ => pe_op op_add pe_int (pe_gd D hr1 rfl pass0 (pa_cons (pv 0) (pa_cons (pe_ix ix_list (pe_lst (pa_cons pe_int (pa_cons pe_int (pa_cons pe_int pa_nil)))) (pe_gd D hr1 rfl pass0 (pa_cons (pv 0) (pa_cons pe_int pa_nil))) (fun _ _ => rfl)) pa_nil)))))
            (pg_unl rfl (pgs_cons (pg_name (i := 6) scUpon.nd rfl (.inl rfl)) (pgs_cons (pg_name (i := 7) scUpon.nd rfl (.inl rfl)) pgs_nil))))
        (pss_cons (ps_set (i := 6) scUpon.nd rfl (.inl rfl) (pe_ifExp (pt_cmpR op_le (pe_op op_mul (pv 6) (pv 5)) pe_int (nomark _)) (pv 6) pe_int))
        (pss_one (ps_ret (pe_tup (pa_cons (pe_tup (pa_cons (pv 2) (pa_cons (pv 6) (pa_cons (pv 7) (pa_cons (pv 4) pa_nil))))) (pa_cons (pe_op op_mul (pv 6) (pv 5)) pa_nil))))))) pss_nil)
      (pss_one (ps_ret (pe_tup (pa_cons (pe_tup (pa_cons pe_str (pa_cons (pv 4) pa_nil))) (pa_cons (pv 5) pa_nil))))))))))), ?_⟩
    obtain ⟨b, u, wd, rfl, hb, hu, w1, w2⟩ := hv
    have npr := Pot.ne hp hR
    have done : ∀ (G : Hp) (pl : Pl) (vs : List V) (ds : List Lb.D) (x : Int), Pot G p → Rm G r → But p r H G → RepL G vs ds → pl.d = .tup ds → pl.Ok (n + 1) → 1 ≤ x → x ≤ 60 →
        ∀ t, G t = none → ∀ t2, L2.upd G t (.tup vs) t2 = none → Q (.ref t2) (L2.upd (L2.upd G t (.tup vs)) t2 (.tup [.ref t, .int x])) := by
      intro G pl vs ds x pG rG bG rp e ok a c t nt t2 nt2
      have s1 : Same G (L2.upd G t (.tup vs)) := Same.new nt
      have s2 : Same (L2.upd G t (.tup vs)) (L2.upd (L2.upd G t (.tup vs)) t2 (.tup [.ref t, .int x])) := Same.new nt2
      have s := s1.trans s2
      exact fin _ _ (Pot.same s pG) (Rm.same s rG) (bG.trans (But.of s)) ⟨t2, .ref t, x, rfl, upd_same, ⟨pl, ok, by rw [e]; exact Rep.tupI (s2 _ _ upd_same) (RepL.keep (Keeps.of s) ds rp)⟩, a, c⟩
    have lone : ∀ {G : Hp} {l : Addr}, Pot G p → G l = none → l ≠ p := fun {G l} ⟨x, y, e, _⟩ nl q => by
      rw [q, e] at nl
      cases nl
    refine ⟨_, rfl, b, _, rfl, SqT.of hb, rfl, _, _, rfl, _, _, rfl, rfl, ?_⟩
    rcases hz with rfl | rfl | rfl | rfl | rfl | rfl | rfl | rfl | rfl
    · refine ⟨_, rfl, rfl, _, rfl, eqT ⟨_, rfl, _, rfl, _, rfl, p, r, rfl, hp, hR, fun x H1 p1 r1 b1 ⟨cs, ok, rr⟩ => ⟨_, rfl, (by show 3 ≤ sizeLine; decide), fun t nt => ⟨_, rfl, (by show 2 ≤ sizeLine; decide), fun t2 nt2 => ?_⟩⟩⟩⟩
      obtain ⟨pl, po, pr⟩ := hu.keep (But.keepT b1 hp hR)
      exact done H1 (.turn cs pl) _ _ wd p1 r1 b1 (.three Rep.strI rr pr) (by simp only [Pl.d]) (by simp only [Pl.Ok]; exact ⟨ok, po⟩) w1 w2 t nt t2 nt2
    · refine ⟨_, rfl, rfl, _, rfl, eqF (by decide +kernel) (⟨_, rfl, (by show 2 ≤ sizeLine; decide), fun q1 m1 => ⟨q1, _, rfl, .inr (SqT.of upd_same), rfl, rfl, _, rfl, if_T (by decide +kernel) ?_⟩⟩)⟩
      have S : Same H (L2.upd H q1 (.tup [.str "sieve", .str "upto"])) := Same.new m1
      generalize (L2.upd H q1 (.tup [.str "sieve", .str "upto"])) = G at S ⊢
      have pG := Pot.same S hp
      have rG := Rm.same S hR
      have bG : But p r H G := But.of S
      have uG := hu.keep (KeepT.of S)
      refine ⟨_, rfl, _, rfl, _, rfl, p, r, rfl, pG, rG, fun x H1 p1 r1 b1 ⟨ls, l2, ok, rr⟩ => ⟨_, rfl, (by show 3 ≤ sizeLine; decide), fun t nt => ⟨_, rfl, (by show 2 ≤ sizeLine; decide), fun t2 nt2 => ?_⟩⟩⟩
      obtain ⟨pl, po, pr⟩ := uG.keep (But.keepT b1 pG rG)
      exact done H1 (.sieve ls pl) _ _ wd p1 r1 (bG.trans b1) (.three Rep.strI rr pr) (by simp only [Pl.d]) (by simp only [Pl.Ok]; exact ⟨l2, ok, po⟩) w1 w2 t nt t2 nt2
    · refine ⟨_, rfl, rfl, _, rfl, eqF (by decide +kernel) (⟨_, rfl, (by show 2 ≤ sizeLine; decide), fun q1 m1 => ⟨q1, _, rfl, .inr (SqT.of upd_same), rfl, rfl, _, rfl, if_T (by decide +kernel) ?_⟩⟩)⟩
      have S : Same H (L2.upd H q1 (.tup [.str "sieve", .str "upto"])) := Same.new m1
      generalize (L2.upd H q1 (.tup [.str "sieve", .str "upto"])) = G at S ⊢
      have pG := Pot.same S hp
      have rG := Rm.same S hR
      have bG : But p r H G := But.of S
      have uG := hu.keep (KeepT.of S)
      refine ⟨_, rfl, _, rfl, _, rfl, p, r, rfl, pG, rG, fun x H1 p1 r1 b1 ⟨ls, l2, ok, rr⟩ => ⟨_, rfl, (by show 3 ≤ sizeLine; decide), fun t nt => ⟨_, rfl, (by show 2 ≤ sizeLine; decide), fun t2 nt2 => ?_⟩⟩⟩
      obtain ⟨pl, po, pr⟩ := uG.keep (But.keepT b1 pG rG)
      exact done H1 (.upto ls pl) _ _ wd p1 r1 (bG.trans b1) (.three Rep.strI rr pr) (by simp only [Pl.d]) (by simp only [Pl.Ok]; exact ⟨l2, ok, po⟩) w1 w2 t nt t2 nt2
    · refine ⟨_, rfl, rfl, _, rfl, eqF (by decide +kernel) (⟨_, rfl, (by show 2 ≤ sizeLine; decide), fun q1 m1 => ⟨q1, _, rfl, .inr (SqT.of upd_same), rfl, rfl, _, rfl, if_F (by decide +kernel) (⟨_, rfl, (by show 2 ≤ sizeLine; decide), fun q2 m2 => ⟨q2, _, rfl, .inr (SqT.of upd_same), rfl, rfl, _, rfl, if_T (by decide +kernel) ?_⟩⟩)⟩⟩)⟩
      have S : Same H (L2.upd (L2.upd H q1 (.tup [.str "sieve", .str "upto"])) q2 (.tup [.str "cut", .str "left"])) := (Same.new m1).trans (Same.new m2)
      generalize (L2.upd (L2.upd H q1 (.tup [.str "sieve", .str "upto"])) q2 (.tup [.str "cut", .str "left"])) = G at S ⊢
      have pG := Pot.same S hp
      have rG := Rm.same S hR
      have bG : But p r H G := But.of S
      have uG := hu.keep (KeepT.of S)
      refine ⟨_, rfl, _, rfl, (by show 3 ≤ sizeLine; decide), fun l nl => ⟨_, rfl, p, 3, rfl, Pot.same (Same.new nl) pG, by decide, by decide, fun e H1 e0 e1 p1 b1 => ?_⟩⟩
      have hl1 : H1 l = some (.lst [.int 5, .int 5, .int 201]) := b1 _ _ upd_same (lone pG nl) (lone pG nl)
      have r1 := Rm.but npr b1 (Rm.same (Same.new nl) rG)
      have B1 : But p r G H1 := (But.of (Same.new nl)).trans b1.one
      have go : ∀ m : Int, 0 < m → m ≤ 201 → spDigit [.ref p, .int m] H1 (fun x H3 => tCons (tVar 4) tNil [some (.ref p), some (.ref r), some (.str "cut"), some (.ref b), some u, some (.int wd), none, none, none] H3 fun xs H4 => ((.str "cut" :: x :: xs : List V).length ≤ sizeLine ∧ ∀ t, H4 t = none → ∃ y, some (some (.int wd)) = some (some y) ∧ (([.ref t, y] : List V).length ≤ sizeLine ∧ ∀ t2, L2.upd H4 t (.tup (.str "cut" :: x :: xs)) t2 = none → Q (.ref t2) (L2.upd (L2.upd H4 t (.tup (.str "cut" :: x :: xs))) t2 (.tup [.ref t, y]))))) E0 := by
        intro m m0 m1
        refine ⟨p, m, rfl, p1, m0, by omega, fun x H3 x0 x1 p3 b3 => ⟨_, rfl, (by show 3 ≤ sizeLine; decide), fun t nt => ⟨_, rfl, (by show 2 ≤ sizeLine; decide), fun t2 nt2 => ?_⟩⟩⟩
        obtain ⟨pl, po, pr⟩ := uG.keep (But.keepT (B1.trans b3.one) pG rG)
        exact done H3 (.cut x pl) _ _ wd p3 (Rm.but npr b3 r1) ((bG.trans B1).trans b3.one) (.three Rep.strI Rep.intI pr) (by simp only [Pl.d]) (by simp only [Pl.Ok]; exact ⟨x0, by omega, po⟩) w1 w2 t nt t2 nt2
      have c3 : e = 0 ∨ e = 1 ∨ e = 2 := by omega
      rcases c3 with rfl | rfl | rfl
      · exact ⟨l, _, 0, _, rfl, rfl, SqL.of hl1, rfl, go 5 (by decide) (by decide)⟩
      · exact ⟨l, _, 1, _, rfl, rfl, SqL.of hl1, rfl, go 5 (by decide) (by decide)⟩
      · exact ⟨l, _, 2, _, rfl, rfl, SqL.of hl1, rfl, go 201 (by decide) (by decide)⟩
    · refine ⟨_, rfl, rfl, _, rfl, eqF (by decide +kernel) (⟨_, rfl, (by show 2 ≤ sizeLine; decide), fun q1 m1 => ⟨q1, _, rfl, .inr (SqT.of upd_same), rfl, rfl, _, rfl, if_F (by decide +kernel) (⟨_, rfl, (by show 2 ≤ sizeLine; decide), fun q2 m2 => ⟨q2, _, rfl, .inr (SqT.of upd_same), rfl, rfl, _, rfl, if_T (by decide +kernel) ?_⟩⟩)⟩⟩)⟩
      have S : Same H (L2.upd (L2.upd H q1 (.tup [.str "sieve", .str "upto"])) q2 (.tup [.str "cut", .str "left"])) := (Same.new m1).trans (Same.new m2)
      generalize (L2.upd (L2.upd H q1 (.tup [.str "sieve", .str "upto"])) q2 (.tup [.str "cut", .str "left"])) = G at S ⊢
      have pG := Pot.same S hp
      have rG := Rm.same S hR
      have bG : But p r H G := But.of S
      have uG := hu.keep (KeepT.of S)
      refine ⟨_, rfl, _, rfl, (by show 3 ≤ sizeLine; decide), fun l nl => ⟨_, rfl, p, 3, rfl, Pot.same (Same.new nl) pG, by decide, by decide, fun e H1 e0 e1 p1 b1 => ?_⟩⟩
      have hl1 : H1 l = some (.lst [.int 5, .int 5, .int 201]) := b1 _ _ upd_same (lone pG nl) (lone pG nl)
      have r1 := Rm.but npr b1 (Rm.same (Same.new nl) rG)
      have B1 : But p r G H1 := (But.of (Same.new nl)).trans b1.one
      have go : ∀ m : Int, 0 < m → m ≤ 201 → spDigit [.ref p, .int m] H1 (fun x H3 => tCons (tVar 4) tNil [some (.ref p), some (.ref r), some (.str "left"), some (.ref b), some u, some (.int wd), none, none, none] H3 fun xs H4 => ((.str "left" :: x :: xs : List V).length ≤ sizeLine ∧ ∀ t, H4 t = none → ∃ y, some (some (.int wd)) = some (some y) ∧ (([.ref t, y] : List V).length ≤ sizeLine ∧ ∀ t2, L2.upd H4 t (.tup (.str "left" :: x :: xs)) t2 = none → Q (.ref t2) (L2.upd (L2.upd H4 t (.tup (.str "left" :: x :: xs))) t2 (.tup [.ref t, y]))))) E0 := by
        intro m m0 m1
        refine ⟨p, m, rfl, p1, m0, by omega, fun x H3 x0 x1 p3 b3 => ⟨_, rfl, (by show 3 ≤ sizeLine; decide), fun t nt => ⟨_, rfl, (by show 2 ≤ sizeLine; decide), fun t2 nt2 => ?_⟩⟩⟩
        obtain ⟨pl, po, pr⟩ := uG.keep (But.keepT (B1.trans b3.one) pG rG)
        exact done H3 (.left x pl) _ _ wd p3 (Rm.but npr b3 r1) ((bG.trans B1).trans b3.one) (.three Rep.strI Rep.intI pr) (by simp only [Pl.d]) (by simp only [Pl.Ok]; exact ⟨x0, by omega, po⟩) w1 w2 t nt t2 nt2
      have c3 : e = 0 ∨ e = 1 ∨ e = 2 := by omega
      rcases c3 with rfl | rfl | rfl
      · exact ⟨l, _, 0, _, rfl, rfl, SqL.of hl1, rfl, go 5 (by decide) (by decide)⟩
      · exact ⟨l, _, 1, _, rfl, rfl, SqL.of hl1, rfl, go 5 (by decide) (by decide)⟩
      · exact ⟨l, _, 2, _, rfl, rfl, SqL.of hl1, rfl, go 201 (by decide) (by decide)⟩
    · refine ⟨_, rfl, rfl, _, rfl, eqF (by decide +kernel) (⟨_, rfl, (by show 2 ≤ sizeLine; decide), fun q1 m1 => ⟨q1, _, rfl, .inr (SqT.of upd_same), rfl, rfl, _, rfl, if_F (by decide +kernel) (⟨_, rfl, (by show 2 ≤ sizeLine; decide), fun q2 m2 => ⟨q2, _, rfl, .inr (SqT.of upd_same), rfl, rfl, _, rfl, if_F (by decide +kernel) (⟨_, rfl, rfl, _, rfl, eqF (by decide +kernel) (⟨_, rfl, rfl, _, rfl, eqF (by decide +kernel) (⟨_, rfl, rfl, _, rfl, eqF (by decide +kernel) ?_⟩)⟩)⟩)⟩⟩)⟩⟩)⟩
      have S : Same H (L2.upd (L2.upd H q1 (.tup [.str "sieve", .str "upto"])) q2 (.tup [.str "cut", .str "left"])) := (Same.new m1).trans (Same.new m2)
      generalize (L2.upd (L2.upd H q1 (.tup [.str "sieve", .str "upto"])) q2 (.tup [.str "cut", .str "left"])) = G at S ⊢
      have pG := Pot.same S hp
      have rG := Rm.same S hR
      have bG : But p r H G := But.of S
      have uG := hu.keep (KeepT.of S)
      refine ⟨_, rfl, (by show 2 ≤ sizeLine; decide), fun t nt => ⟨_, rfl, (by show 2 ≤ sizeLine; decide), fun t2 nt2 => ?_⟩⟩
      obtain ⟨pl, po, pr⟩ := uG
      exact done G (.ahead pl) _ _ wd pG rG bG (.two Rep.strI pr) (by simp only [Pl.d]) (by simp only [Pl.Ok]; exact po) w1 w2 t nt t2 nt2
    · refine ⟨_, rfl, rfl, _, rfl, eqF (by decide +kernel) (⟨_, rfl, (by show 2 ≤ sizeLine; decide), fun q1 m1 => ⟨q1, _, rfl, .inr (SqT.of upd_same), rfl, rfl, _, rfl, if_F (by decide +kernel) (⟨_, rfl, (by show 2 ≤ sizeLine; decide), fun q2 m2 => ⟨q2, _, rfl, .inr (SqT.of upd_same), rfl, rfl, _, rfl, if_F (by decide +kernel) (⟨_, rfl, rfl, _, rfl, eqF (by decide +kernel) (⟨_, rfl, rfl, _, rfl, eqF (by decide +kernel) (⟨_, rfl, rfl, _, rfl, eqT ?_⟩)⟩)⟩)⟩⟩)⟩⟩)⟩
      have S : Same H (L2.upd (L2.upd H q1 (.tup [.str "sieve", .str "upto"])) q2 (.tup [.str "cut", .str "left"])) := (Same.new m1).trans (Same.new m2)
      generalize (L2.upd (L2.upd H q1 (.tup [.str "sieve", .str "upto"])) q2 (.tup [.str "cut", .str "left"])) = G at S ⊢
      have pG := Pot.same S hp
      have rG := Rm.same S hR
      have bG : But p r H G := But.of S
      have uG := hu.keep (KeepT.of S)
      show tAsg _ _ _ _ _
      show tLc _ _ _ _ _ _ _ _
      show tLc _ _ _ _ [8] _ _ _
      show tLc (iRng1 (tCons (tC (V.int ((2 : Nat) : Int))) tNil)) _ _ _ _ _ _ _
      show tLc _ _ _ _ _ [some (.ref p), some (.ref r), some (.str "windows"), some (.ref b), some u, some (.int wd), none, none, none] _ _
      refine made_list (R := IsSz) (n := 2) (i := 8) (fun _ _ _ _ h => h) pG rG (by decide) (fun _ => rfl) ?_ ?_
      · intro x G2 Q2 pG2 rG2 kk
        refine ⟨_, rfl, (by show 3 ≤ sizeLine; decide), fun l nl => ⟨_, rfl, p, 3, rfl, Pot.same (Same.new nl) pG2, by decide, by decide, fun e H1 e0 e1 p1 b1 => ?_⟩⟩
        have hl1 : H1 l = some (.lst [.int 1, .int 3, .int 20]) := b1 _ _ upd_same (lone pG2 nl) (lone pG2 nl)
        have r1 := Rm.but npr b1 (Rm.same (Same.new nl) rG2)
        have B1 : But p r G2 H1 := (But.of (Same.new nl)).trans b1.one
        have go : ∀ m : Int, 0 < m → m ≤ 20 → spDigit [.ref p, .int m] H1 (fun x H3 => rI0 (fun i j => V.int (i + j)) (.int 1) x H3 Q2) E0 := fun m m0 m1 =>
          ⟨p, m, rfl, p1, m0, by omega, fun x H3 x0 x1 p3 b3 => ⟨_, _, rfl, rfl, kk _ _ p3 (Rm.but npr b3 r1) (B1.trans b3.one) ⟨1 + x, rfl, by omega, by omega⟩⟩⟩
        have c3 : e = 0 ∨ e = 1 ∨ e = 2 := by omega
        rcases c3 with rfl | rfl | rfl
        · exact ⟨l, _, 0, _, rfl, rfl, SqL.of hl1, rfl, go 1 (by decide) (by decide)⟩
        · exact ⟨l, _, 1, _, rfl, rfl, SqL.of hl1, rfl, go 3 (by decide) (by decide)⟩
        · exact ⟨l, _, 2, _, rfl, rfl, SqL.of hl1, rfl, go 20 (by decide) (by decide)⟩
      intro L H1 vs p1 r1 b1 hL lvs all nLp nLr
      obtain ⟨x1, x2, rfl⟩ : ∃ x1 x2, vs = [x1, x2] := by
        match vs, lvs with
        | [x1, x2], _ => exact ⟨x1, x2, rfl⟩
      obtain ⟨sz, rfl, s0, s1⟩ := all x1 (.head _)
      obtain ⟨st, rfl, t0, t1⟩ := all x2 (.tail _ (.head _))
      have uH := uG.keep (But.keepT b1 pG rG)
      have fine : ∀ y : Int, 1 ≤ y → y ≤ 20 → y * wd ≤ 60 → ∀ t, H1 t = none → ∀ t2, L2.upd H1 t (.tup [.str "windows", .int y, .int st, u]) t2 = none → Q (.ref t2) (L2.upd (L2.upd H1 t (.tup [.str "windows", .int y, .int st, u])) t2 (.tup [.ref t, .int (y * wd)])) := by
        intro y y0 y1 yw t nt t2 nt2
        obtain ⟨pl, po, pr⟩ := uH
        have pos : 1 ≤ y * wd := by
          have := Int.mul_le_mul y0 w1 (by decide) (by omega)
          simpa using this
        exact done H1 (.windows y st pl) _ _ (y * wd) p1 r1 (bG.trans b1) (.cons Rep.strI (.three Rep.intI Rep.intI pr)) (by simp only [Pl.d]) (by simp only [Pl.Ok]; exact ⟨⟨y0, y1⟩, ⟨t0, t1⟩, po⟩) pos yw t nt t2 nt2
      refine ⟨L, _, rfl, SqL.of hL, rfl, _, _, rfl, _, _, rfl, rfl, ?_⟩
      refine ⟨_, rfl, _, rfl, _, _, rfl, rfl, .inl ⟨by omega, by omega⟩, _, _, rfl, rfl, _, rfl, ite2 (fun h6 => ?_) (fun h6 => ?_)⟩
      · have h6 : sz * wd ≤ 60 := of_decide_eq_true h6
        exact ⟨_, rfl, _, rfl, _, rfl, _, rfl, _, rfl, (by show 4 ≤ sizeLine; decide), fun t nt => ⟨_, rfl, _, rfl, _, _, rfl, rfl, .inl ⟨by omega, by omega⟩, (by show 2 ≤ sizeLine; decide), fun t2 nt2 => fine sz s0 s1 h6 t nt t2 nt2⟩⟩
      · exact ⟨_, rfl, _, rfl, _, rfl, _, rfl, (by show 4 ≤ sizeLine; decide), fun t nt => ⟨_, rfl, _, rfl, _, _, rfl, rfl, .inl ⟨by omega, by omega⟩, (by show 2 ≤ sizeLine; decide), fun t2 nt2 => fine 1 (by decide) (by decide) (by omega) t nt t2 nt2⟩⟩
    · refine ⟨_, rfl, rfl, _, rfl, eqF (by decide +kernel) (⟨_, rfl, (by show 2 ≤ sizeLine; decide), fun q1 m1 => ⟨q1, _, rfl, .inr (SqT.of upd_same), rfl, rfl, _, rfl, if_F (by decide +kernel) (⟨_, rfl, (by show 2 ≤ sizeLine; decide), fun q2 m2 => ⟨q2, _, rfl, .inr (SqT.of upd_same), rfl, rfl, _, rfl, if_F (by decide +kernel) (⟨_, rfl, rfl, _, rfl, eqT ?_⟩)⟩⟩)⟩⟩)⟩
      have S : Same H (L2.upd (L2.upd H q1 (.tup [.str "sieve", .str "upto"])) q2 (.tup [.str "cut", .str "left"])) := (Same.new m1).trans (Same.new m2)
      generalize (L2.upd (L2.upd H q1 (.tup [.str "sieve", .str "upto"])) q2 (.tup [.str "cut", .str "left"])) = G at S ⊢
      have pG := Pot.same S hp
      have rG := Rm.same S hR
      have bG : But p r H G := But.of S
      have uG := hu.keep (KeepT.of S)
      refine ⟨_, rfl, _, rfl, _, _, rfl, rfl, ⟨by decide, by decide, by decide⟩, (by show 2 ≤ sizeLine; decide), fun l nl => ⟨_, rfl, p, 2, rfl, Pot.same (Same.new nl) pG, by decide, by decide, fun e H1 e0 e1 p1 b1 => ?_⟩⟩
      have hl1 : H1 l = some (.lst [.int 3, .int (10 ^ (29 : Int).toNat)]) := b1 _ _ upd_same (lone pG nl) (lone pG nl)
      have r1 := Rm.but npr b1 (Rm.same (Same.new nl) rG)
      have B1 : But p r G H1 := (But.of (Same.new nl)).trans b1.one
      have go : ∀ m : Int, 0 < m → m ≤ 10 ^ 29 → spDigit [.ref p, .int m] H1 (fun x H3 => rI0 (fun i j => V.int (i + j)) (.int 1) x H3 fun x H3 => tCons (tVar 4) tNil [some (.ref p), some (.ref r), some (.str "marks"), some (.ref b), some u, some (.int wd), none, none, none] H3 fun xs H4 => ((.str "marks" :: x :: xs : List V).length ≤ sizeLine ∧ ∀ t, H4 t = none → (([.ref t, .int 1] : List V).length ≤ sizeLine ∧ ∀ t2, L2.upd H4 t (.tup (.str "marks" :: x :: xs)) t2 = none → Q (.ref t2) (L2.upd (L2.upd H4 t (.tup (.str "marks" :: x :: xs))) t2 (.tup [.ref t, .int 1]))))) E0 := by
        intro m m0 m1
        refine ⟨p, m, rfl, p1, m0, by omega, fun x H3 x0 x1 p3 b3 => ⟨_, _, rfl, rfl, _, rfl, (by show 3 ≤ sizeLine; decide), fun t nt => ⟨(by show 2 ≤ sizeLine; decide), fun t2 nt2 => ?_⟩⟩⟩
        obtain ⟨pl, po, pr⟩ := uG.keep (But.keepT (B1.trans b3.one) pG rG)
        exact done H3 (.marks (1 + x) pl) _ _ 1 p3 (Rm.but npr b3 r1) ((bG.trans B1).trans b3.one) (.three Rep.strI Rep.intI pr) (by simp only [Pl.d]) (by simp only [Pl.Ok]; exact ⟨by omega, by unfold BIG; omega, po⟩) (by decide) (by decide) t nt t2 nt2
      have c3 : e = 0 ∨ e = 1 := by omega
      rcases c3 with rfl | rfl
      · exact ⟨l, _, 0, _, rfl, rfl, SqL.of hl1, rfl, go 3 (by decide) (by decide)⟩
      · exact ⟨l, _, 1, _, rfl, rfl, SqL.of hl1, rfl, go (10 ^ 29) (by decide) (by decide)⟩
    · refine ⟨_, rfl, rfl, _, rfl, eqF (by decide +kernel) (⟨_, rfl, (by show 2 ≤ sizeLine; decide), fun q1 m1 => ⟨q1, _, rfl, .inr (SqT.of upd_same), rfl, rfl, _, rfl, if_F (by decide +kernel) (⟨_, rfl, (by show 2 ≤ sizeLine; decide), fun q2 m2 => ⟨q2, _, rfl, .inr (SqT.of upd_same), rfl, rfl, _, rfl, if_F (by decide +kernel) (⟨_, rfl, rfl, _, rfl, eqF (by decide +kernel) (⟨_, rfl, rfl, _, rfl, eqT ?_⟩)⟩)⟩⟩)⟩⟩)⟩
      have S : Same H (L2.upd (L2.upd H q1 (.tup [.str "sieve", .str "upto"])) q2 (.tup [.str "cut", .str "left"])) := (Same.new m1).trans (Same.new m2)
      generalize (L2.upd (L2.upd H q1 (.tup [.str "sieve", .str "upto"])) q2 (.tup [.str "cut", .str "left"])) = G at S ⊢
      have pG := Pot.same S hp
      have rG := Rm.same S hR
      have bG : But p r H G := But.of S
      have uG := hu.keep (KeepT.of S)
      have rest : ∀ (x : Int) (H3 : Hp), 0 ≤ x → x ≤ 200 → Pot H3 p → Rm H3 r → But p r G H3 → tOp (rIxL K) (tLst (tCons (tC (.str "few")) (tCons (tC (.str "toofew")) tNil))) (tCall spDigit [] E0 (tCons (tVar 0) (tCons (tC (.int 2)) tNil))) [some (.ref p), some (.ref r), some (.str "wanted"), some (.ref b), some u, some (.int wd), none, none, none] H3 (fun y H4 => tCons (tVar 4) tNil [some (.ref p), some (.ref r), some (.str "wanted"), some (.ref b), some u, some (.int wd), none, none, none] H4 fun xs H5 => ((.str "wanted" :: .int x :: y :: xs : List V).length ≤ sizeLine ∧ ∀ t, H5 t = none → ∃ yy, some (some (.int wd)) = some (some yy) ∧ (([.ref t, yy] : List V).length ≤ sizeLine ∧ ∀ t2, L2.upd H5 t (.tup (.str "wanted" :: .int x :: y :: xs)) t2 = none → Q (.ref t2) (L2.upd (L2.upd H5 t (.tup (.str "wanted" :: .int x :: y :: xs))) t2 (.tup [.ref t, yy]))))) := by
        intro x H3 x0 x1 p3 r3 B3
        refine ⟨(by show 2 ≤ sizeLine; decide), fun l nl => ⟨_, rfl, p, 2, rfl, Pot.same (Same.new nl) p3, by decide, by decide, fun e H4 e0 e1 p4 b4 => ?_⟩⟩
        have hl4 : H4 l = some (.lst [.str "few", .str "toofew"]) := b4 _ _ upd_same (lone p3 nl) (lone p3 nl)
        have r4 := Rm.but npr b4 (Rm.same (Same.new nl) r3)
        have B4 : But p r G H4 := (B3.trans (But.of (Same.new nl))).trans b4.one
        have last : ∀ z : Str, (z = "few" ∨ z = "toofew") → ∃ y, some (some u) = some (some y) ∧ ((([.str "wanted", .int x, .str z, y] : List V)).length ≤ sizeLine ∧ ∀ t, H4 t = none → ∃ yy, some (some (.int wd)) = some (some yy) ∧ (([.ref t, yy] : List V).length ≤ sizeLine ∧ ∀ t2, L2.upd H4 t (.tup [.str "wanted", .int x, .str z, y]) t2 = none → Q (.ref t2) (L2.upd (L2.upd H4 t (.tup [.str "wanted", .int x, .str z, y])) t2 (.tup [.ref t, yy])))) := by
          intro z hz
          refine ⟨u, rfl, (by show 4 ≤ sizeLine; decide), fun t nt => ⟨_, rfl, (by show 2 ≤ sizeLine; decide), fun t2 nt2 => ?_⟩⟩
          obtain ⟨pl, po, pr⟩ := uG.keep (But.keepT B4 pG rG)
          exact done H4 (.wanted x z pl) _ _ wd p4 r4 (bG.trans B4) (.cons Rep.strI (.three Rep.intI Rep.strI pr)) (by simp only [Pl.d]) (by simp only [Pl.Ok]; exact ⟨x0, x1, hz, po⟩) w1 w2 t nt t2 nt2
        have c3 : e = 0 ∨ e = 1 := by omega
        rcases c3 with rfl | rfl
        · exact ⟨l, _, 0, _, rfl, rfl, SqL.of hl4, rfl, last _ (.inl rfl)⟩
        · exact ⟨l, _, 1, _, rfl, rfl, SqL.of hl4, rfl, last _ (.inr rfl)⟩
      refine ⟨_, rfl, _, rfl, (by show 2 ≤ sizeLine; decide), fun l nl => ⟨_, rfl, p, 2, rfl, Pot.same (Same.new nl) pG, by decide, by decide, fun e H1 e0 e1 p1 b1 => ?_⟩⟩
      have hl1 : H1 l = some (.lst [.int 6, .int 201]) := b1 _ _ upd_same (lone pG nl) (lone pG nl)
      have r1 := Rm.but npr b1 (Rm.same (Same.new nl) rG)
      have B1 : But p r G H1 := (But.of (Same.new nl)).trans b1.one
      have c3 : e = 0 ∨ e = 1 := by omega
      rcases c3 with rfl | rfl
      · exact ⟨l, _, 0, _, rfl, rfl, SqL.of hl1, rfl, p, 6, rfl, p1, by decide, by decide, fun x H3 x0 x1 p3 b3 => rest x H3 x0 (by omega) p3 (Rm.but npr b3 r1) (B1.trans b3.one)⟩
      · exact ⟨l, _, 1, _, rfl, rfl, SqL.of hl1, rfl, p, 201, rfl, p1, by decide, by decide, fun x H3 x0 x1 p3 b3 => rest x H3 x0 (by omega) p3 (Rm.but npr b3 r1) (B1.trans b3.one)⟩
end
end K82


set_option Elab.async false
set_option linter.all false
set_option maxRecDepth 100000
set_option maxHeartbeats 4000000
namespace K82
open PySem PySem.Spec PyProof.Rows L2 Lb
abbrev sGrove : Stmt := top 26
def spGrove (n : Nat) : Sp := spMake3 (n : Nat) (IsPair n)
def lessSp (sp : Nat → Sp) : Nat → Sp
  | 0 => fun _ _ _ _ => False
  | n + 1 => sp n
section
variable {P : Program} {w : World} {K : PySem.W.Frag} {mg : Str → Option Value} {base : Heap}


def grW : List Str := ["turn", "turn", "turn", "sieve", "sieve", "upto", "upto", "cut", "cut", "left", "left", "ahead", "windows", "marks", "wanted", "chain", "chain", "chain", "beside", "beside", "spare", "leaf"]
theorem grW_all : ∀ z ∈ grW, z = "leaf" ∨ z = "spare" ∨ z = "chain" ∨ z = "beside" ∨ UpW z := by
  unfold UpW
  have h : (grW.all fun z => decide (z = "leaf" ∨ z = "spare" ∨ z = "chain" ∨ z = "beside" ∨ z = "turn" ∨ z = "sieve" ∨ z = "upto" ∨ z = "cut" ∨ z = "left" ∨ z = "ahead" ∨ z = "windows" ∨ z = "marks" ∨ z = "wanted")) = true := by decide +kernel
  intro z hz
  exact of_decide_eq_true (List.all_eq_true.mp h z hz)
theorem upW_no {z : Str} (h : UpW z) : z ≠ "spare" ∧ inV (V.str z) [.str "chain", .str "beside"] = false := by
  rcases h with rfl | rfl | rfl | rfl | rfl | rfl | rfl | rfl | rfl <;> decide +kernel
theorem IsPl.up {n : Nat} {H : Hp} {v : V} : IsPl n H v → IsPl (n + 1) H v
  | ⟨p, o, r⟩ => ⟨p, Pl.Ok.up p o, r⟩
theorem IsPl.ups {n : Nat} {H : Hp} {v : V} (m : Nat) (h : IsPl n H v) : IsPl (n + m) H v := by
  induction m with
  | zero => exact h
  | succ m ih => exact IsPl.up ih
theorem pairs_of {n : Nat} {H : Hp} : ∀ {vs : List V}, (∀ v ∈ vs, IsPair n H v) → ∃ (us : List V) (ws : List Int), us.length = vs.length ∧ ws.length = vs.length ∧ (∀ u ∈ us, IsPl n H u) ∧ (∀ x ∈ ws, 1 ≤ x ∧ x ≤ 60) ∧
    ∀ (i : Nat) (x : V), vs[i]? = some x → ∃ (t : Addr) (u : V) (wd : Int), x = .ref t ∧ H t = some (.tup [u, .int wd]) ∧ us[i]? = some u ∧ ws[i]? = some wd
  | [], _ => ⟨[], [], rfl, rfl, fun c h => (nomatch h), fun c h => (nomatch h), fun i x h => by simp at h⟩
  | v :: vs, h => by
    obtain ⟨t, u, wd, rfl, ht, hu, a, b⟩ := h v (.head _)
    obtain ⟨us, ws, l1, l2, o1, o2, at_⟩ := pairs_of fun u hu => h u (.tail _ hu)
    refine ⟨u :: us, wd :: ws, by rw [List.length_cons, List.length_cons, l1], by rw [List.length_cons, List.length_cons, l2], fun x hx => ?_, fun x hx => ?_, fun i x hx => ?_⟩
    · rcases List.mem_cons.mp hx with rfl | hx
      · exact hu
      · exact o1 x hx
    · rcases List.mem_cons.mp hx with rfl | hx
      · exact ⟨a, b⟩
      · exact o2 x hx
    · cases i with
      | zero =>
        simp at hx
        subst hx
        exact ⟨t, u, wd, rfl, ht, rfl, rfl⟩
      | succ i => simpa using at_ i x (by simpa using hx)
theorem made_listV {R : Hp → V → Prop} (st : Stays R) {p r : Addr} {n : Nat} {i j : Nat} {te : TE} {σ : L2.St} {H : Hp} {Q : VK} (hσ : σ[j]? = some (some (.int (n : Int)))) (hp : Pot H p) (hR : Rm H r) (n1 : n ≤ 1000)
    (hw : ∀ x : V, wipe ((wipe σ [i]).set i (some x)) [i] = wipe σ [i])
    (item : ∀ (x : V) (H2 : Hp) (Q2 : VK), Pot H2 p → Rm H2 r → (∀ v H', Pot H' p → Rm H' r → But p r H2 H' → R H' v → Q2 v H') → te ((wipe σ [i]).set i (some x)) H2 Q2)
    (fin : ∀ D H' vs, Pot H' p → Rm H' r → But p r H H' → H' D = some (.lst vs) → vs.length = n → (∀ v ∈ vs, R H' v) → D ≠ p → D ≠ r → Q (.ref D) H') :
    tLc (iRng1 (tCons (tVar j) tNil)) (gName i) tYes te [i] σ H Q :=
  ⟨.int n, hσ, made_list (σ := σ) (Q := Q) st hp hR n1 hw item fin⟩
theorem sum_pos : ∀ {ws : List Int}, (∀ x ∈ ws, 1 ≤ x ∧ x ≤ 60) → (ws.length : Int) ≤ ws.sum ∧ ws.sum ≤ 60 * ws.length
  | [], _ => by simp
  | x :: ws, h => by
    have a := h x (.head _)
    have b := sum_pos (ws := ws) fun y hy => h y (.tail _ hy)
    simp only [List.sum_cons, List.length_cons]
    omega
/-- [one[j] for one in some] -/
theorem lc_ix {L : Addr} {vs ys : List V} {j : Int} {σ : L2.St} {H : Hp} {Q : VK} (hσ : σ[8]? = some (some (V.ref L))) (h10 : σ.length = 11) (hL : H L = some (.lst vs)) (ly : ys.length = vs.length) (sm : vs.length ≤ 1000)
    (item : ∀ (i : Nat) (x : V), vs[i]? = some x → ∃ (t : Addr) (xs : List V) (y : V), x = .ref t ∧ H t = some (.tup xs) ∧ atI xs j = some y ∧ ys[i]? = some y)
    (fin : ∀ D H', Same H H' → H' D = some (.lst ys) → Q (.ref D) H') : tLc (iList K (tVar 8)) (gName 5) tYes (tOp (rIxT K) (tVar 5) (tC (.int j))) [5] σ H Q := by
  refine ⟨_, hσ, L, rfl, ⟨_, SqL.of hL⟩, fun D nD => ?_⟩
  refine lc_list (K := K) (a := L) (xs := vs) (fun i G => G D = some (.lst (ys.take i)) ∧ Same H G) ⟨by rw [List.take_zero]; exact upd_same, Same.new nD⟩ (fun i G _ ⟨_, sG⟩ => SqL.of (sG _ _ hL)) ?_ ?_
  · rintro i x G hx ⟨gD, sG⟩
    obtain ⟨t, xs, y, rfl, ht, hy, he⟩ := item i x hx
    have hi : i < vs.length := (List.getElem?_eq_some_iff.mp hx).1
    have l5 : (wipe σ [5]).length = 11 := by rw [wipe_length]; exact h10
    refine ⟨?_, ?_⟩
    · show ((σ.set 5 none).set 5 (some (V.ref t))).set 5 none = σ.set 5 none
      rw [List.set_set, List.set_set]
    · refine ⟨_, ?_, t, xs, j, y, rfl, rfl, SqT.of (sG _ _ ht), hy, ys.take i, gD, by rw [List.length_take, sizeLine_eq]; omega, ?_, ?_⟩
      · rw [List.getElem?_set_self (by omega)]
      · rw [upd_same]
        have hi2 : i < ys.length := by omega
        have e2 : ys[i] = y := by
          rw [List.getElem?_eq_getElem hi2] at he
          exact Option.some.inj he
        rw [List.take_succ_eq_append_getElem hi2, e2]
      · intro c o e
        have n : c ≠ D := fun q => by
          rw [q, nD] at e
          cases e
        rw [upd_ne n]
        exact sG _ _ e
  · rintro G ⟨gD, sG⟩
    rw [← ly, List.take_length] at gD
    exact fin D G sG gD
abbrev nGrove : List Str := ["_law_pot_here", "_law_room", "_law_deep", "_law_words", "_law_word", "_law_one", "_law_other", "_law_many", "_law_some", "_law_wide", "_law_k"]
theorem scGrove : FnScope nGrove nPRD (defScope sGrove) := ⟨rfl, rfl, rfl, by decide +kernel, rfl, by decide +kernel, by decide +kernel⟩
theorem ok_grove {f : Addr} {fd : FuncData} (F : Fun K "_law_grove" "_law_grove" sGrove f fd) (B : Blt mg) (n : Nat)
    (D : GD P w K mg base CX0 "_law_digit" ["_law_pot_here", "_law_many"] 1 spDigit) (DL : GD P w K mg base CX0 "_law_leaf" nPR 3 (spMake (IsPl 0))) (DU : GD P w K mg base CX0 "_law_upon" pUpon 11 (spUpon (n - 1)))
    (DG : GD P w K mg base CX0 "_law_grove" nPRD (11 + n) (lessSp spGrove n)) : FnOk P w K mg base CX0 (12 + n) f fd nPRD (spGrove n) := by
  have e5 : 12 + n = (11 + n) + 1 := by omega
  rw [e5]
  refine F.ok scGrove (fun vs H Q E h => ?_) (fun cdv A outer s H vs Q E hr h => ?_)
  · obtain ⟨p, r, rfl, _⟩ := h
    rfl
  · obtain ⟨p, r, rfl, hp, hR, fin⟩ := h
    have hu := hu_of hr
    have hr1 := hr.mono (show 1 ≤ 11 + n by omega)
    have hr3 := hr.mono (show 3 ≤ 11 + n by omega)
    have hr11 := hr.mono (show 11 ≤ 11 + n by omega)
    refine ⟨_, pss_cons (ps_set (i := 3) scGrove.nd rfl (.inl rfl) (pe_lst (pa_cons pe_str (pa_cons pe_str (pa_cons pe_str (pa_cons pe_str (pa_cons pe_str (pa_cons pe_str (pa_cons pe_str (pa_cons pe_str (pa_cons pe_str (pa_cons pe_str (pa_cons pe_str (pa_cons pe_str (pa_cons pe_str pa_nil)))))))))))))))
      (pss_cons (ps_set (i := 3) scGrove.nd rfl (.inl rfl) (pe_op op_cat (pv 3) (pe_lst (pa_cons pe_str (pa_cons pe_str (pa_cons pe_str (pa_cons pe_str (pa_cons pe_str (pa_cons pe_str (pa_cons pe_str (pa_cons pe_str (pa_cons pe_str pa_nil))))))))))))
      (pss_cons (ps_set (i := 4) scGrove.nd rfl (.inl rfl) (pe_ix ix_list (pv 3) (pe_gd D hr1 rfl pass0 (pa_cons (pv 0) (pa_cons pe_int pa_nil))) (fun _ _ => rfl)))
      (pss_cons (ps_if (PW.pt (pw_or (pt_cmpR op_eq (pv 2) pe_int (nomark _)) (pw_or (pt_cmpR op_lt (pe_dget hu (pv 1) pe_str (fun _ _ => rfl)) pe_int (nomark _)) (pw_or1 (pt_cmpR op_eq (pv 4) pe_str (nomark _))))))
        (pss_one (ps_ret (pe_tup (pa_cons (pe_gd DL hr3 rfl pass0 (pa_cons (pv 0) (pa_cons (pv 1) pa_nil))) (pa_cons pe_int pa_nil))))) pss_nil)
      (pss_cons (ps_dput hu (pv 1) pe_str (pe_op op_sub (pe_dget hu (pv 1) pe_str (fun _ _ => rfl)) pe_int) rfl)
      (pss_cons (ps_if (pt_cmpR op_eq (pv 4) pe_str (nomark _))
        (pss_cons (ps_asg (pe_lc (own := [("_law_k", 10)]) (g := gName 10) (tt := tYes) (te := tCall (lessSp spGrove n) [] E0 (tCons (tVar 0) (tCons (tVar 1) (tCons (tOp (rI0 fun i j => .int (i - j)) (tVar 2) (tC (.int 1))) tNil)))) rfl scGrove.nd (pi_range1 rfl B.range (pa_cons pe_int pa_nil))
            (blkOk_by (N := nGrove) (sc := defScope sGrove) (by decide +kernel)) (fun _ _ _ _ _ => pg_name (i := 10) scGrove.nd rfl (Or.inl rfl)) (fun _ _ _ _ _ => pts_nil)
            (fun _ _ _ _ _ => pe_gd DG hr rfl pass0 (pa_cons (pv 0) (pa_cons (pv 1) (pa_cons (pe_op op_sub (pv 2) pe_int) pa_nil)))))
            (pg_unl rfl (pgs_cons (pg_name (i := 5) scGrove.nd rfl (.inl rfl)) (pgs_cons (pg_name (i := 6) scGrove.nd rfl (.inl rfl)) pgs_nil))))
        (pss_one (ps_ret (pe_tup (pa_cons (pe_tup (pa_cons (pv 4) (pa_cons (pe_ix ix_tup (pv 5) pe_int (fun _ _ => rfl)) (pa_cons (pe_ix ix_tup (pv 6) pe_int (fun _ _ => rfl)) pa_nil))))
          (pa_cons (pe_callB (call_max2 rfl) (by rfl) B.max boot_max (pa_cons (pe_ix ix_tup (pv 5) pe_int (fun _ _ => rfl)) (pa_cons (pe_ix ix_tup (pv 6) pe_int (fun _ _ => rfl)) pa_nil))) pa_nil)))))) pss_nil)
      (pss_cons (ps_if (pt_cmpR op_in_seq (pv 4) (pe_tup (pa_cons pe_str (pa_cons pe_str pa_nil))) rfl)
        (pss_cons (ps_set (i := 7) scGrove.nd rfl (.inl rfl) (pe_ifExp (pt_cmpR op_eq (pv 4) pe_str (nomark _)) (pe_gd D hr1 rfl pass0 (pa_cons (pv 0) (pa_cons pe_int pa_nil))) (pe_op op_add pe_int (pe_gd D hr1 rfl pass0 (pa_cons (pv 0) (pa_cons pe_int pa_nil))))))
        (pss_cons (ps_setLc (i := 8) (own := [("_law_k", 10)]) (g := gName 10) (tt := tYes) (te := tCall (lessSp spGrove n) [] E0 (tCons (tVar 0) (tCons (tVar 1) (tCons (tOp (rI0 fun i j => .int (i - j)) (tVar 2) (tC (.int 1))) tNil)))) rfl scGrove.nd rfl rfl (sw_true rfl rfl rfl (by decide +kernel)) (pi_range1 rfl B.range (pa_cons (pv 7) pa_nil))
            (blkOk_by (N := nGrove) (sc := defScope sGrove) (by decide +kernel)) (fun _ _ _ _ _ => pg_name (i := 10) scGrove.nd rfl (Or.inl rfl)) (fun _ _ _ _ _ => pts_nil)
            (fun _ _ _ _ _ => pe_gd DG hr rfl pass0 (pa_cons (pv 0) (pa_cons (pv 1) (pa_cons (pe_op op_sub (pv 2) pe_int) pa_nil)))))
        (pss_cons (ps_set (i := 9) scGrove.nd rfl (.inl rfl) (pe_ifExp (pt_cmpR op_eq (pv 4) pe_str (nomark _))
            (pe_callB (cr_max rfl) (by rfl) B.max boot_max (pa_cons (pe_op op_cat (pe_lst (pa_cons pe_int pa_nil)) (pe_lc (own := [("_law_one", 5)]) (g := gName 5) (tt := tYes) (te := tOp (rIxT K) (tVar 5) (tC (.int 1))) rfl scGrove.nd (pi_list (pv 8)) (blkOk_by (N := nGrove) (sc := defScope sGrove) (by decide +kernel)) (fun _ _ _ _ _ => pg_name (i := 5) scGrove.nd rfl (Or.inl rfl)) (fun _ _ _ _ _ => pts_nil)
              (fun _ _ _ _ _ => pe_ix ix_tup (pv 5) pe_int (fun _ _ => rfl)))) pa_nil))
            (pe_callB (cr_sum rfl) (by rfl) B.sum boot_sum (pa_cons (pe_lc (own := [("_law_one", 5)]) (g := gName 5) (tt := tYes) (te := tOp (rIxT K) (tVar 5) (tC (.int 1))) rfl scGrove.nd (pi_list (pv 8)) (blkOk_by (N := nGrove) (sc := defScope sGrove) (by decide +kernel)) (fun _ _ _ _ _ => pg_name (i := 5) scGrove.nd rfl (Or.inl rfl)) (fun _ _ _ _ _ => pts_nil)
              (fun _ _ _ _ _ => pe_ix ix_tup (pv 5) pe_int (fun _ _ => rfl))) pa_nil))))
        (pss_cons (ps_if (pt_cmpR op_gt (pv 9) pe_int (nomark _)) (pss_one (ps_ret (pe_ix ix_list (pv 8) pe_int (fun _ _ => rfl)))) pss_nil)
        (pss_one (ps_ret (pe_tup (pa_cons (pe_tup (pa_cons (pv 4) (pa_cons (pe_callTy call_tuple_of (by rfl) B.tuple boot_tuple (pa_cons
          (pe_lc (own := [("_law_one", 5)]) (g := gName 5) (tt := tYes) (te := tOp (rIxT K) (tVar 5) (tC (.int 0))) rfl scGrove.nd (pi_list (pv 8)) (blkOk_by (N := nGrove) (sc := defScope sGrove) (by decide +kernel)) (fun _ _ _ _ _ => pg_name (i := 5) scGrove.nd rfl (Or.inl rfl)) (fun _ _ _ _ _ => pts_nil)
            (fun _ _ _ _ _ => pe_ix ix_tup (pv 5) pe_int (fun _ _ => rfl))) pa_nil)) pa_nil))) (pa_cons (pv 9) pa_nil))))))))) pss_nil)
      (pss_one (ps_ret (pe_gd DU hr11 rfl pass0 (pa_cons (pv 0) (pa_cons (pv 1) (pa_cons (pv 4) (pa_cons (pe_gd DG hr rfl pass0 (pa_cons (pv 0) (pa_cons (pv 1) (pa_cons (pe_op op_sub (pv 2) pe_int) pa_nil)))) pa_nil))))))))))))), ?_⟩
    have npr := Pot.ne hp hR
    have lone : ∀ {G : Hp} {l : Addr}, Pot G p → G l = none → l ≠ p := fun {G l} ⟨x, y, e, _⟩ nl q => by
      rw [q, e] at nl
      cases nl
    have done : ∀ (m : Nat) (G : Hp) (pl : Pl) (vs : List V) (ds : List Lb.D) (x : Int), n = m + 1 → Pot G p → Rm G r → But p r H G → RepL G vs ds → pl.d = .tup ds → pl.Ok (m + 1) → 1 ≤ x → x ≤ 60 →
        ∀ t, G t = none → ∀ t2, L2.upd G t (.tup vs) t2 = none → Q (.ref t2) (L2.upd (L2.upd G t (.tup vs)) t2 (.tup [.ref t, .int x])) := by
      intro m G pl vs ds x en pG rG bG rp e ok a c t nt t2 nt2
      have s1 : Same G (L2.upd G t (.tup vs)) := Same.new nt
      have s2 : Same (L2.upd G t (.tup vs)) (L2.upd (L2.upd G t (.tup vs)) t2 (.tup [.ref t, .int x])) := Same.new nt2
      have s := s1.trans s2
      subst en
      exact fin _ _ (Pot.same s pG) (Rm.same s rG) (bG.trans (But.of s)) ⟨t2, .ref t, x, rfl, upd_same, ⟨pl, ok, by rw [e]; exact Rep.tupI (s2 _ _ upd_same) (RepL.keep (Keeps.of s) ds rp)⟩, a, c⟩
    refine ⟨(by show 13 ≤ sizeLine; decide), fun l1 nl1 => ⟨_, rfl, (by show 9 ≤ sizeLine; decide), fun l2 nl2 => ⟨l1, l2, _, _, rfl, rfl, Same.new nl2 _ _ upd_same, upd_same, (by decide), fun l3 nl3 => ?_⟩⟩⟩
    refine ⟨_, rfl, _, rfl, p, 22, rfl, Pot.same (((Same.new nl1).trans (Same.new nl2)).trans (Same.new nl3)) hp, by decide, by decide, fun k H1 k0 k1 p1 b1 => ?_⟩
    have nlp3 : l3 ≠ p := lone (Pot.same ((Same.new nl1).trans (Same.new nl2)) hp) nl3
    have hl3 : H1 l3 = some (.lst (grW.map V.str)) := b1 _ _ upd_same nlp3 nlp3
    have B1 : But p r H H1 := (But.of (((Same.new nl1).trans (Same.new nl2)).trans (Same.new nl3))).trans b1.one
    have r1 : Rm H1 r := Rm.but npr b1 (Rm.same (((Same.new nl1).trans (Same.new nl2)).trans (Same.new nl3)) hR)
    clear b1
    have kl : k.toNat < grW.length := by
      show k.toNat < 22
      omega
    obtain ⟨z, hz⟩ : ∃ z, grW[k.toNat]? = some z := ⟨grW[k.toNat]'kl, List.getElem?_eq_getElem kl⟩
    have zw := grW_all z (List.mem_of_getElem? hz)
    refine ⟨l3, grW.map V.str, k, .str z, rfl, rfl, SqL.of hl3, at_of (j := k.toNat) (by omega) (by rw [List.getElem?_map, hz]; rfl), ?_⟩
    refine (fun (key : (?X : Prop)) => ?main) ?k
    case main =>
      refine ⟨_, rfl, rfl, _, rfl, ite2 (fun h0 => ?u0) (fun h0 => ?_)⟩
      case u0 => exact key
      obtain ⟨nn, hn⟩ := id r1
      refine ⟨_, rfl, r, .int nn.parts, rfl, DGet.k (k := pk) hn, _, _, rfl, rfl, _, rfl, ite2 (fun h1 => ?u1) (fun h1 => ⟨_, rfl, rfl, _, rfl, ite2 (fun h2 => ?u2) (fun h2 => ?_)⟩)⟩
      case u1 => exact key
      case u2 => exact key
      have h2 : z ≠ "leaf" := fun q => h2 (by rw [q]; exact decide_eq_true rfl)
      refine ⟨_, rfl, r, .int nn.parts, rfl, DGet.k (k := pk) hn, _, _, rfl, rfl, _, rfl, r, _, rfl, DPut.k (k := pk) hn (by show 3 < sizeLine; decide), ?_⟩
      have hn3 : L2.upd H1 r (RmV.o ⟨nn.parts - 1, nn.great, nn.rows, nn.ok⟩) r = some (RmV.o ⟨nn.parts - 1, nn.great, nn.rows, nn.ok⟩) := upd_same
      have r2 : Rm (L2.upd H1 r (RmV.o ⟨nn.parts - 1, nn.great, nn.rows, nn.ok⟩)) r := ⟨_, hn3⟩
      have p2 : Pot (L2.upd H1 r (RmV.o ⟨nn.parts - 1, nn.great, nn.rows, nn.ok⟩)) p := by
        obtain ⟨x, y, e, h0⟩ := p1
        exact ⟨x, y, by rw [upd_ne npr]; exact e, h0⟩
      have B2 : But p r H (L2.upd H1 r (RmV.o ⟨nn.parts - 1, nn.great, nn.rows, nn.ok⟩)) := B1.updR
      refine (fun (key2 : ∀ G, Pot G p → Rm G r → But p r H G → (?Y : Hp → Prop) G) => ?main2) ?k2
      case main2 => exact key2 _ p2 r2 B2
      case k2 =>
        intro G pG rG bG
        cases n with
        | zero => exact absurd rfl h0
        | succ m =>
          rcases zw with rfl | rfl | rfl | rfl | zw
          · exact absurd rfl h2
          · refine ⟨_, rfl, rfl, _, rfl, eqT ?_⟩
            show tAsg _ _ _ _ _
            show tLc _ _ _ _ _ _ _ _
            show tLc _ _ _ _ [10] _ _ _
            show tLc (iRng1 (tCons (tC (V.int ((2 : Nat) : Int))) tNil)) _ _ _ _ _ _ _
            show tLc _ _ _ _ _ [some (.ref p), some (.ref r), some (.int ((m + 1 : Nat) : Int)), some (.ref l3), some (.str "spare"), none, none, none, none, none, none] _ _
            refine made_list (R := IsPair m) (n := 2) (i := 10) (stays_pair m) pG rG (by decide) (fun _ => rfl) ?_ ?_
            · intro x G2 Q2 pG2 rG2 kk
              refine ⟨_, rfl, _, rfl, _, rfl, _, _, rfl, rfl, p, r, ?_, pG2, rG2, kk⟩
              have e1 : ((m + 1 : Nat) : Int) - 1 = m := by omega
              show [V.ref p, V.ref r, V.int (((m + 1 : Nat) : Int) - 1)] = _
              rw [e1]
            intro L H3 vs p3 r3 b3 hL lvs all nLp nLr
            obtain ⟨x1, x2, rfl⟩ : ∃ x1 x2, vs = [x1, x2] := by
              match vs, lvs with
              | [x1, x2], _ => exact ⟨x1, x2, rfl⟩
            obtain ⟨t1, u1, w1, rfl, ht1, hu1, a1, c1⟩ := all x1 (.head _)
            obtain ⟨t2, u2, w2, rfl, ht2, hu2, a2, c2⟩ := all x2 (.tail _ (.head _))
            refine ⟨L, _, rfl, SqL.of hL, rfl, _, _, rfl, _, _, rfl, rfl, ?_⟩
            refine ⟨_, rfl, _, rfl, t1, _, 0, _, rfl, rfl, SqT.of ht1, rfl, _, rfl, t2, _, 0, _, rfl, rfl, SqT.of ht2, rfl, (by show 3 ≤ sizeLine; decide), fun t nt => ?_⟩
            have S := Same.new (o := .tup [.str "spare", u1, u2]) nt
            refine ⟨_, rfl, t1, _, 1, _, rfl, rfl, SqT.of (S _ _ ht1), rfl, _, rfl, t2, _, 1, _, rfl, rfl, SqT.of (S _ _ ht2), rfl, _, _, rfl, (by show 2 ≤ sizeLine; decide), fun tt nt2 => ?_⟩
            obtain ⟨pl1, po1, pr1⟩ := hu1
            obtain ⟨pl2, po2, pr2⟩ := hu2
            exact done m H3 (.spare pl1 pl2) _ _ _ rfl p3 r3 (bG.trans b3) (.three Rep.strI pr1 pr2) (by simp only [Pl.d]) (by simp only [Pl.Ok]; exact ⟨po1, po2⟩) (by split <;> omega) (by split <;> omega) t nt tt nt2
          · refine ⟨_, rfl, rfl, _, rfl, eqF (by decide +kernel) (⟨_, rfl, (by show 2 ≤ sizeLine; decide), fun q1 m1 => ⟨q1, _, rfl, .inr (SqT.of upd_same), rfl, rfl, _, rfl, if_T (by decide +kernel) ?_⟩⟩)⟩
            have S : Same G (L2.upd G q1 (.tup [.str "chain", .str "beside"])) := Same.new m1
            generalize (L2.upd G q1 (.tup [.str "chain", .str "beside"])) = G1 at S ⊢
            have pG1 := Pot.same S pG
            have rG1 := Rm.same S rG
            have bG1 : But p r H G1 := bG.trans (But.of S)
            refine ⟨_, rfl, rfl, _, rfl, eqT ⟨_, rfl, p, 5, rfl, pG1, by decide, by decide, fun mm H3 m0 m1 p3 b3 => ?_⟩⟩
            obtain ⟨cnt, rfl⟩ : ∃ cnt : Nat, mm = (cnt : Int) := ⟨mm.toNat, by omega⟩
            have cl : cnt ≤ 4 := by omega
            have r3 := Rm.but npr b3 rG1
            have B3 := bG1.trans b3.one
            dsimp only [gName]
            show tSeq _ _ _ _ _
            show tAsg _ _ _ _ _
            show tLc _ _ _ _ _ _ _ _
            show tLc _ _ _ _ [10] _ _ _
            show tLc _ _ _ _ _ [some (.ref p), some (.ref r), some (.int ((m + 1 : Nat) : Int)), some (.ref l3), some (.str "chain"), none, none, some (.int (cnt : Int)), none, none, none] _ _
            refine made_listV (R := IsPair m) (n := cnt) (i := 10) (j := 7) (stays_pair m) rfl p3 r3 (by omega) (fun _ => rfl) ?_ ?_
            · intro x G2 Q2 pG2 rG2 kk
              refine ⟨_, rfl, _, rfl, _, rfl, _, _, rfl, rfl, p, r, ?_, pG2, rG2, kk⟩
              have e1 : ((m + 1 : Nat) : Int) - 1 = m := by omega
              show [V.ref p, V.ref r, V.int (((m + 1 : Nat) : Int) - 1)] = _
              rw [e1]
            intro L H4 vs p4 r4 b4 hL lvs all nLp nLr
            obtain ⟨us, ws, lu, lw, ou, ow, at_⟩ := pairs_of all
            obtain ⟨ps, lp, okp, rps⟩ := plans_of ou
            have B4 := B3.trans b4
            have last : ∀ (H5 : Hp) (M : Int), Same H4 H5 → 1 ≤ M → M ≤ 60 → tTup (tCons (tTup (tCons (tVar 4) (tCons (tCB (fun xs H Q => ∃ p ys, xs = [.ref p] ∧ ((SqL K H p ys ∧ ∀ l, H l = none → Q (.ref l) (L2.upd H l (.tup ys))) ∨ (SqT K H p ys ∧ Q (.ref p) H))) (tCons (tLc (iList K (tVar 8)) (gName 5) tYes (tOp (rIxT K) (tVar 5) (tC (.int 0))) [5]) tNil)) tNil))) (tCons (tVar 9) tNil)) [some (.ref p), some (.ref r), some (.int ((m + 1 : Nat) : Int)), some (.ref l3), some (.str "chain"), none, none, some (.int (cnt : Int)), some (.ref L), some (.int M), none] H5 Q := by
              intro H5 M s5 M0 M1
              refine ⟨_, rfl, ?_⟩
              dsimp only [tCons, tCB]
              show tLc _ _ _ _ _ _ _ _
              refine lc_ix (σ := [some (.ref p), some (.ref r), some (.int ((m + 1 : Nat) : Int)), some (.ref l3), some (.str "chain"), none, none, some (.int (cnt : Int)), some (.ref L), some (.int M), none]) (L := L) (vs := vs) (ys := us) rfl rfl (s5 _ _ hL) lu (by omega) (fun i x hx => ?_) fun D H6 s6 hD => ?_
              · obtain ⟨t, u, wd, rfl, ht, e1, e2⟩ := at_ i x hx
                exact ⟨t, _, u, rfl, s5 _ _ ht, rfl, e1⟩
              have s56 := s5.trans s6
              refine ⟨D, us, rfl, .inl ⟨SqL.of hD, fun tt ntt => ⟨(by show 2 ≤ sizeLine; decide), fun t nt => ⟨_, rfl, (by show 2 ≤ sizeLine; decide), fun t2 nt2 => ?_⟩⟩⟩⟩
              have s7 : Same H6 (L2.upd H6 tt (.tup us)) := Same.new ntt
              have s := s56.trans s7
              exact done m _ (.chain ps) _ _ M rfl (Pot.same s p4) (Rm.same s r4) (B4.trans (But.of s)) (.two Rep.strI (Rep.tupI upd_same (RepL.keep (Keeps.of s) _ rps))) (by simp only [Pl.d]) (by simp only [Pl.Ok]; exact ⟨by omega, okp⟩) M0 M1 t nt t2 nt2
            refine ⟨_, rfl, rfl, _, rfl, eqT ⟨(by show 1 ≤ sizeLine; decide), fun o no => ?_⟩⟩
            have so : Same H4 (L2.upd H4 o (.lst [.int 1])) := Same.new no
            show tLc _ _ _ _ _ _ _ _
            show tLc _ _ _ _ [5] _ _ _
            refine lc_ix (σ := [some (.ref p), some (.ref r), some (.int ((m + 1 : Nat) : Int)), some (.ref l3), some (.str "chain"), none, none, some (.int (cnt : Int)), some (.ref L), none, none]) (L := L) (vs := vs) (ys := ws.map V.int) rfl rfl (so _ _ hL) (by rw [List.length_map]; exact lw) (by omega) (fun i x hx => ?_) fun D H5 s5 hD => ?_
            · obtain ⟨t, u, wd, rfl, ht, e1, e2⟩ := at_ i x hx
              exact ⟨t, _, .int wd, rfl, so _ _ ht, rfl, by rw [List.getElem?_map, e2]; rfl⟩
            refine ⟨o, D, [.int 1], ws.map V.int, rfl, rfl, s5 _ _ upd_same, hD, by rw [List.length_map, sizeLine_eq]; simp; omega, fun c nc => ⟨c, 1 :: ws, rfl, SqL.of upd_same, by simp, fun M hM hall => ?_⟩⟩
            have M0 : 1 ≤ M := hall 1 (.head _)
            have M1 : M ≤ 60 := by
              rcases List.mem_cons.mp hM with rfl | hM
              · decide
              · exact (ow M hM).2
            have sc := (so.trans s5).trans (Same.new (o := .lst ([.int 1] ++ ws.map V.int)) nc)
            exact ⟨_, rfl, _, _, rfl, rfl, _, rfl, ite2 (fun h => absurd (of_decide_eq_true h) (by omega)) (fun h => last _ M sc M0 M1)⟩
          · refine ⟨_, rfl, rfl, _, rfl, eqF (by decide +kernel) (⟨_, rfl, (by show 2 ≤ sizeLine; decide), fun q1 m1 => ⟨q1, _, rfl, .inr (SqT.of upd_same), rfl, rfl, _, rfl, if_T (by decide +kernel) ?_⟩⟩)⟩
            have S : Same G (L2.upd G q1 (.tup [.str "chain", .str "beside"])) := Same.new m1
            generalize (L2.upd G q1 (.tup [.str "chain", .str "beside"])) = G1 at S ⊢
            have pG1 := Pot.same S pG
            have rG1 := Rm.same S rG
            have bG1 : But p r H G1 := bG.trans (But.of S)
            refine ⟨_, rfl, rfl, _, rfl, eqF (by decide +kernel) ⟨_, rfl, p, 3, rfl, pG1, by decide, by decide, fun mm H3 m0 m1 p3 b3 => ⟨_, _, rfl, rfl, ?_⟩⟩⟩
            obtain ⟨cnt, hX⟩ : ∃ cnt : Nat, 1 + mm = (cnt : Int) := ⟨(1 + mm).toNat, by omega⟩
            have cl : 1 ≤ cnt ∧ cnt ≤ 3 := by omega
            have r3 := Rm.but npr b3 rG1
            have B3 := bG1.trans b3.one
            dsimp only [gName]
            rw [hX]
            show tSeq _ _ _ _ _
            show tAsg _ _ _ _ _
            show tLc _ _ _ _ _ _ _ _
            show tLc _ _ _ _ [10] _ _ _
            show tLc _ _ _ _ _ [some (.ref p), some (.ref r), some (.int ((m + 1 : Nat) : Int)), some (.ref l3), some (.str "beside"), none, none, some (.int (cnt : Int)), none, none, none] _ _
            refine made_listV (R := IsPair m) (n := cnt) (i := 10) (j := 7) (stays_pair m) rfl p3 r3 (by omega) (fun _ => rfl) ?_ ?_
            · intro x G2 Q2 pG2 rG2 kk
              refine ⟨_, rfl, _, rfl, _, rfl, _, _, rfl, rfl, p, r, ?_, pG2, rG2, kk⟩
              have e1 : ((m + 1 : Nat) : Int) - 1 = m := by omega
              show [V.ref p, V.ref r, V.int (((m + 1 : Nat) : Int) - 1)] = _
              rw [e1]
            intro L H4 vs p4 r4 b4 hL lvs all nLp nLr
            obtain ⟨us, ws, lu, lw, ou, ow, at_⟩ := pairs_of all
            obtain ⟨ps, lp, okp, rps⟩ := plans_of ou
            have B4 := B3.trans b4
            have last : ∀ (H5 : Hp) (M : Int), Same H4 H5 → 1 ≤ M → M ≤ 60 → tTup (tCons (tTup (tCons (tVar 4) (tCons (tCB (fun xs H Q => ∃ p ys, xs = [.ref p] ∧ ((SqL K H p ys ∧ ∀ l, H l = none → Q (.ref l) (L2.upd H l (.tup ys))) ∨ (SqT K H p ys ∧ Q (.ref p) H))) (tCons (tLc (iList K (tVar 8)) (gName 5) tYes (tOp (rIxT K) (tVar 5) (tC (.int 0))) [5]) tNil)) tNil))) (tCons (tVar 9) tNil)) [some (.ref p), some (.ref r), some (.int ((m + 1 : Nat) : Int)), some (.ref l3), some (.str "beside"), none, none, some (.int (cnt : Int)), some (.ref L), some (.int M), none] H5 Q := by
              intro H5 M s5 M0 M1
              refine ⟨_, rfl, ?_⟩
              dsimp only [tCons, tCB]
              show tLc _ _ _ _ _ _ _ _
              refine lc_ix (σ := [some (.ref p), some (.ref r), some (.int ((m + 1 : Nat) : Int)), some (.ref l3), some (.str "beside"), none, none, some (.int (cnt : Int)), some (.ref L), some (.int M), none]) (L := L) (vs := vs) (ys := us) rfl rfl (s5 _ _ hL) lu (by omega) (fun i x hx => ?_) fun D H6 s6 hD => ?_
              · obtain ⟨t, u, wd, rfl, ht, e1, e2⟩ := at_ i x hx
                exact ⟨t, _, u, rfl, s5 _ _ ht, rfl, e1⟩
              have s56 := s5.trans s6
              refine ⟨D, us, rfl, .inl ⟨SqL.of hD, fun tt ntt => ⟨(by show 2 ≤ sizeLine; decide), fun t nt => ⟨_, rfl, (by show 2 ≤ sizeLine; decide), fun t2 nt2 => ?_⟩⟩⟩⟩
              have s7 : Same H6 (L2.upd H6 tt (.tup us)) := Same.new ntt
              have s := s56.trans s7
              exact done m _ (.beside ps) _ _ M rfl (Pot.same s p4) (Rm.same s r4) (B4.trans (But.of s)) (.two Rep.strI (Rep.tupI upd_same (RepL.keep (Keeps.of s) _ rps))) (by simp only [Pl.d]) (by simp only [Pl.Ok]; exact ⟨by omega, by omega, okp⟩) M0 M1 t nt t2 nt2
            refine ⟨_, rfl, rfl, _, rfl, eqF (by decide +kernel) ?_⟩
            show tCB _ _ _ _ _
            dsimp only [tCB, tCons]
            show tLc _ _ _ _ _ _ _ _
            show tLc _ _ _ _ [5] _ _ _
            refine lc_ix (σ := [some (.ref p), some (.ref r), some (.int ((m + 1 : Nat) : Int)), some (.ref l3), some (.str "beside"), none, none, some (.int (cnt : Int)), some (.ref L), none, none]) (L := L) (vs := vs) (ys := ws.map V.int) rfl rfl hL (by rw [List.length_map]; exact lw) (by omega) (fun i x hx => ?_) fun D H5 s5 hD => ?_
            · obtain ⟨t, u, wd, rfl, ht, e1, e2⟩ := at_ i x hx
              exact ⟨t, _, .int wd, rfl, ht, rfl, by rw [List.getElem?_map, e2]; rfl⟩
            have sp := sum_pos ow
            refine ⟨D, ws, rfl, SqL.of hD, _, rfl, _, _, rfl, rfl, _, rfl, ite2 (fun h => ?_) (fun h => last _ ws.sum s5 (by omega) ?_)⟩
            · obtain ⟨x0, hx0⟩ : ∃ x0, vs[0]? = some x0 := ⟨vs[0]'(by omega), List.getElem?_eq_getElem (by omega)⟩
              obtain ⟨t, u, wd, rfl, ht, hu0, c1, c2⟩ := all x0 (List.mem_of_getElem? hx0)
              refine ⟨_, rfl, L, vs, 0, _, rfl, rfl, SqL.of (s5 _ _ hL), at_of (j := 0) rfl hx0, ?_⟩
              exact fin _ _ (Pot.same s5 p4) (Rm.same s5 r4) (B4.trans (But.of s5)) ⟨t, u, wd, rfl, s5 _ _ ht, IsPl.up (hu0.keep (KeepT.of s5)), c1, c2⟩
            · exact Int.not_lt.mp fun q => h (decide_eq_true q)
          · obtain ⟨z1, z2⟩ := upW_no zw
            refine ⟨_, rfl, rfl, _, rfl, eqF z1 ⟨_, rfl, (by show 2 ≤ sizeLine; decide), fun q1 m1 => ⟨q1, _, rfl, .inr (SqT.of upd_same), rfl, rfl, _, rfl, if_F z2 ?_⟩⟩⟩
            have S := Same.new (o := .tup [.str "chain", .str "beside"]) m1
            refine ⟨_, rfl, _, rfl, _, rfl, _, rfl, _, rfl, _, rfl, _, _, rfl, rfl, p, r, ?_, Pot.same S pG, Rm.same S rG, fun v H3 p3 r3 b3 pr => ⟨p, r, z, v, rfl, p3, r3, zw, pr, fun v4 H4 p4 r4 b4 pr4 => ?_⟩⟩
            · have e1 : ((m + 1 : Nat) : Int) - 1 = m := by omega
              show [V.ref p, V.ref r, V.int (((m + 1 : Nat) : Int) - 1)] = _
              rw [e1]
            · exact fin _ _ p4 r4 (((bG.trans (But.of S)).trans b3).trans b4) pr4
    case k =>
      refine ⟨_, rfl, _, rfl, p, r, rfl, p1, r1, fun v H2 p2 r2 b2 ip => ⟨(by show 2 ≤ sizeLine; decide), fun t nt => ?_⟩⟩
      have S := Same.new (o := .tup [v, .int 1]) nt
      have ip2 := IsPl.ups n (ip.keep (KeepT.of S))
      rw [Nat.zero_add] at ip2
      exact fin _ _ (Pot.same S p2) (Rm.same S r2) ((B1.trans b2).trans (But.of S)) ⟨t, v, 1, rfl, upd_same, ip2, by decide, by decide⟩
end
end K82


set_option Elab.async false
set_option linter.all false
set_option maxRecDepth 100000
set_option maxHeartbeats 4000000
namespace K82
open PySem PySem.Spec PyProof.Rows L2 Lb
abbrev sPlanned : Stmt := top 27
def spPlanned : Sp := fun vs H Q _ => ∃ p : Addr, vs = [.ref p] ∧ Pot H p ∧ ∀ v H', Pot H' p → But p p H H' → IsPl 5 H' v → Q v H'
section
variable {P : Program} {w : World} {K : PySem.W.Frag} {mg : Str → Option Value} {base : Heap}
abbrev nPlanned : List Str := ["_law_pot_here", "_law_room"]
theorem scPlanned : FnScope nPlanned ["_law_pot_here"] (defScope sPlanned) := ⟨rfl, rfl, rfl, by decide +kernel, rfl, by decide +kernel, by decide +kernel⟩
theorem ok_planned {f : Addr} {fd : FuncData} (F : Fun K "_law_planned" "_law_planned" sPlanned f fd) (B : Blt mg)
    (D : GD P w K mg base CX0 "_law_digit" ["_law_pot_here", "_law_many"] 1 spDigit) (DG : GD P w K mg base CX0 "_law_grove" nPRD 17 (spGrove 5)) : FnOk P w K mg base CX0 18 f fd ["_law_pot_here"] spPlanned := by
  refine F.ok scPlanned (fun vs H Q E h => ?_) (fun cdv A outer s H vs Q E hr h => ?_)
  · obtain ⟨p, rfl, _⟩ := h
    rfl
  · obtain ⟨p, rfl, hp, fin⟩ := h
    have hr1 := hr.mono (show 1 ≤ 17 by decide)
    refine ⟨_, pss_cons (ps_set (i := 1) scPlanned.nd rfl (.inl rfl) (pe_disp (pps_cons pe_str (pe_op op_add pe_int (pe_gd D hr1 rfl pass0 (pa_cons (pv 0) (pa_cons pe_int pa_nil)))) (pps_cons pe_str pe_int (pps_cons pe_str pe_int pps_nil))) rfl rfl (by simp) (by decide)))
      (pss_one (ps_ret (pe_ix ix_tup (pe_gd DG hr rfl pass0 (pa_cons (pv 0) (pa_cons (pv 1) (pa_cons pe_int pa_nil)))) pe_int (fun _ _ => rfl)))), ?_⟩
    intro r nr
    have npr : r ≠ p := fun q => by
      obtain ⟨x, y, e, _⟩ := hp
      rw [q, e] at nr
      cases nr
    have s0 : Same H (L2.upd H r (.dK [])) := Same.new nr
    refine ⟨_, rfl, p, 11, rfl, Pot.same s0 hp, by decide, by decide, fun k H1 k0 k1 p1 b1 => ⟨_, _, rfl, rfl, b1 _ _ upd_same npr npr, [(pk, .int (1 + k)), (gr, .int 3), (rk, .int 0)], rfl, by simp, ?_⟩⟩
    have hn3 : L2.upd H1 r (RmV.o ⟨1 + k, 3, 0, by decide⟩) r = some (RmV.o ⟨1 + k, 3, 0, by decide⟩) := upd_same
    refine ⟨_, rfl, _, rfl, p, r, rfl, ?_, ⟨_, hn3⟩, fun v H2 p2 r2 b2 ⟨t, u, wd, ev, ht, hu, _, _⟩ => ⟨t, _, 0, u, ev, rfl, SqT.of ht, rfl, ?_⟩⟩
    · obtain ⟨x, y, e, h0⟩ := p1
      exact ⟨x, y, by rw [upd_ne npr.symm]; exact e, h0⟩
    · refine fin u H2 p2 (fun c o e n _ => ?_) hu
      have nc : c ≠ r := ne_of_none e nr
      refine b2 _ _ ?_ n nc
      rw [upd_ne nc]
      exact b1 _ _ (s0 _ _ e) n n
end
end K82


set_option Elab.async false
set_option linter.all false
set_option maxRecDepth 100000
set_option maxHeartbeats 4000000
namespace K82
open PySem PySem.Spec PyProof.Rows L2 Lb
section
variable {P : Program} {w : World} {K : PySem.W.Frag} {mg : Str → Option Value} {base : Heap}
/-- a def of the module, by name -/
structure Df (K : PySem.W.Frag) (mg : Str → Option Value) (x : Str) (st : Stmt) (ps : List Str) (f : Addr) (fd : FuncData) : Prop where
  fn : Fun K x x st f fd
  mgf : mg x = some (.ref f)
  bd : Binds K fd ps []
theorem Df.gd {x : Str} {st : Stmt} {ps : List Str} {f : Addr} {fd : FuncData} {k : Nat} {sp : Sp} (D : Df K mg x st ps f fd) (h : FnOk P w K mg base CX0 k f fd ps sp) : GD P w K mg base CX0 x ps k sp := ⟨f, fd, h, D.mgf, D.fn.kp, D.bd⟩
theorem Df.no {x : Str} {st : Stmt} {ps : List Str} {f : Addr} {fd : FuncData} {k : Nat} {sp : Sp} (D : Df K mg x st ps f fd) (h : ∀ vs H Q E, ¬ sp vs H Q E) : GD P w K mg base CX0 x ps k sp :=
  D.gd ⟨fun _ _ _ _ z => (h _ _ _ _ z).elim, fun _ _ _ _ _ _ _ _ _ _ _ _ _ z => (h _ _ _ _ z).elim⟩
abbrev GDp (P : Program) (w : World) (K : PySem.W.Frag) (mg : Str → Option Value) (base : Heap) : Prop := GD P w K mg base CX0 "_law_digit" ["_law_pot_here", "_law_many"] 1 spDigit
variable {f g : Addr} {fd gd : FuncData}
theorem gd_test (B : Blt mg) (D : GDp P w K mg base) (DW : GD P w K mg base CX0 "_law_whole" nPR 2 spWhole) (DR : GD P w K mg base CX0 "_law_rule" nPR 4 (spMake IsRule)) (dl : Df K mg "_law_look" sLook nPRD f fd) (dt : Df K mg "_law_test" sTest nPRD g gd) :
    ∀ n : Nat, GD P w K mg base CX0 "_law_test" nPRD (6 + 2 * n) (spMake3 n (IsTest n))
  | 0 => dt.gd (ok_test dt.fn B 0 D (dl.gd (ok_look dl.fn 0 D DW DR (dt.no fun _ _ _ _ z => z))))
  | n + 1 => by
    have ih := gd_test B D DW DR dl dt n
    have e : 6 + 2 * n = 4 + 2 * (n + 1) := by omega
    rw [e] at ih
    exact dt.gd (ok_test dt.fn B (n + 1) D (dl.gd (ok_look dl.fn (n + 1) D DW DR ih)))
theorem gd_grove (B : Blt mg) (D : GDp P w K mg base) (DL : GD P w K mg base CX0 "_law_leaf" nPR 3 (spMake (IsPl 0))) (DU : ∀ n, GD P w K mg base CX0 "_law_upon" pUpon 11 (spUpon n)) (d : Df K mg "_law_grove" sGrove nPRD f fd) :
    ∀ n : Nat, GD P w K mg base CX0 "_law_grove" nPRD (12 + n) (spGrove n)
  | 0 => d.gd (ok_grove d.fn B 0 D DL (DU _) (d.no fun _ _ _ _ z => z))
  | n + 1 => by
    have ih := gd_grove B D DL DU d n
    have e : 12 + n = 11 + (n + 1) := by omega
    rw [e] at ih
    exact d.gd (ok_grove d.fn B (n + 1) D DL (DU _) ih)
/-- the defs that make a plan -/
structure Makers (K : PySem.W.Frag) (mg : Str → Option Value) : Prop where
  pot : ∃ f fd, Df K mg "_law_pot" sPot ["_law_script", "_law_k"] f fd
  digit : ∃ f fd, Df K mg "_law_digit" sDigit ["_law_pot_here", "_law_many"] f fd
  whole : ∃ f fd, Df K mg "_law_whole" sWhole nPR f fd
  change : ∃ f fd, Df K mg "_law_change" sChange nPR f fd
  rule : ∃ f fd, Df K mg "_law_rule" sRule nPR f fd
  look : ∃ f fd, Df K mg "_law_look" sLook nPRD f fd
  test : ∃ f fd, Df K mg "_law_test" sTest nPRD f fd
  leaf : ∃ f fd, Df K mg "_law_leaf" sLeaf nPR f fd
  upon : ∃ f fd, Df K mg "_law_upon" sUpon pUpon f fd
  grove : ∃ f fd, Df K mg "_law_grove" sGrove nPRD f fd
  planned : ∃ f fd, Df K mg "_law_planned" sPlanned ["_law_pot_here"] f fd
/-- what the makers promise -/
structure Made (P : Program) (w : World) (K : PySem.W.Frag) (mg : Str → Option Value) (base : Heap) : Prop where
  pot : GD P w K mg base CX0 "_law_pot" ["_law_script", "_law_k"] 1 (spPot K)
  digit : GDp P w K mg base
  planned : GD P w K mg base CX0 "_law_planned" ["_law_pot_here"] 18 spPlanned
theorem made_of (B : Blt mg) (M : Makers K mg) : Made P w K mg base := by
  obtain ⟨_, _, d0⟩ := M.pot
  obtain ⟨_, _, d1⟩ := M.digit
  obtain ⟨_, _, d2⟩ := M.whole
  obtain ⟨_, _, d3⟩ := M.change
  obtain ⟨_, _, d4⟩ := M.rule
  obtain ⟨_, _, d5⟩ := M.look
  obtain ⟨_, _, d6⟩ := M.test
  obtain ⟨_, _, d7⟩ := M.leaf
  obtain ⟨_, _, d8⟩ := M.upon
  obtain ⟨_, _, d9⟩ := M.grove
  obtain ⟨_, _, d10⟩ := M.planned
  have g0 : GD P w K mg base CX0 "_law_pot" ["_law_script", "_law_k"] 1 (spPot K) := d0.gd (ok_pot d0.fn B)
  have g1 : GDp P w K mg base := d1.gd (ok_digit d1.fn B)
  have g2 : GD P w K mg base CX0 "_law_whole" nPR 2 spWhole := d2.gd (ok_whole d2.fn B g1)
  have g3 : GD P w K mg base CX0 "_law_change" nPR 3 (spMake IsCh) := d3.gd (ok_change d3.fn g1 g2)
  have g4 : GD P w K mg base CX0 "_law_rule" nPR 4 (spMake IsRule) := d4.gd (ok_rule d4.fn B g1 g3)
  have g6 := gd_test B g1 g2 g4 d5 d6 2
  have g7 : GD P w K mg base CX0 "_law_leaf" nPR 3 (spMake (IsPl 0)) := d7.gd (ok_leaf d7.fn B g1 g2)
  have g8 : ∀ n, GD P w K mg base CX0 "_law_upon" pUpon 11 (spUpon n) := fun n => d8.gd (ok_upon d8.fn B n g1 g4 g6)
  have g9 := gd_grove B g1 g7 g8 d9 5
  exact ⟨g0, g1, d10.gd (ok_planned d10.fn B g1 g9)⟩
end
end K82


set_option Elab.async false
set_option linter.all false
set_option maxRecDepth 100000
set_option maxHeartbeats 4000000
namespace Lb
open PySem PySem.Spec PyProof.Rows L2
def D.ty : D → String
  | .non => "NoneType"
  | .bl _ => "bool"
  | .int _ => "int"
  | .str _ => "str"
  | .emp => "list"
  | .tup _ => "tuple"
def D.isTup : D → Bool
  | .tup _ => true
  | _ => false
def D.isStr : D → Bool
  | .str _ => true
  | _ => false
/-- an int to Python: a truth is one, too -/
def D.isInt : D → Bool
  | .int _ => true
  | .bl _ => true
  | _ => false
def D.isBl : D → Bool
  | .bl _ => true
  | _ => false
theorem Rep.ty {K : PySem.W.Frag} {H : Hp} {v : V} {d : D} (h : Rep H v d) : TyX K H v (.type d.ty) := by
  cases d with
  | non =>
    simp only [Rep] at h
    subst h
    exact .base .non
  | bl b =>
    simp only [Rep] at h
    subst h
    exact .base (.bl b)
  | int i =>
    simp only [Rep] at h
    subst h
    exact .base (.int i)
  | str s =>
    simp only [Rep] at h
    subst h
    exact .base (.str s)
  | emp =>
    simp only [Rep] at h
    obtain ⟨p, rfl, h⟩ := h
    exact .base (.lst h)
  | tup ds =>
    obtain ⟨p, vs, rfl, h, _⟩ := h.tupE
    exact .base (.tup h)
theorem kit_tuple (d : D) : kitB d.ty "tuple" = some d.isTup := by cases d <;> simp only [D.ty, D.isTup, D.isStr, D.isInt, D.isBl] <;> decide +kernel
theorem kit_str (d : D) : kitB d.ty "str" = some d.isStr := by cases d <;> simp only [D.ty, D.isTup, D.isStr, D.isInt, D.isBl] <;> decide +kernel
theorem kit_int (d : D) : kitB d.ty "int" = some d.isInt := by cases d <;> simp only [D.ty, D.isTup, D.isStr, D.isInt, D.isBl] <;> decide +kernel
theorem kit_bool (d : D) : kitB d.ty "bool" = some d.isBl := by cases d <;> simp only [D.ty, D.isTup, D.isStr, D.isInt, D.isBl] <;> decide +kernel
theorem isi_of {K : PySem.W.Frag} {H : Hp} {v : V} {d : D} {T : String} {b : Bool} {Q : VK} (h : Rep H v d) (hb : kitB d.ty T = some b) (q : Q (.bl b) H) : rIsi K [v, .ty T] H Q :=
  ⟨v, .ty T, _, _, b, rfl, .ty T, h.ty, kit_ty hb, q⟩
theorem RepL.keepSame {H H' : Hp} (s : Same H H') {vs : List V} {ds : List D} (h : RepL H vs ds) : RepL H' vs ds := RepL.keep (Keeps.of s) ds h
theorem Rep.same {H H' : Hp} (s : Same H H') {v : V} {d : D} (h : Rep H v d) : Rep H' v d := Rep.keep (Keeps.of s) d h
theorem RepL.snoc {H : Hp} {vs : List V} {ds : List D} {v : V} {d : D} (a : RepL H vs ds) (b : Rep H v d) : RepL H (vs ++ [v]) (ds ++ [d]) := RepL.app (.one b) a
theorem pureL_at : ∀ {ds : List D} {i : Nat} {d : D}, pureL ds → ds[i]? = some d → d.pure
  | [], i, d, _, e => by simp at e
  | c :: ds, 0, d, h, e => by
    simp only [pureL] at h
    simp at e
    rw [← e]
    exact h.1
  | c :: ds, i + 1, d, h, e => by
    simp only [pureL] at h
    exact pureL_at h.2 (by simpa using e)
theorem pureL_take : ∀ {ds : List D} (n : Nat), pureL ds → pureL (ds.take n)
  | ds, 0, _ => by simp only [List.take_zero, pureL]
  | [], n + 1, _ => by simp only [List.take_nil, pureL]
  | d :: ds, n + 1, h => by
    simp only [pureL] at h
    simp only [List.take_succ_cons, pureL]
    exact ⟨h.1, pureL_take n h.2⟩
/-- [.. for x in t], t a tuple: each item a thing that is told -/
theorem map_lc {K : PySem.W.Frag} {p : Addr} {vs : List V} {es : List D} {a i : Nat} {te : TE} {σ : L2.St} {H : Hp} {Q : VK} (hσ : σ[a]? = some (some (.ref p))) (hp : H p = some (.tup vs)) (hl : es.length = vs.length) (pu : pureL es) (sz : vs.length ≤ 1000)
    (hw : ∀ x : V, wipe ((wipe σ [i]).set i (some x)) [i] = wipe σ [i])
    (item : ∀ (j : Nat) (x : V) (H2 : Hp) (Q2 : VK), vs[j]? = some x → Same H H2 → (∀ v H', Same H2 H' → (∀ e, es[j]? = some e → Rep H' v e) → Q2 v H') → te ((wipe σ [i]).set i (some x)) H2 Q2)
    (fin : ∀ d H' us, Same H H' → H' d = some (.lst us) → RepL H' us es → Q (.ref d) H') : tLc (iTup K (tVar a)) (gName i) tYes te [i] σ H Q := by
  refine ⟨_, hσ, p, rfl, ⟨_, SqT.of hp⟩, fun d nd => ?_⟩
  refine lc_tup (K := K) (a := p) (xs := vs) (fun j G => Same H G ∧ ∃ us : List V, G d = some (.lst us) ∧ us.length = j ∧ RepL G us (es.take j)) ⟨Same.new nd, [], upd_same, rfl, by simpa using RepL.nil⟩ (fun j G _ q => SqT.of (q.1 _ _ hp)) ?_ ?_
  · rintro j x G hx ⟨sG, us, gd, lu, ru⟩
    have hj : j < vs.length := (List.getElem?_eq_some_iff.mp hx).1
    obtain ⟨e, he⟩ : ∃ e, es[j]? = some e := ⟨es[j]'(by omega), List.getElem?_eq_getElem (by omega)⟩
    refine ⟨hw _, ?_⟩
    show te _ G _
    refine item j x G _ hx sG fun v G2 s2 r2 => ?_
    have gd2 := s2 _ _ gd
    have k3 : KeepT G (upd G2 d (.lst (us ++ [v]))) := (KeepT.of s2).upd gd2
    have k4 : KeepT G2 (upd G2 d (.lst (us ++ [v]))) := KeepT.upd (fun _ _ e => e) gd2
    refine ⟨us, gd2, ?_, fun c o q => ?_, us ++ [v], upd_same, by rw [List.length_append, lu]; rfl, ?_⟩
    · rw [lu, sizeLine_eq]
      omega
    · rw [upd_ne (ne_of_none q nd)]
      exact s2 _ _ (sG _ _ q)
    · rw [List.take_add_one, he]
      exact RepL.snoc (RepL.keepT k3 _ (pureL_take j pu) ru) (Rep.keepT k4 _ (pureL_at pu he) (r2 e he))
  · rintro G ⟨sG, us, gd, lu, ru⟩
    refine fin d G us sG gd ?_
    rw [← hl, List.take_length] at ru
    exact ru
/-- tuple([.. for x in t]) -/
theorem map_tuple {K : PySem.W.Frag} {p : Addr} {vs : List V} {es : List D} {a i : Nat} {te : TE} {σ : L2.St} {H : Hp} {Q : VK} (hσ : σ[a]? = some (some (.ref p))) (hp : H p = some (.tup vs)) (hl : es.length = vs.length) (pu : pureL es) (sz : vs.length ≤ 1000)
    (hw : ∀ x : V, wipe ((wipe σ [i]).set i (some x)) [i] = wipe σ [i])
    (item : ∀ (j : Nat) (x : V) (H2 : Hp) (Q2 : VK), vs[j]? = some x → Same H H2 → (∀ v H', Same H2 H' → (∀ e, es[j]? = some e → Rep H' v e) → Q2 v H') → te ((wipe σ [i]).set i (some x)) H2 Q2)
    (fin : ∀ t H', Same H H' → Rep H' (.ref t) (.tup es) → Q (.ref t) H') :
    tCB (fun xs H Q => ∃ p ys, xs = [.ref p] ∧ ((SqL K H p ys ∧ ∀ l, H l = none → Q (.ref l) (upd H l (.tup ys))) ∨ (SqT K H p ys ∧ Q (.ref p) H)))
      (tCons (tLc (iTup K (tVar a)) (gName i) tYes te [i]) tNil) σ H Q := by
  unfold tCB tCons tNil
  exact map_lc (K := K) (es := es) hσ hp hl pu sz hw item fun q G ws sG gq rw' => ⟨q, ws, rfl, .inl ⟨SqL.of gq, fun t nt => fin _ _ (sG.trans (Same.new nt)) (Rep.new nt rw')⟩⟩
end Lb
namespace Lb
open PySem PySem.Spec PyProof.Rows L2
theorem eqS_T {a : Str} {A B : Prop} (h : A) : if decide (V.str a = V.str a) = true then A else B := by
  rw [if_pos (decide_eq_true rfl)]
  exact h
theorem eqS_F {a b : Str} {A B : Prop} (n : a ≠ b) (h : B) : if decide (V.str a = V.str b) = true then A else B := by
  rw [if_neg fun q => n (V.str.inj (of_decide_eq_true q))]
  exact h
theorem Ch.rep {H : Hp} {v : V} : ∀ {c : Ch}, c.byNum → Rep H v c.d → ∃ p, v = .ref p ∧ H p = some (.tup [.str c.word, .int c.arg])
  | .add k, _, h => by
    obtain ⟨p, vs, rfl, h, r⟩ := h.tupE
    simp only [RepL, Rep] at r
    obtain ⟨_, _, rfl, rfl, _, _, rfl, rfl, rfl⟩ := r
    exact ⟨p, rfl, h⟩
  | .times k, _, h => by
    obtain ⟨p, vs, rfl, h, r⟩ := h.tupE
    simp only [RepL, Rep] at r
    obtain ⟨_, _, rfl, rfl, _, _, rfl, rfl, rfl⟩ := r
    exact ⟨p, rfl, h⟩
  | .rest k, _, h => by
    obtain ⟨p, vs, rfl, h, r⟩ := h.tupE
    simp only [RepL, Rep] at r
    obtain ⟨_, _, rfl, rfl, _, _, rfl, rfl, rfl⟩ := r
    exact ⟨p, rfl, h⟩
  | .one, b, _ => b.elim
  | .sum, b, _ => b.elim
theorem shaped_of {d : PyData} (a : d.canLay0 = true) (b : d.depth ≤ 64) : SeqAt.shaped d = true := by
  unfold SeqAt.shaped
  rw [a, decide_eq_true b]
  rfl
theorem strOk_add : PyData.canLay0 (.str "add") = true := by decide +kernel
theorem strOk_times : PyData.canLay0 (.str "times") = true := by decide +kernel
theorem strOk_rest : PyData.canLay0 (.str "rest") = true := by decide +kernel
theorem strOk_one : PyData.canLay0 (.str "one") = true := by decide +kernel
theorem strOk_sum : PyData.canLay0 (.str "sum") = true := by decide +kernel
theorem Ch.shaped (c : Ch) : SeqAt.shaped c.d.py = true := by
  cases c <;> refine shaped_of ?_ ?_ <;> simp [Ch.d, D.py, pyL, PyData.canLay0, PyData.canLayAll0, PyData.depth, PyData.depthAll]
  all_goals decide +kernel
def Ch.isOne : Ch → Bool
  | .one => true
  | _ => false
def Ch.isSum : Ch → Bool
  | .sum => true
  | _ => false
theorem eqv_one (c : Ch) : PyData.eqv c.d.py (Ch.one).d.py = c.isOne := by
  cases c <;> simp [Ch.d, D.py, pyL, PyData.eqv, PyData.eqvAll, Ch.isOne]
  all_goals decide +kernel
theorem eqv_sum (c : Ch) : PyData.eqv c.d.py (Ch.sum).d.py = c.isSum := by
  cases c <;> simp [Ch.d, D.py, pyL, PyData.eqv, PyData.eqvAll, Ch.isSum]
  all_goals decide +kernel
end Lb
namespace Lb
open PySem PySem.Spec PyProof.Rows L2
theorem holdsL_all (g : Gf) : ∀ ls : List Lk, holdsL ls g = ls.all fun l => l.holds g
  | [] => by
    simp only [holdsL]
    rfl
  | l :: ls => by simp only [holdsL, List.all_cons, holdsL_all g ls]
theorem testL_map : ∀ ls : List Lk, testL ls = ls.map Lk.d
  | [] => by simp only [testL, List.map_nil]
  | l :: ls => by simp only [testL, List.map_cons, testL_map ls]
theorem testL_get {ls : List Lk} {i : Nat} {l : Lk} (e : ls[i]? = some l) : (testL ls)[i]? = some l.d := by
  rw [testL_map, List.getElem?_map, e]
  rfl
theorem TestAll.at_ {n : Nat} : ∀ {ls : List Lk} {i : Nat} {l : Lk}, TestAll n ls → ls[i]? = some l → l.Ok n
  | [], i, l, _, e => by simp at e
  | c :: ls, 0, l, h, e => by
    simp only [TestAll] at h
    simp at e
    rw [← e]
    exact h.1
  | c :: ls, i + 1, l, h, e => by
    simp only [TestAll] at h
    exact TestAll.at_ h.2 (by simpa using e)
theorem Lk.rep_rest {H : Hp} {v : V} {m r : Int} (h : Rep H v (Lk.rest m r).d) : ∃ p, v = .ref p ∧ H p = some (.tup [.str "rest", .int m, .int r]) := by
  simp only [Lk.d] at h
  obtain ⟨p, vs, rfl, h, q⟩ := h.tupE
  simp only [RepL, Rep] at q
  obtain ⟨_, _, rfl, rfl, _, _, rfl, rfl, _, _, rfl, rfl, rfl⟩ := q
  exact ⟨p, rfl, h⟩
theorem Lk.rep_under {H : Hp} {v : V} {c : Int} (h : Rep H v (Lk.under c).d) : ∃ p, v = .ref p ∧ H p = some (.tup [.str "below", .int c]) := by
  simp only [Lk.d] at h
  obtain ⟨p, vs, rfl, h, q⟩ := h.tupE
  simp only [RepL, Rep] at q
  obtain ⟨_, _, rfl, rfl, _, _, rfl, rfl, rfl⟩ := q
  exact ⟨p, rfl, h⟩
theorem Lk.rep_after {H : Hp} {v : V} {cs : List Ch} {ls : List Lk} (h : Rep H v (Lk.after cs ls).d) : ∃ p a b, v = .ref p ∧ H p = some (.tup [.str "after", a, b]) ∧ Rep H a (ruleD cs) ∧ Rep H b (testD ls) := by
  simp only [Lk.d] at h
  obtain ⟨p, vs, rfl, h, q⟩ := h.tupE
  unfold RepL at q
  obtain ⟨s, r1, rfl, q0, q⟩ := q
  unfold RepL at q
  obtain ⟨a, r2, rfl, q1, q⟩ := q
  unfold RepL at q
  obtain ⟨b, r3, rfl, q2, q⟩ := q
  unfold RepL at q
  subst q
  simp only [Rep] at q0
  subst q0
  exact ⟨p, a, b, rfl, h, q1, q2⟩
end Lb
namespace Lb
open PySem PySem.Spec PyProof.Rows L2
theorem ifd_T {P A B : Prop} [Decidable P] (h : P) (a : A) : if decide P = true then A else B := by
  rw [if_pos (decide_eq_true h)]
  exact a
theorem ifd_F {P A B : Prop} [Decidable P] (h : ¬ P) (b : B) : if decide P = true then A else B := by
  rw [if_neg fun q => h (of_decide_eq_true q)]
  exact b
theorem ifn_F {P A B : Prop} [Decidable P] (h : P) (b : B) : if (!decide P) = true then A else B := by
  rw [if_neg fun q => by rw [decide_eq_true h] at q; cases q]
  exact b
theorem ifn_T {P A B : Prop} [Decidable P] (h : ¬ P) (a : A) : if (!decide P) = true then A else B := by
  rw [if_pos (by rw [decide_eq_false h]; rfl)]
  exact a
theorem ifi_T {a b : Int} {A B : Prop} (h : a = b) (x : A) : if decide (V.int a = V.int b) = true then A else B := by
  rw [if_pos (decide_eq_true (by rw [h]))]
  exact x
theorem ifi_F {a b : Int} {A B : Prop} (h : a ≠ b) (x : B) : if decide (V.int a = V.int b) = true then A else B := by
  rw [if_neg fun q => h (V.int.inj (of_decide_eq_true q))]
  exact x
theorem beqS (a z : Str) : (a == z) = decide (z = a) := by
  by_cases h : z = a
  · rw [decide_eq_true h, h, beq_self_eq_true]
  · rw [decide_eq_false h]
    exact beq_eq_false_iff_ne.mpr fun q => h q.symm
theorem in2 (z a b : Str) : inV (.str z) [.str a, .str b] = (decide (z = a) || decide (z = b)) := by
  show ((a == z) || ((b == z) || false)) = _
  rw [beqS, beqS, Bool.or_false]
theorem in3 (z a b c : Str) : inV (.str z) [.str a, .str b, .str c] = (decide (z = a) || (decide (z = b) || decide (z = c))) := by
  show ((a == z) || ((b == z) || ((c == z) || false))) = _
  rw [beqS, beqS, beqS, Bool.or_false]
end Lb
namespace Lb
open PySem PySem.Spec PyProof.Rows L2
theorem noStr {a : D} (h : a.isStr = false) : ∀ z, a ≠ .str z := fun z e => by
  subst e
  cases h
theorem DeepL.at_ {n : Nat} : ∀ {ds : List D} {i : Nat} {d : D}, DeepL n ds → ds[i]? = some d → d.Deep n
  | [], i, d, _, e => by simp at e
  | c :: ds, 0, d, h, e => by
    simp only [DeepL] at h
    simp at e
    rw [← e]
    exact h.1
  | c :: ds, i + 1, d, h, e => by
    simp only [DeepL] at h
    exact DeepL.at_ h.2 (by simpa using e)
mutual
theorem D.Deep.up : ∀ {n : Nat} (d : D), d.Deep n → d.Deep (n + 1)
  | n, .non, _ => by simp only [D.Deep]
  | n, .bl b, _ => by simp only [D.Deep]
  | n, .int b, _ => by simp only [D.Deep]
  | n, .str b, _ => by simp only [D.Deep]
  | n, .emp, _ => by simp only [D.Deep]
  | 0, .tup gs, h => by simp only [D.Deep] at h
  | n + 1, .tup gs, h => by
    simp only [D.Deep] at h ⊢
    exact DeepL.up gs h
theorem DeepL.up : ∀ {n : Nat} (gs : List D), DeepL n gs → DeepL (n + 1) gs
  | n, [], _ => by simp only [DeepL]
  | n, g :: gs, h => by
    simp only [DeepL] at h ⊢
    exact ⟨D.Deep.up g h.1, DeepL.up gs h.2⟩
end
theorem Deep.third {m : Nat} {a b c : D} (h : (D.tup [a, b, c]).Deep m) : c.Deep m := by
  cases m with
  | zero => simp only [D.Deep] at h
  | succ m =>
    simp only [D.Deep, DeepL] at h
    exact D.Deep.up c h.2.2.1
theorem ifnS_F {a : Str} {A B : Prop} (h : B) : if (!decide (V.str a = V.str a)) = true then A else B := ifn_F rfl h
theorem ifnS_T {a b : Str} {A B : Prop} (n : a ≠ b) (h : A) : if (!decide (V.str a = V.str b)) = true then A else B := ifn_T (fun q => n (V.str.inj q)) h
theorem inI (k a b : Int) : inV (.int k) [.int a, .int b] = (decide (k = a) || decide (k = b)) := by
  show ((a == k) || ((b == k) || false)) = _
  have f : ∀ x : Int, (x == k) = decide (k = x) := fun x => by
    by_cases h : k = x
    · rw [decide_eq_true h, h, beq_self_eq_true]
    · rw [decide_eq_false h]
      exact beq_eq_false_iff_ne.mpr fun q => h q.symm
  rw [f, f, Bool.or_false]
theorem ifb_T {b : Bool} {A B : Prop} (h : b = true) (a : A) : if b = true then A else B := by
  rw [if_pos h]
  exact a
theorem ifb_F {b : Bool} {A B : Prop} (h : b = false) (x : B) : if b = true then A else B := by
  rw [if_neg (by rw [h]; exact Bool.false_ne_true)]
  exact x
end Lb
namespace Lb
open PySem PySem.Spec PyProof.Rows L2
/-- t[:k] -/
theorem sl_take {K : PySem.W.Frag} {H : Hp} {a : Addr} {ds : List D} {k : Nat} {Q : VK} (h : Rep H (.ref a) (.tup ds)) (kl : k ≤ ds.length)
    (q : ∀ t H', Same H H' → Rep H' (.ref t) (.tup (ds.take k)) → Q (.ref t) H') : rSlA K (.ref a) none (some (k : Int)) H Q := by
  obtain ⟨p, vs, e, hp, r⟩ := h.tupE
  cases e
  have l := r.length
  refine ⟨a, vs, rfl, SqT.of hp, fun hw => ?_, fun hw t nt => ?_⟩
  · have h2 := hw.2
    rw [HT.sIx_nat] at h2
    have e : ds.take k = ds := by
      rw [List.take_of_length_le]
      omega
    exact q a H (Same.refl H) (by rw [e]; exact h)
  · refine q t _ (Same.new nt) ?_
    have e : cutV vs none (some (k : Int)) = vs.take k := by
      show (vs.drop (HT.sIx vs.length 0 none)).take (HT.sIx vs.length vs.length (some (k : Int)) - HT.sIx vs.length 0 none) = _
      rw [HT.sIx_none, HT.sIx_nat, List.drop_zero, Nat.sub_zero]
      rw [Nat.min_eq_left (by omega)]
    rw [e]
    exact Rep.new nt (r.take k)
/-- t[k:] -/
theorem sl_drop {K : PySem.W.Frag} {H : Hp} {a : Addr} {ds : List D} {k : Nat} {Q : VK} (h : Rep H (.ref a) (.tup ds)) (kl : k ≤ ds.length)
    (q : ∀ t H', Same H H' → Rep H' (.ref t) (.tup (ds.drop k)) → Q (.ref t) H') : rSlA K (.ref a) (some (k : Int)) none H Q := by
  obtain ⟨p, vs, e, hp, r⟩ := h.tupE
  cases e
  have l := r.length
  refine ⟨a, vs, rfl, SqT.of hp, fun hw => ?_, fun hw t nt => ?_⟩
  · have h2 := hw.1
    rw [HT.sIx_nat] at h2
    by_cases hk : k = 0
    · subst hk
      exact q a H (Same.refl H) h
    · have e : ds = [] := by
        apply List.eq_nil_of_length_eq_zero
        omega
      subst e
      exact q a H (Same.refl H) (by rw [List.drop_nil]; exact h)
  · refine q t _ (Same.new nt) ?_
    have e : cutV vs (some (k : Int)) none = vs.drop k := by
      show (vs.drop (HT.sIx vs.length 0 (some (k : Int)))).take (HT.sIx vs.length vs.length none - HT.sIx vs.length 0 (some (k : Int))) = _
      rw [HT.sIx_none, HT.sIx_nat, Nat.min_eq_left (by omega), List.take_of_length_le]
      rw [List.length_drop]
      omega
    rw [e]
    exact Rep.new nt (r.drop k)
/-- t + u -/
theorem cat_rep {K : PySem.W.Frag} {H : Hp} {a b : Addr} {ds es : List D} {Q : VK} (h : Rep H (.ref a) (.tup ds)) (g : Rep H (.ref b) (.tup es)) (l : ds.length + es.length ≤ 1000)
    (q : ∀ t H', Same H H' → Rep H' (.ref t) (.tup (ds ++ es)) → Q (.ref t) H') : rCatA K (.ref a) (.ref b) H Q := by
  obtain ⟨p, vs, e, hp, r⟩ := h.tupE
  cases e
  obtain ⟨p', us, e, hp', r'⟩ := g.tupE
  cases e
  have l1 := r.length
  have l2 := r'.length
  refine ⟨a, b, vs, us, rfl, rfl, SqT.of hp, SqT.of hp', by rw [sizeLine_eq]; omega, fun e => ?_, fun _ e => ?_, fun _ _ t nt => ?_⟩
  · have e2 : ds = [] := by
      apply List.eq_nil_of_length_eq_zero
      rw [← l1, e]
      rfl
    subst e2
    exact q b H (Same.refl H) g
  · have e2 : es = [] := by
      apply List.eq_nil_of_length_eq_zero
      rw [← l2, e]
      rfl
    subst e2
    exact q a H (Same.refl H) (by rw [List.append_nil]; exact h)
  · exact q t _ (Same.new nt) (Rep.new nt (RepL.app r' r))
theorem DeepL.app {n : Nat} : ∀ {ds es : List D}, DeepL n ds → DeepL n es → DeepL n (ds ++ es)
  | [], es, _, b => b
  | d :: ds, es, a, b => by
    simp only [DeepL, List.cons_append] at a ⊢
    exact ⟨a.1, DeepL.app a.2 b⟩
theorem DeepL.take {n : Nat} : ∀ {ds : List D} (k : Nat), DeepL n ds → DeepL n (ds.take k)
  | ds, 0, _ => by simp only [List.take_zero, DeepL]
  | [], k + 1, _ => by simp only [List.take_nil, DeepL]
  | d :: ds, k + 1, h => by
    simp only [DeepL] at h
    simp only [List.take_succ_cons, DeepL]
    exact ⟨h.1, DeepL.take k h.2⟩
theorem DeepL.drop {n : Nat} : ∀ {ds : List D} (k : Nat), DeepL n ds → DeepL n (ds.drop k)
  | ds, 0, h => h
  | [], k + 1, h => h
  | d :: ds, k + 1, h => by
    simp only [DeepL] at h
    exact DeepL.drop k h.2
theorem D.Deep.le {n m : Nat} {d : D} (h : d.Deep n) (l : n ≤ m) : d.Deep m := by
  obtain ⟨k, rfl⟩ := Nat.le.dest l
  induction k with
  | zero => exact h
  | succ k ih => exact D.Deep.up d (ih (by omega))
theorem DeepL.le {n m : Nat} : ∀ {ds : List D}, DeepL n ds → n ≤ m → DeepL m ds
  | [], _, _ => by simp only [DeepL]
  | d :: ds, h, l => by
    simp only [DeepL] at h ⊢
    exact ⟨h.1.le l, DeepL.le h.2 l⟩
theorem Pot.keeps {H H' : Hp} {p : Addr} (hp : Pot H p) (b : But p p H H') : Keeps H H' := by
  obtain ⟨x, y, e, _⟩ := hp
  refine ⟨fun c vs h => b _ _ h (fun q => ?_) (fun q => ?_), fun c h => b _ _ h (fun q => ?_) (fun q => ?_)⟩ <;> (rw [q, e] at h; cases h)
theorem RepL.keep' {H H' : Hp} {vs : List V} {ds : List D} (h : RepL H vs ds) (k : Keeps H H') : RepL H' vs ds := RepL.keep k ds h
theorem Rep.keep' {H H' : Hp} {v : V} {d : D} (h : Rep H v d) (k : Keeps H H') : Rep H' v d := Rep.keep k d h
end Lb


set_option Elab.async false
set_option linter.all false
set_option maxRecDepth 100000
set_option maxHeartbeats 4000000
namespace K82
open PySem PySem.Spec PyProof.Rows L2 Lb
abbrev sWhole1 : Stmt := top 28
abbrev sReadsR : Stmt := top 29
def spWhole1 : Sp := fun vs H Q _ => ∃ (v : V) (d : D), vs = [v] ∧ Rep H v d ∧ Q (.bl d.whole) H
def spReadsR : Sp := fun vs H Q _ => ∃ (v : V) (d : D), vs = [v] ∧ Rep H v d ∧ ∀ H', Same H H' → Q (.bl (isRuleB d)) H'
section
variable {P : Program} {w : World} {K : PySem.W.Frag} {mg : Str → Option Value} {base : Heap}
theorem scWhole1 : FnScope ["_law_thing"] ["_law_thing"] (defScope sWhole1) := ⟨rfl, rfl, rfl, by decide +kernel, rfl, by decide +kernel, by decide +kernel⟩
theorem ok_whole1 {f : Addr} {fd : FuncData} (F : Fun K "_law_whole_one" "_law_whole_one" sWhole1 f fd) (B : Blt mg) : FnOk P w K mg base CX0 1 f fd ["_law_thing"] spWhole1 := by
  refine F.ok scWhole1 (fun vs H Q E h => ?_) (fun cdv A outer s H vs Q E hr h => ?_)
  · obtain ⟨v, d, rfl, _⟩ := h
    rfl
  · obtain ⟨v, d, rfl, rp, fin⟩ := h
    refine ⟨_, pss_one (ps_ret (pe_and (pe_callB call_isi (by rfl) B.isinstance boot_isinstance (pa_cons (pv 0) (pa_cons (pe_bltn (v := .ty "int") (by rfl) B.int boot_int rfl) pa_nil)))
      (pe_one (pe_not (pe_callB call_isi (by rfl) B.isinstance boot_isinstance (pa_cons (pv 0) (pa_cons (pe_bltn (v := .ty "bool") (by rfl) B.bool boot_bool rfl) pa_nil))))))), ?_⟩
    refine ⟨_, rfl, v, .ty "int", _, _, _, rfl, .ty _, rp.ty, kit_ty (kit_int _), _, rfl, ?_⟩
    have two : rIsi K [v, .ty "bool"] H (fun x H1 => ∃ c, x = .bl c ∧ Q (.bl (!c)) H1) → d.isInt = true → (if d.isInt = true then (tNotV (tCB (rIsi K) (tCons (tVar 0) (tCons (tC (.ty "bool")) tNil)))) [some v] H Q else Q (.bl false) H) := fun h e => by
      rw [e]
      exact iteT ⟨_, rfl, h⟩
    cases d with
    | int i => exact iteT ⟨_, rfl, v, .ty "bool", _, _, _, rfl, .ty _, rp.ty, kit_ty (kit_bool _), _, rfl, fin⟩
    | bl b => exact iteT ⟨_, rfl, v, .ty "bool", _, _, _, rfl, .ty _, rp.ty, kit_ty (kit_bool _), _, rfl, fin⟩
    | non => exact iteF fin
    | str z => exact iteF fin
    | emp => exact iteF fin
    | tup ds => exact iteF fin
abbrev nReadsR : List Str := ["_law_thing", "_law_one"]
theorem scReadsR : FnScope nReadsR ["_law_thing"] (defScope sReadsR) := ⟨rfl, rfl, rfl, by decide +kernel, rfl, by decide +kernel, by decide +kernel⟩
theorem ok_readsR {f : Addr} {fd : FuncData} (F : Fun K "_law_reads_rule" "_law_reads_rule" sReadsR f fd) (B : Blt mg)
    (DW : GD P w K mg base CX0 "_law_whole_one" ["_law_thing"] 1 spWhole1) : FnOk P w K mg base CX0 2 f fd ["_law_thing"] spReadsR := by
  refine F.ok scReadsR (fun vs H Q E h => ?_) (fun cdv A outer s H vs Q E hr h => ?_)
  · obtain ⟨v, d, rfl, _⟩ := h
    rfl
  · obtain ⟨v, d, rfl, rp, fin⟩ := h
    refine ⟨_, pss_cons (ps_if (pt_not (pt_val (pe_callB call_isi (by rfl) B.isinstance boot_isinstance (pa_cons (pv 0) (pa_cons (pe_bltn (v := .ty "tuple") (by rfl) B.tuple boot_tuple rfl) pa_nil))))) (pss_one (ps_ret pe_bl)) pss_nil)
      (pss_cons (ps_for PassesOwn.never rfl (pi_tup (pv 0)) (pg_name (i := 1) scReadsR.nd rfl (.inl rfl))
        (pss_cons (ps_if (PW.pt (pw_or (pt_not (pt_val (pe_callB call_isi (by rfl) B.isinstance boot_isinstance (pa_cons (pv 1) (pa_cons (pe_bltn (v := .ty "tuple") (by rfl) B.tuple boot_tuple rfl) pa_nil)))))
            (pw_or (pt_not (pt_chain op_le op_le pe_int (pe_callB call_len_seq (by rfl) B.len boot_len (pa_cons (pv 1) pa_nil)) pe_int))
            (pw_or1 (pt_not (pt_val (pe_callB call_isi (by rfl) B.isinstance boot_isinstance (pa_cons (pe_ix ix_tup (pv 1) pe_int (fun _ _ => rfl)) (pa_cons (pe_bltn (v := .ty "str") (by rfl) B.str boot_str rfl) pa_nil))))))))) (pss_one (ps_ret pe_bl)) pss_nil)
        (pss_cons (ps_if (pt_cmpR op_notIn_seq (pe_ix ix_tup (pv 1) pe_int (fun _ _ => rfl)) (pe_ifExp (pt_cmpR op_eq (pe_callB call_len_seq (by rfl) B.len boot_len (pa_cons (pv 1) pa_nil)) pe_int (nomark _)) (pe_lst (pa_cons pe_str (pa_cons pe_str pa_nil))) (pe_lst (pa_cons pe_str (pa_cons pe_str (pa_cons pe_str pa_nil))))) rfl) (pss_one (ps_ret pe_bl)) pss_nil)
        (pss_one (ps_if (PW.pt (pw_and (pt_cmpR op_eq (pe_callB call_len_seq (by rfl) B.len boot_len (pa_cons (pv 1) pa_nil)) pe_int (nomark _)) (pw_and1
            (PW.pt (pw_or (pt_not (pt_val (pe_gd DW hr rfl pass0 (pa_cons (pe_ix ix_tup (pv 1) pe_int (fun _ _ => rfl)) pa_nil)))) (pw_or1
              (PW.pt (pw_and (pt_cmpR op_eq (pe_ix ix_tup (pv 1) pe_int (fun _ _ => rfl)) pe_str (nomark _)) (pw_and1 (pt_cmpR op_lt (pe_ix ix_tup (pv 1) pe_int (fun _ _ => rfl)) pe_int (nomark _))))))))))) (pss_one (ps_ret pe_bl)) pss_nil)))))
      (pss_one (ps_ret pe_bl))), ?_⟩
    refine ⟨_, rfl, v, .ty "tuple", _, _, _, rfl, .ty _, rp.ty, kit_ty (kit_tuple _), _, rfl, ?_⟩
    cases ht : d.isTup with
    | false =>
      refine iteT ?_
      have e : isRuleB d = false := by cases d <;> first | rfl | cases ht
      have := fin H (Same.refl H)
      rw [e] at this
      exact this
    | true =>
      refine iteF ?_
      obtain ⟨ds, rfl⟩ : ∃ ds, d = .tup ds := by
        cases d <;> first | exact ⟨_, rfl⟩ | cases ht
      obtain ⟨p, us, rfl, hp, rl⟩ := rp.tupE
      have lus := rl.length
      refine ⟨_, rfl, p, rfl, ⟨_, SqT.of hp⟩, for_tup (K := K) (a := p) (xs := us) (fun i σ G => ∃ (y : Option V), σ = [some (.ref p), y] ∧ Same H G ∧ ∀ j x, j < i → ds[j]? = some x → chOk x = true)
        ⟨_, rfl, Same.refl H, fun j l h => absurd h (by omega)⟩ (fun i σ G _ ⟨_, _, sG, _⟩ => SqT.of (sG _ _ hp)) ?_ ?_⟩
      · rintro i x σ G hx ⟨y, rfl, sG, all⟩
        have hi : i < us.length := (List.getElem?_eq_some_iff.mp hx).1
        obtain ⟨e, he⟩ : ∃ e, ds[i]? = some e := ⟨ds[i]'(by omega), List.getElem?_eq_getElem (by omega)⟩
        obtain ⟨x', hx', rx⟩ := rl.at_ he
        rw [hx] at hx'
        cases hx'
        have rx := rx.same sG
        have bad : chOk e = false → ∀ G2, Same G G2 → Q (.bl false) G2 := by
          intro hb G2 s2
          have e2 : isRuleB (.tup ds) = false := by
            show ds.all chOk = false
            rw [List.all_eq_false]
            exact ⟨e, List.mem_of_getElem? he, by rw [hb]; exact Bool.false_ne_true⟩
          have := fin G2 (sG.trans s2)
          rw [e2] at this
          exact this
        have good : chOk e = true → ∀ G2, Same G G2 → ∃ (y : Option V), [some (V.ref p), some x] = [some (.ref p), y] ∧ Same H G2 ∧ ∀ j x, j < i + 1 → ds[j]? = some x → chOk x = true := by
          intro hg G2 s2
          refine ⟨_, rfl, sG.trans s2, fun j z hj ej => ?_⟩
          rcases Nat.lt_succ_iff_lt_or_eq.mp hj with q | q
          · exact all j z q ej
          · rw [q, he] at ej
            cases ej
            exact hg
        refine ⟨_, rfl, x, .ty "tuple", _, _, _, rfl, .ty _, rx.ty, kit_ty (kit_tuple _), _, rfl, ?_⟩
        cases h2 : e.isTup with
        | false => exact iteT (bad (by cases e <;> first | rfl | cases h2) G (Same.refl G))
        | true =>
          refine iteF ?_
          obtain ⟨es, rfl⟩ : ∃ es, e = .tup es := by
            cases e <;> first | exact ⟨_, rfl⟩ | cases h2
          obtain ⟨q, ws, rfl, hq, rw'⟩ := rx.tupE
          have lws := rw'.length
          refine ⟨_, rfl, q, _, rfl, .inr (SqT.of hq), _, _, rfl, rfl, _, rfl, ?_⟩
          match es, rw', lws, bad, good with
          | [], rw', lws, bad, good =>
            obtain rfl : ws = [] := by simpa only [RepL] using rw'
            exact ifd_F (by decide) ⟨_, rfl, iteT (bad rfl G (Same.refl G))⟩
          | [a], rw', lws, bad, good =>
            simp only [RepL] at rw'
            obtain ⟨va, _, rfl, ra, rfl⟩ := rw'
            refine ifd_T (show (1 : Int) ≤ ((1 : Nat) : Int) by decide) ⟨_, _, rfl, rfl, _, rfl, ifn_F (show ((1 : Nat) : Int) ≤ 2 by decide) ?_⟩
            refine ⟨_, rfl, q, _, 0, _, rfl, rfl, SqT.of hq, rfl, va, .ty "str", _, _, _, rfl, .ty _, ra.ty, kit_ty (kit_str _), _, rfl, ?_⟩
            cases h3 : a.isStr with
            | false => exact iteT (bad (by cases a <;> first | rfl | cases h3) G (Same.refl G))
            | true =>
              refine iteF ?_
              obtain ⟨z, rfl⟩ : ∃ z, a = .str z := by
                cases a <;> first | exact ⟨_, rfl⟩ | cases h3
              obtain rfl : va = .str z := by simpa only [Rep] using ra
              refine ⟨_, rfl, q, _, 0, _, rfl, rfl, SqT.of hq, rfl, _, rfl, q, _, rfl, .inr (SqT.of hq), rfl, _, rfl, ifi_T rfl ⟨(by show 2 ≤ sizeLine; decide), fun l nl => ⟨l, _, rfl, .inl (SqL.of upd_same), rfl, rfl, _, rfl, ?_⟩⟩⟩
              rw [in2]
              have sl : Same G (upd G l (.lst [.str "one", .str "sum"])) := Same.new nl
              cases h4 : (decide (z = "one") || decide (z = "sum")) with
              | false => exact iteT (bad h4 _ sl)
              | true =>
                refine iteF ⟨_, rfl, q, _, rfl, .inr (SqT.of (sl _ _ hq)), rfl, _, rfl, ifi_F (show ((1 : Nat) : Int) ≠ 2 by decide) (good h4 _ sl)⟩
          | [a, b], rw', lws, bad, good =>
            simp only [RepL] at rw'
            obtain ⟨va, _, rfl, ra, vb, _, rfl, rb, rfl⟩ := rw'
            refine ifd_T (show (1 : Int) ≤ ((2 : Nat) : Int) by decide) ⟨_, _, rfl, rfl, _, rfl, ifn_F (show ((2 : Nat) : Int) ≤ 2 by decide) ?_⟩
            refine ⟨_, rfl, q, _, 0, _, rfl, rfl, SqT.of hq, rfl, va, .ty "str", _, _, _, rfl, .ty _, ra.ty, kit_ty (kit_str _), _, rfl, ?_⟩
            cases h3 : a.isStr with
            | false => exact iteT (bad (by cases a <;> first | rfl | cases h3) G (Same.refl G))
            | true =>
              refine iteF ?_
              obtain ⟨z, rfl⟩ : ∃ z, a = .str z := by
                cases a <;> first | exact ⟨_, rfl⟩ | cases h3
              obtain rfl : va = .str z := by simpa only [Rep] using ra
              refine ⟨_, rfl, q, _, 0, _, rfl, rfl, SqT.of hq, rfl, _, rfl, q, _, rfl, .inr (SqT.of hq), rfl, _, rfl, ifi_F (show ((2 : Nat) : Int) ≠ 1 by decide) ⟨(by show 3 ≤ sizeLine; decide), fun l nl => ⟨l, _, rfl, .inl (SqL.of upd_same), rfl, rfl, _, rfl, ?_⟩⟩⟩
              rw [in3]
              have sl : Same G (upd G l (.lst [.str "add", .str "times", .str "rest"])) := Same.new nl
              cases h4 : (decide (z = "add") || (decide (z = "times") || decide (z = "rest"))) with
              | false =>
                refine iteT (bad ?_ _ sl)
                cases b <;> first | rfl | skip
                show (decide (z = "add") || decide (z = "times") || (decide (z = "rest") && _)) = false
                simp only [Bool.or_eq_false_iff] at h4
                rw [h4.1, h4.2.1, h4.2.2]
                rfl
              | true =>
                refine iteF ⟨_, rfl, q, _, rfl, .inr (SqT.of (sl _ _ hq)), rfl, _, rfl, ifi_T rfl ?_⟩
                refine ⟨_, rfl, q, _, 1, _, rfl, rfl, SqT.of (sl _ _ hq), rfl, vb, b, rfl, rb.same sl, _, rfl, ?_⟩
                cases h5 : b.whole with
                | false => exact iteT (bad (by cases b <;> first | rfl | cases h5) _ sl)
                | true =>
                  refine iteF ?_
                  obtain ⟨k, rfl⟩ : ∃ k, b = .int k := by
                    cases b <;> first | exact ⟨_, rfl⟩ | cases h5
                  obtain rfl : vb = .int k := by simpa only [Rep] using rb
                  refine ⟨_, rfl, q, _, 0, _, rfl, rfl, SqT.of (sl _ _ hq), rfl, rfl, _, rfl, ?_⟩
                  by_cases h6 : z = "rest"
                  · subst h6
                    refine eqS_T ⟨_, rfl, q, _, 1, _, rfl, rfl, SqT.of (sl _ _ hq), rfl, _, _, rfl, rfl, _, rfl, ite2 (fun h7 => ?_) (fun h7 => ?_)⟩
                    · have h7 : k < 1 := of_decide_eq_true h7
                      refine bad ?_ _ sl
                      show (decide (("rest" : Str) = "add") || decide (("rest" : Str) = "times") || (decide (("rest" : Str) = "rest") && decide (1 ≤ k))) = false
                      rw [decide_eq_false (show ¬ 1 ≤ k by omega), Bool.and_false, Bool.or_false]
                      decide +kernel
                    · have h7 : ¬ k < 1 := fun q => h7 (decide_eq_true q)
                      refine good ?_ _ sl
                      show (decide (("rest" : Str) = "add") || decide (("rest" : Str) = "times") || (decide (("rest" : Str) = "rest") && decide (1 ≤ k))) = true
                      rw [decide_eq_true (show 1 ≤ k by omega), Bool.and_true]
                      decide +kernel
                  · refine eqS_F h6 (good ?_ _ sl)
                    show (decide (z = "add") || decide (z = "times") || (decide (z = "rest") && decide (1 ≤ k))) = true
                    rw [decide_eq_false h6, Bool.or_false] at h4
                    rw [h4]
                    rfl
          | a :: b :: c :: r, rw', lws, bad, good =>
            have l3 : (ws.length : Int) = (r.length : Int) + 3 := by
              rw [lws]
              simp
              omega
            refine ifd_T (by omega) ⟨_, _, rfl, rfl, _, rfl, ifn_T (by omega) ?_⟩
            exact bad (by cases a <;> first | rfl | (cases b <;> rfl)) G (Same.refl G)
      · rintro σ G ⟨y, rfl, sG, all⟩
        have e : isRuleB (.tup ds) = true := by
          show ds.all chOk = true
          rw [List.all_eq_true]
          intro z hz
          obtain ⟨j, hj⟩ := List.getElem?_of_mem hz
          have h1 : j < ds.length := (List.getElem?_eq_some_iff.mp hj).1
          exact all j z (by omega) hj
        have := fin G sG
        rw [e] at this
        exact this
end
end K82


set_option Elab.async false
set_option linter.all false
set_option maxRecDepth 100000
set_option maxHeartbeats 4000000
namespace K82
open PySem PySem.Spec PyProof.Rows L2 Lb
abbrev sReadsL : Stmt := top 30
mutual
/-- no tuple in it is wider -/
def D.Thin : D → Prop
  | .tup ds => ds.length ≤ 20 ∧ ThinL ds
  | _ => True
def ThinL : List D → Prop
  | [] => True
  | d :: ds => D.Thin d ∧ ThinL ds
end
theorem ThinL.at_ : ∀ {ds : List D} {i : Nat} {d : D}, ThinL ds → ds[i]? = some d → D.Thin d
  | [], i, d, _, e => by simp at e
  | c :: ds, 0, d, h, e => by
    simp only [ThinL] at h
    simp at e
    rw [← e]
    exact h.1
  | c :: ds, i + 1, d, h, e => by
    simp only [ThinL] at h
    exact ThinL.at_ h.2 (by simpa using e)
/-- a thing that can be shown and compared: its texts are sound, no tuple in it is too wide -/
def Good (d : D) : Prop := d.py.canLay0 = true ∧ D.Thin d
def spReadsT (n : Nat) : Sp := fun vs H Q _ => ∃ (v : V) (d : D), vs = [v] ∧ Rep H v d ∧ d.Deep n ∧ Good d ∧ ∀ H', Same H H' → Q (.bl (testN n d)) H'
def spReadsL (n : Nat) : Sp := fun vs H Q _ => ∃ (v : V) (d : D), vs = [v] ∧ Rep H v d ∧ d.Deep n ∧ Good d ∧ ∀ H', Same H H' → Q (.bl (lkOk (testN n) d)) H'
theorem lay_third {a b c : D} (h : Good (D.tup [a, b, c])) : Good c := by
  obtain ⟨h1, h2⟩ := h
  simp only [D.py, pyL, PyData.canLay0, PyData.canLayAll0, Bool.and_eq_true] at h1
  simp only [D.Thin, ThinL] at h2
  exact ⟨h1.2.2.1, h2.2.2.2.1⟩
section
variable {P : Program} {w : World} {K : PySem.W.Frag} {mg : Str → Option Value} {base : Heap}
theorem scReadsL : FnScope ["_law_one"] ["_law_one"] (defScope sReadsL) := ⟨rfl, rfl, rfl, by decide +kernel, rfl, by decide +kernel, by decide +kernel⟩
theorem ok_readsL {f : Addr} {fd : FuncData} (F : Fun K "_law_reads_look" "_law_reads_look" sReadsL f fd) (B : Blt mg) (n : Nat) {k : Nat} (hk : 2 ≤ k)
    (DW : GD P w K mg base CX0 "_law_whole_one" ["_law_thing"] 1 spWhole1) (DR : GD P w K mg base CX0 "_law_reads_rule" ["_law_thing"] 2 spReadsR)
    (DT : GD P w K mg base CX0 "_law_reads_test" ["_law_thing"] k (spReadsT n)) : FnOk P w K mg base CX0 (k + 1) f fd ["_law_one"] (spReadsL n) := by
  refine F.ok scReadsL (fun vs H Q E h => ?_) (fun cdv A outer s H vs Q E hr h => ?_)
  · obtain ⟨v, d, rfl, _⟩ := h
    rfl
  · obtain ⟨v, d, rfl, rp, dp, lay, fin⟩ := h
    have hr1 := hr.mono (show 1 ≤ k by omega)
    have hr2 := hr.mono (show 2 ≤ k by omega)
    refine ⟨_, pss_cons (ps_if (PW.pt (pw_or (pt_not (pt_val (pe_callB call_isi (by rfl) B.isinstance boot_isinstance (pa_cons (pv 0) (pa_cons (pe_bltn (v := .ty "tuple") (by rfl) B.tuple boot_tuple rfl) pa_nil)))))
            (pw_or (pt_cmpR op_notIn_seq (pe_callB call_len_seq (by rfl) B.len boot_len (pa_cons (pv 0) pa_nil)) (pe_tup (pa_cons pe_int (pa_cons pe_int pa_nil))) rfl)
            (pw_or1 (pt_not (pt_val (pe_callB call_isi (by rfl) B.isinstance boot_isinstance (pa_cons (pe_ix ix_tup (pv 0) pe_int (fun _ _ => rfl)) (pa_cons (pe_bltn (v := .ty "str") (by rfl) B.str boot_str rfl) pa_nil))))))))) (pss_one (ps_ret pe_bl)) pss_nil)
      (pss_cons (ps_if (pt_cmpR op_eq (pe_callB call_len_seq (by rfl) B.len boot_len (pa_cons (pv 0) pa_nil)) pe_int (nomark _))
        (pss_one (ps_ret (pe_and (pe_cmpR op_eq (pe_ix ix_tup (pv 0) pe_int (fun _ _ => rfl)) pe_str (nomark _)) (pe_one (pe_gd DW hr1 rfl pass0 (pa_cons (pe_ix ix_tup (pv 0) pe_int (fun _ _ => rfl)) pa_nil)))))) pss_nil)
      (pss_cons (ps_if (pt_cmpR op_eq (pe_ix ix_tup (pv 0) pe_int (fun _ _ => rfl)) pe_str (nomark _))
        (pss_one (ps_ret (pe_and (pe_gd DR hr2 rfl pass0 (pa_cons (pe_ix ix_tup (pv 0) pe_int (fun _ _ => rfl)) pa_nil)) (pe_one (pe_gd DT hr rfl pass0 (pa_cons (pe_ix ix_tup (pv 0) pe_int (fun _ _ => rfl)) pa_nil)))))) pss_nil)
      (pss_cons (ps_if (PW.pt (pw_or (pt_cmpR op_ne (pe_ix ix_tup (pv 0) pe_int (fun _ _ => rfl)) pe_str (nomark _)) (pw_or (pt_not (pt_val (pe_gd DW hr1 rfl pass0 (pa_cons (pe_ix ix_tup (pv 0) pe_int (fun _ _ => rfl)) pa_nil)))) (pw_or1 (pt_not (pt_val (pe_gd DW hr1 rfl pass0 (pa_cons (pe_ix ix_tup (pv 0) pe_int (fun _ _ => rfl)) pa_nil)))))))) (pss_one (ps_ret pe_bl)) pss_nil)
      (pss_one (ps_ret (pe_chain op_le op_lt pe_int (pe_ix ix_tup (pv 0) pe_int (fun _ _ => rfl)) (pe_ix ix_tup (pv 0) pe_int (fun _ _ => rfl)))))))), ?_⟩
    refine ⟨_, rfl, v, .ty "tuple", _, _, _, rfl, .ty _, rp.ty, kit_ty (kit_tuple _), _, rfl, ?_⟩
    cases h2 : d.isTup with
    | false =>
      refine iteT ?_
      have e : lkOk (testN n) d = false := by cases d <;> first | rfl | cases h2
      have := fin H (Same.refl H)
      rw [e] at this
      exact this
    | true =>
      refine iteF ?_
      obtain ⟨es, rfl⟩ : ∃ es, d = .tup es := by
        cases d <;> first | exact ⟨_, rfl⟩ | cases h2
      obtain ⟨q, ws, rfl, hq, rw'⟩ := rp.tupE
      have lws := rw'.length
      refine ⟨_, rfl, q, _, rfl, .inr (SqT.of hq), (by show 2 ≤ sizeLine; decide), fun t nt => ⟨t, _, rfl, .inr (SqT.of upd_same), rfl, rfl, _, rfl, ?_⟩⟩
      rw [inI]
      have st : Same H (upd H t (.tup [.int 2, .int 3])) := Same.new nt
      have hq := st _ _ hq
      generalize upd H t (.tup [.int 2, .int 3]) = G1 at st hq ⊢
      have ret : ∀ (b : Bool) (G2 : Hp), lk (testN n) es = b → Same G1 G2 → Q (.bl b) G2 := fun b G2 e s2 => by
        have := fin G2 (st.trans s2)
        have lke : lkOk (testN n) (.tup es) = lk (testN n) es := rfl
        rw [lke, e] at this
        exact this
      have rw' := rw'.keepSame st
      clear fin
      match es, rw', lws, ret, dp, lay with
      | [], rw', lws, ret, de, lay =>
        obtain rfl : ws = [] := by simpa only [RepL] using rw'
        exact ifb_T (by decide) (ret _ G1 lkL_nil (Same.refl G1))
      | [a], rw', lws, ret, de, lay =>
        simp only [RepL] at rw'
        obtain ⟨va, _, rfl, ra, rfl⟩ := rw'
        exact ifb_T (show (!(decide (((1 : Nat) : Int) = 2) || decide (((1 : Nat) : Int) = 3))) = true by decide) (ret _ G1 (lkL_one a) (Same.refl G1))
      | [a, b], rw', lws, ret, de, lay =>
        simp only [RepL] at rw'
        obtain ⟨va, _, rfl, ra, vb, _, rfl, rb, rfl⟩ := rw'
        refine ifb_F (show (!(decide (((2 : Nat) : Int) = 2) || decide (((2 : Nat) : Int) = 3))) = false by decide) ?_
        refine ⟨_, rfl, q, _, 0, _, rfl, rfl, SqT.of hq, rfl, va, .ty "str", _, _, _, rfl, .ty _, ra.ty, kit_ty (kit_str _), _, rfl, ?_⟩
        cases h3 : a.isStr with
        | false => exact iteT (ret _ G1 (lkL_two_a (noStr h3)) (Same.refl G1))
        | true =>
          refine iteF ?_
          obtain ⟨z, rfl⟩ : ∃ z, a = .str z := by
            cases a <;> first | exact ⟨_, rfl⟩ | cases h3
          obtain rfl : va = .str z := by simpa only [Rep] using ra
          refine ⟨_, rfl, q, _, rfl, .inr (SqT.of hq), rfl, _, rfl, ifi_T rfl ⟨_, rfl, q, _, 0, _, rfl, rfl, SqT.of hq, rfl, rfl, _, rfl, ?_⟩⟩
          by_cases h4 : z = "below"
          · subst h4
            refine eqS_T ⟨_, rfl, q, _, 1, _, rfl, rfl, SqT.of hq, rfl, vb, b, rfl, rb, ret _ G1 ?_ (Same.refl G1)⟩
            cases hb : b.whole with
            | false => exact lkL_two_b (noInt hb)
            | true =>
              obtain ⟨k, rfl⟩ : ∃ k, b = .int k := by
                cases b <;> first | exact ⟨_, rfl⟩ | cases hb
              rw [lkL_two]
              exact decide_eq_true rfl
          · refine eqS_F h4 (ret _ G1 ?_ (Same.refl G1))
            cases hb : b.whole with
            | false => exact lkL_two_b (noInt hb)
            | true =>
              obtain ⟨k, rfl⟩ : ∃ k, b = .int k := by
                cases b <;> first | exact ⟨_, rfl⟩ | cases hb
              rw [lkL_two]
              exact decide_eq_false h4
      | [a, b, c], rw', lws, ret, de, lay =>
        unfold RepL at rw'
        obtain ⟨va, _, rfl, ra, rw'⟩ := rw'
        unfold RepL at rw'
        obtain ⟨vb, _, rfl, rb, rw'⟩ := rw'
        unfold RepL at rw'
        obtain ⟨vc, _, rfl, rc, rw'⟩ := rw'
        unfold RepL at rw'
        subst rw'
        refine ifb_F (show (!(decide (((3 : Nat) : Int) = 2) || decide (((3 : Nat) : Int) = 3))) = false by decide) ?_
        refine ⟨_, rfl, q, _, 0, _, rfl, rfl, SqT.of hq, rfl, va, .ty "str", _, _, _, rfl, .ty _, ra.ty, kit_ty (kit_str _), _, rfl, ?_⟩
        cases h3 : a.isStr with
        | false => exact iteT (ret _ G1 (lkL_three_a (noStr h3)) (Same.refl G1))
        | true =>
          refine iteF ?_
          obtain ⟨z, rfl⟩ : ∃ z, a = .str z := by
            cases a <;> first | exact ⟨_, rfl⟩ | cases h3
          obtain rfl : va = .str z := by simpa only [Rep] using ra
          refine ⟨_, rfl, q, _, rfl, .inr (SqT.of hq), rfl, _, rfl, ifi_F (show ((3 : Nat) : Int) ≠ 2 by decide) ⟨_, rfl, q, _, 0, _, rfl, rfl, SqT.of hq, rfl, rfl, _, rfl, ?_⟩⟩
          by_cases h4 : z = "after"
          · subst h4
            have lk3 : lk (testN n) [.str "after", b, c] = (isRuleB b && testN n c) := lkL_after
            refine eqS_T ⟨_, rfl, q, _, 1, _, rfl, rfl, SqT.of hq, rfl, vb, b, rfl, rb, fun G2 s2 => ⟨_, rfl, ?_⟩⟩
            cases h5 : isRuleB b with
            | false =>
              refine iteF (ret _ G2 ?_ s2)
              rw [lk3, h5]
              rfl
            | true =>
              refine iteT ⟨_, rfl, q, _, 2, _, rfl, rfl, SqT.of (s2 _ _ hq), rfl, vc, c, rfl, rc.same s2, Deep.third de, lay_third lay, fun G3 s3 => ret _ G3 ?_ (s2.trans s3)⟩
              rw [lk3, h5]
              rfl
          · have lk3 : lk (testN n) [.str z, b, c] = (decide (z = "rest") && rangeOk b c) := lkL_rest h4
            refine eqS_F h4 ⟨_, rfl, q, _, 0, _, rfl, rfl, SqT.of hq, rfl, rfl, _, rfl, ?_⟩
            by_cases h5 : z = "rest"
            · subst h5
              refine ifnS_F ⟨_, rfl, q, _, 1, _, rfl, rfl, SqT.of hq, rfl, vb, b, rfl, rb, _, rfl, ?_⟩
              cases h6 : b.whole with
              | false =>
                refine iteT (ret _ G1 ?_ (Same.refl G1))
                rw [lk3, rangeOk_a (noInt h6)]
                exact Bool.and_false _
              | true =>
                refine iteF ⟨_, rfl, q, _, 2, _, rfl, rfl, SqT.of hq, rfl, vc, c, rfl, rc, _, rfl, ?_⟩
                obtain ⟨k, rfl⟩ : ∃ k, b = .int k := by
                  cases b <;> first | exact ⟨_, rfl⟩ | cases h6
                cases h7 : c.whole with
                | false =>
                  refine iteT (ret _ G1 ?_ (Same.refl G1))
                  rw [lk3, rangeOk_b (noInt h7)]
                  exact Bool.and_false _
                | true =>
                  obtain ⟨r, rfl⟩ : ∃ r, c = .int r := by
                    cases c <;> first | exact ⟨_, rfl⟩ | cases h7
                  obtain rfl : vb = .int k := by simpa only [Rep] using rb
                  obtain rfl : vc = .int r := by simpa only [Rep] using rc
                  refine iteF ⟨_, rfl, q, _, 2, _, rfl, rfl, SqT.of hq, rfl, _, _, rfl, rfl, _, rfl, ?_⟩
                  have lk4 : lk (testN n) [.str "rest", .int k, .int r] = (decide (0 ≤ r) && decide (r < k)) := by
                    rw [lk3, decide_eq_true rfl, Bool.true_and]
                    rfl
                  refine ite2 (fun h8 => ?_) (fun h8 => ?_)
                  · have h8 : 0 ≤ r := of_decide_eq_true h8
                    refine ⟨_, rfl, q, _, 1, _, rfl, rfl, SqT.of hq, rfl, _, _, rfl, rfl, ret _ G1 ?_ (Same.refl G1)⟩
                    rw [lk4, decide_eq_true h8]
                    rfl
                  · have h8 : ¬ 0 ≤ r := fun q => h8 (decide_eq_true q)
                    refine ret _ G1 ?_ (Same.refl G1)
                    rw [lk4, decide_eq_false h8]
                    rfl
            · refine ifnS_T h5 (ret _ G1 ?_ (Same.refl G1))
              rw [lk3, decide_eq_false h5]
              rfl
      | a :: b :: c :: d :: r, rw', lws, ret, de, lay =>
        have l3 : (ws.length : Int) = (r.length : Int) + 4 := by
          rw [lws]
          simp
          omega
        refine ifb_T ?_ (ret _ G1 lkL_four (Same.refl G1))
        rw [decide_eq_false (by omega), decide_eq_false (by omega)]
        rfl
end
end K82


set_option Elab.async false
set_option linter.all false
set_option maxRecDepth 100000
set_option maxHeartbeats 4000000
namespace Lb
open PySem PySem.Spec PyProof.Rows L2
/-- [x for x in t if not ..], t a tuple of things -/
theorem filt_lc {K : PySem.W.Frag} {f : D → Bool} {p : Addr} {vs : List V} {ds : List D} {a i : Nat} {tt : TT} {σ : L2.St} {H : Hp} {Q : VK} (hσ : σ[a]? = some (some (.ref p))) (hp : H p = some (.tup vs)) (rl : RepL H vs ds) (sz : vs.length ≤ 1000) (hi : i < σ.length)
    (hw : ∀ x : V, wipe ((wipe σ [i]).set i (some x)) [i] = wipe σ [i])
    (test : ∀ (j : Nat) (x : V) (e : D) (H2 : Hp) (Q2 : Bool → Hp → Prop), vs[j]? = some x → ds[j]? = some e → Rep H2 x e → (∀ H', Same H2 H' → Q2 (!f e) H') → tt ((wipe σ [i]).set i (some x)) H2 Q2)
    (fin : ∀ d H' us, Same H H' → H' d = some (.lst us) → RepL H us (ds.filter fun e => !f e) → Q (.ref d) H') : tLc (iTup K (tVar a)) (gName i) tt (tVar i) [i] σ H Q := by
  refine ⟨_, hσ, p, rfl, ⟨_, SqT.of hp⟩, fun d nd => ?_⟩
  have lds := rl.length
  refine lc_tup (K := K) (a := p) (xs := vs) (fun j G => Same H G ∧ ∃ us : List V, G d = some (.lst us) ∧ us.length ≤ j ∧ RepL H us ((ds.take j).filter fun e => !f e)) ⟨Same.new nd, [], upd_same, Nat.le_refl _, by simpa using RepL.nil⟩ (fun j G _ q => SqT.of (q.1 _ _ hp)) ?_ ?_
  · rintro j x G hx ⟨sG, us, gd, lu, ru⟩
    have hj : j < vs.length := (List.getElem?_eq_some_iff.mp hx).1
    obtain ⟨e, he⟩ : ∃ e, ds[j]? = some e := ⟨ds[j]'(by omega), List.getElem?_eq_getElem (by omega)⟩
    obtain ⟨x', hx', rx⟩ := rl.at_ he
    rw [hx] at hx'
    cases hx'
    refine ⟨hw _, ?_⟩
    show tt _ G _
    refine test j x e G _ hx he (Rep.keep (Keeps.of sG) _ rx) fun G2 s2 => ?_
    have tk : (ds.take (j + 1)).filter (fun e => !f e) = (ds.take j).filter (fun e => !f e) ++ (if (!f e) = true then [e] else []) := by
      rw [List.take_add_one, he, List.filter_append]
      cases hf : f e <;> simp [hf]
    cases hf : f e with
    | true =>
      refine iteF ⟨sG.trans s2, us, s2 _ _ gd, by omega, ?_⟩
      rw [tk, hf]
      simpa using ru
    | false =>
      refine iteT ⟨x, ?_, us, s2 _ _ gd, by rw [sizeLine_eq]; omega, fun c o q => ?_, us ++ [x], upd_same, by rw [List.length_append]; simp; omega, ?_⟩
      · have l5 : (wipe σ [i]).length = σ.length := by rw [wipe_length]
        rw [List.getElem?_set_self (by omega)]
      · rw [upd_ne (ne_of_none q nd)]
        exact s2 _ _ (sG _ _ q)
      · rw [tk, hf]
        exact RepL.app (.one rx) ru
  · rintro G ⟨sG, us, gd, lu, ru⟩
    refine fin d G us sG gd ?_
    rw [lds, List.take_length] at ru
    exact ru
mutual
theorem D.Deep.py : ∀ {n : Nat} (d : D), d.Deep n → d.py.depth ≤ n + 1
  | n, .non, _ => by simp [D.py, PyData.depth]
  | n, .bl b, _ => by simp [D.py, PyData.depth]
  | n, .int b, _ => by simp [D.py, PyData.depth]
  | n, .str b, _ => by simp [D.py, PyData.depth]
  | n, .emp, _ => by simp [D.py, PyData.depth, PyData.depthAll]
  | 0, .tup ds, h => by simp only [D.Deep] at h
  | n + 1, .tup ds, h => by
    simp only [D.Deep] at h
    simp only [D.py, PyData.depth]
    have := DeepL.py ds h
    omega
theorem DeepL.py : ∀ {n : Nat} (ds : List D), DeepL n ds → PyData.depthAll (pyL ds) ≤ n + 1
  | n, [], _ => by simp [pyL, PyData.depthAll]
  | n, d :: ds, h => by
    simp only [DeepL] at h
    simp only [pyL, PyData.depthAll]
    have := D.Deep.py d h.1
    have := DeepL.py ds h.2
    omega
end
theorem deepL_filter {n : Nat} (f : D → Bool) : ∀ {ds : List D}, DeepL n ds → DeepL n (ds.filter f)
  | [], h => by simpa using h
  | d :: ds, h => by
    simp only [DeepL] at h
    rw [List.filter_cons]
    split
    · simp only [DeepL]
      exact ⟨h.1, deepL_filter f h.2⟩
    · exact deepL_filter f h.2
theorem layL_filter (f : D → Bool) : ∀ {ds : List D}, PyData.canLayAll0 (pyL ds) = true → PyData.canLayAll0 (pyL (ds.filter f)) = true
  | [], h => by simpa using h
  | d :: ds, h => by
    simp only [pyL, PyData.canLayAll0, Bool.and_eq_true] at h
    rw [List.filter_cons]
    split
    · simp only [pyL, PyData.canLayAll0, Bool.and_eq_true]
      exact ⟨h.1, layL_filter f h.2⟩
    · exact layL_filter f h.2
theorem layL_at : ∀ {ds : List D} {i : Nat} {d : D}, PyData.canLayAll0 (pyL ds) = true → ds[i]? = some d → d.py.canLay0 = true
  | [], i, d, _, e => by simp at e
  | c :: ds, 0, d, h, e => by
    simp only [pyL, PyData.canLayAll0, Bool.and_eq_true] at h
    simp at e
    rw [← e]
    exact h.1
  | c :: ds, i + 1, d, h, e => by
    simp only [pyL, PyData.canLayAll0, Bool.and_eq_true] at h
    exact layL_at h.2 (by simpa using e)
theorem eqv_nil (ds : List D) : PyData.eqv (.list (pyL ds)) (.list []) = ds.isEmpty := by
  cases ds <;> simp [pyL, PyData.eqv, PyData.eqvAll]
theorem filter_none {f : D → Bool} (ds : List D) : (ds.filter fun e => !f e).isEmpty = ds.all f := by
  induction ds with
  | nil => rfl
  | cons d ds ih =>
    rw [List.filter_cons, List.all_cons]
    cases f d <;> simp [ih]
end Lb
namespace K82
open PySem PySem.Spec PyProof.Rows L2 Lb
abbrev sReadsT : Stmt := top 31
section
variable {P : Program} {w : World} {K : PySem.W.Frag} {mg : Str → Option Value} {base : Heap}
abbrev nReadsT : List Str := ["_law_thing", "_law_one"]
theorem scReadsT : FnScope nReadsT ["_law_thing"] (defScope sReadsT) := ⟨rfl, rfl, rfl, by decide +kernel, rfl, by decide +kernel, by decide +kernel⟩
theorem ok_readsT {f : Addr} {fd : FuncData} (F : Fun K "_law_reads_test" "_law_reads_test" sReadsT f fd) (B : Blt mg) (n : Nat) (hn : n ≤ 40) {k : Nat}
    (DL0 : GD P w K mg base CX0 "_law_reads_look" ["_law_one"] k (lessSp spReadsL n)) : FnOk P w K mg base CX0 (k + 1) f fd ["_law_thing"] (spReadsT n) := by
  refine F.ok scReadsT (fun vs H Q E h => ?_) (fun cdv A outer s H vs Q E hr h => ?_)
  · obtain ⟨v, d, rfl, _⟩ := h
    rfl
  · obtain ⟨v, d, rfl, rp, dp, ⟨lay, thin⟩, fin⟩ := h
    refine ⟨_, pss_one (ps_ret (pe_and (pe_callB call_isi (by rfl) B.isinstance boot_isinstance (pa_cons (pv 0) (pa_cons (pe_bltn (v := .ty "tuple") (by rfl) B.tuple boot_tuple rfl) pa_nil)))
      (pe_one (pe_cmpR (op_eqD hr.units) (pe_lc (own := [("_law_one", 1)]) (g := gName 1) (tt := tNot (tB (tCall (lessSp spReadsL n) [] E0 (tCons (tVar 1) tNil)))) (te := tVar 1) rfl scReadsT.nd (pi_tup (pv 0)) (blkOk_by (N := nReadsT) (sc := defScope sReadsT) (by decide +kernel)) (fun _ _ _ _ _ => pg_name (i := 1) scReadsT.nd rfl (Or.inl rfl))
          (fun _ _ _ _ _ => pts_one (pt_not (pt_val (pe_gd DL0 hr rfl pass0 (pa_cons (pv 1) pa_nil))))) (fun _ _ _ _ _ => pv 1)) (pe_lst pa_nil) (nomark _))))), ?_⟩
    refine ⟨_, rfl, v, .ty "tuple", _, _, _, rfl, .ty _, rp.ty, kit_ty (kit_tuple _), _, rfl, ?_⟩
    cases ht : d.isTup with
    | false =>
      refine iteF ?_
      have e : testN n d = false := by cases n <;> cases d <;> first | rfl | cases ht
      have := fin H (Same.refl H)
      rw [e] at this
      exact this
    | true =>
      obtain ⟨ds, rfl⟩ : ∃ ds, d = .tup ds := by
        cases d <;> first | exact ⟨_, rfl⟩ | cases ht
      refine iteT ?_
      cases n with
      | zero => simp only [D.Deep] at dp
      | succ m =>
      simp only [D.Deep] at dp
      simp only [D.py, PyData.canLay0] at lay
      simp only [D.Thin] at thin
      obtain ⟨wd, thin⟩ := thin
      obtain ⟨p, us, rfl, hp, rl⟩ := rp.tupE
      show tLc (iTup K (tVar 0)) (gName 1) (tNot (tB (tCall (spReadsL m) [] E0 (tCons (tVar 1) tNil)))) (tVar 1) [1] [some (.ref p), none] H _
      refine filt_lc (f := lkOk (testN m)) rfl hp rl (by rw [rl.length]; exact Nat.le_trans wd (by decide)) (by simp) (fun _ => rfl) (fun j x e G Q2 hx he rx key => ?_) fun D G ws sG hD rw' => ?_
      · exact ⟨_, rfl, x, e, rfl, rx, dp.at_ he, ⟨layL_at lay he, thin.at_ he⟩, fun G2 s2 => ⟨_, rfl, key G2 s2⟩⟩
      · refine ⟨(by show 0 ≤ sizeLine; decide), fun o no => ⟨.list (pyL (ds.filter fun e => !lkOk (testN m) e)), .list [], .lst (SqL.of (Same.new no _ _ hD)) (RepL.dp _ (RepL.keep (Keeps.of (sG.trans (Same.new no))) _ rw')), .lst (SqL.of upd_same) .nil, ?_, by decide +kernel, ?_⟩⟩
        · refine shaped_of ?_ ?_
          · simp only [PyData.canLay0]
            exact layL_filter _ lay
          · simp only [PyData.depth]
            have := DeepL.py _ (deepL_filter (fun e => !lkOk (testN m) e) dp)
            omega
        · rw [eqv_nil, filter_none]
          exact fin _ (sG.trans (Same.new no))
variable {f g : Addr} {fd gd : FuncData}
theorem gd_reads (B : Blt mg) (DW : GD P w K mg base CX0 "_law_whole_one" ["_law_thing"] 1 spWhole1) (DR : GD P w K mg base CX0 "_law_reads_rule" ["_law_thing"] 2 spReadsR)
    (dl : Df K mg "_law_reads_look" sReadsL ["_law_one"] f fd) (dt : Df K mg "_law_reads_test" sReadsT ["_law_thing"] g gd) : ∀ n : Nat, n ≤ 40 → GD P w K mg base CX0 "_law_reads_test" ["_law_thing"] (3 + 2 * n) (spReadsT n)
  | 0, h => dt.gd (ok_readsT dt.fn B 0 h (k := 2) (dl.no fun _ _ _ _ z => z))
  | n + 1, h => by
    have ih := gd_reads B DW DR dl dt n (by omega)
    have e : 3 + 2 * (n + 1) = ((3 + 2 * n) + 1) + 1 := by omega
    rw [e]
    exact dt.gd (ok_readsT dt.fn B (n + 1) h (dl.gd (ok_readsL dl.fn B n (k := 3 + 2 * n) (by omega) DW DR ih)))
end
end K82


set_option Elab.async false
set_option linter.all false
set_option maxRecDepth 100000
set_option maxHeartbeats 4000000
/-! Plans, rules, tests as things: what is which, what is to be seen in it. -/
namespace Lb
open PySem PySem.Spec PyProof.Rows L2
/-! ### kinds -/
mutual
/-- how much is in it -/
def D.size : D → Nat
  | .tup ds => 1 + sizeL ds
  | .str z => 1 + z.length
  | _ => 1
def sizeL : List D → Nat
  | [] => 0
  | d :: ds => D.size d + sizeL ds
end
theorem sizeL_app : ∀ (ds es : List D), sizeL (ds ++ es) = sizeL ds + sizeL es
  | [], es => by simp only [List.nil_append, sizeL, Nat.zero_add]
  | d :: ds, es => by simp only [List.cons_append, sizeL, sizeL_app ds es, Nat.add_assoc]
theorem n_ra : ("rest" : Str) ≠ "after" := by decide +kernel
theorem n_rb : ("rest" : Str) ≠ "below" := by decide +kernel
theorem n_ba : ("below" : Str) ≠ "after" := by decide +kernel
theorem n_ao : ("add" : Str) ≠ "one" := by decide +kernel
theorem n_as : ("add" : Str) ≠ "sum" := by decide +kernel
theorem n_to : ("times" : Str) ≠ "one" := by decide +kernel
theorem n_ts : ("times" : Str) ≠ "sum" := by decide +kernel
theorem n_ro : ("rest" : Str) ≠ "one" := by decide +kernel
theorem n_rs : ("rest" : Str) ≠ "sum" := by decide +kernel
theorem n_rad : ("rest" : Str) ≠ "add" := by decide +kernel
theorem n_rt : ("rest" : Str) ≠ "times" := by decide +kernel
inductive Kd where
  | num
  | dvs
  | many
  | size
  | place
  | word
  | nums
  | rule
  | test
  | plans
  | some
  | rpart
  | tpart
  | plan
def Kd.s : Kd → Str
  | .num => "number"
  | .dvs => "divisor"
  | .many => "many"
  | .size => "size"
  | .place => "place"
  | .word => "word"
  | .nums => "numbers"
  | .rule => "rule"
  | .test => "test"
  | .plans => "plans"
  | .some => "some plans"
  | .rpart => "rule part"
  | .tpart => "test part"
  | .plan => "plan"
def posB : D → Bool
  | .int i => decide (1 ≤ i)
  | _ => false
def loB (x : Int) : Option Int → Bool
  | none => true
  | some l => decide (l ≤ x)
def hiB (x : Int) : Option Int → Bool
  | none => true
  | some h => decide (x ≤ h)
def betw (x : Int) (lo hi : Option Int) : Bool := loB x lo && hiB x hi
def inB : D → Option Int → Option Int → Bool
  | .int x, lo, hi => betw x lo hi
  | _, _, _ => false
/-- a word: one to eight small letters -/
def wordB : D → Bool
  | .str z => decide (1 ≤ z.length ∧ z.length ≤ 8) && z.cps.toList.all fun c => decide (97 ≤ c ∧ c ≤ 122)
  | _ => false
def numsB : D → Bool
  | .tup ds => ds.all D.whole
  | _ => false
/-- whether it is a thing of this kind, f telling what a plan is -/
def okK (f : D → Bool) (n : Nat) : Kd → D → Bool
  | .num, d => d.whole
  | .dvs, d => posB d
  | .many, d => inB d (.some 0) (.some 200)
  | .size, d => inB d (.some 1) (.some 20)
  | .place, d => inB d (.some 0) (.some 59)
  | .word, d => wordB d
  | .nums, d => numsB d
  | .rule, d => isRuleB d
  | .test, d => testN n d
  | .plans, .tup ds => decide (ds.length ≤ 6) && ds.all f
  | .some, .tup ds => decide (1 ≤ ds.length ∧ ds.length ≤ 6) && ds.all f
  | .rpart, d => chOk d
  | .tpart, d => lkOk (testN n) d
  | .plan, d => f d
  | _, _ => false
/-- the kinds of what follows the word -/
def behind : Kd → Str → Option (List Kd)
  | .rpart, z => if z = "add" then some [.num] else if z = "times" then some [.num] else if z = "rest" then some [.dvs] else if z = "one" then some [] else if z = "sum" then some [] else none
  | .tpart, z => if z = "rest" then some [.dvs, .num] else if z = "below" then some [.num] else if z = "after" then some [.rule, .test] else none
  | .plan, z => if z = "list" then some [.nums] else if z = "broken" then some [.nums, .word] else if z = "count" then some [.num, .num, .many] else if z = "row" then some [.place] else if z = "turn" then some [.rule, .plan] else if z = "sieve" then some [.test, .plan]
    else if z = "upto" then some [.test, .plan] else if z = "cut" then some [.many, .plan] else if z = "left" then some [.many, .plan] else if z = "chain" then some [.plans] else if z = "beside" then some [.some] else if z = "ahead" then some [.plan]
    else if z = "windows" then some [.size, .size, .plan] else if z = "marks" then some [.dvs, .plan] else if z = "spare" then some [.plan, .plan] else if z = "wanted" then some [.many, .word, .plan] else none
  | _, _ => none
def behindD (k : Kd) : D → Option (List Kd)
  | .str z => behind k z
  | _ => none
/-- whether it is a plan, looked at so deep -/
def planN : Nat → D → Bool
  | n + 1, .tup (w :: r) => match behindD .plan w with
    | none => false
    | some ks => decide (r.length = ks.length) && (ks.zip r).all fun p => okK (planN n) n p.1 p.2
  | _, _ => false
def okD (n : Nat) : Kd → D → Bool := okK (planN n) n
def bounds : Kd → Option (Option Int × Option Int)
  | .num => some (none, none)
  | .dvs => some (some 1, none)
  | .many => some (some 0, some 200)
  | .size => some (some 1, some 20)
  | .place => some (some 0, some 59)
  | _ => none
/-- tuples: the kind of what is in them, how many at least, at most -/
def inner : Kd → Option (Kd × Int × Option Int)
  | .nums => some (.num, 0, none)
  | .rule => some (.rpart, 0, none)
  | .test => some (.tpart, 0, none)
  | .plans => some (.plan, 0, some 6)
  | .some => some (.plan, 1, some 6)
  | _ => none
def isRest : Kd → D → Bool
  | .tpart, .str z => decide (z = "rest")
  | _, _ => false
def restOk : List D → Bool
  | [a, b] => rangeOk a b
  | _ => true
/-- what is to be seen in a part -/
def inPart (k : Kd) : List D → Option (List (Kd × D))
  | [] => none
  | w :: r => match behindD k w with
    | none => none
    | some ks => if r.length = ks.length then (if isRest k w && !restOk r then none else some (ks.zip r)) else none
/-- what is to be seen in a thing -/
def within (k : Kd) (d : D) : Option (List (Kd × D)) := match bounds k with
  | some (lo, hi) => if inB d lo hi then some [] else none
  | none => match k, d with
    | .word, d => if wordB d then some [] else none
    | k, .tup ds => (match inner k with
      | some (i, lo, hi) => if betw ds.length (some lo) hi then some (ds.map fun d => (i, d)) else none
      | none => inPart k ds)
    | _, _ => none
def sizeP : List (Kd × D) → Nat
  | [] => 0
  | p :: ps => D.size p.2 + sizeP ps
theorem sizeP_app : ∀ (ps qs : List (Kd × D)), sizeP (ps ++ qs) = sizeP ps + sizeP qs
  | [], qs => by simp only [List.nil_append, sizeP, Nat.zero_add]
  | p :: ps, qs => by simp only [List.cons_append, sizeP, sizeP_app ps qs, Nat.add_assoc]
theorem size_pos (d : D) : 1 ≤ D.size d := by cases d <;> simp only [D.size] <;> omega
theorem sizeP_len : ∀ ps : List (Kd × D), ps.length ≤ sizeP ps
  | [] => Nat.le_refl _
  | p :: ps => by
    have := sizeP_len ps
    have := size_pos p.2
    simp only [List.length_cons, sizeP]
    omega
theorem sizeP_map (k : Kd) : ∀ ds : List D, sizeP (ds.map fun d => (k, d)) = sizeL ds
  | [] => rfl
  | d :: ds => by simp only [List.map_cons, sizeP, sizeL, sizeP_map k ds]
/-- looked at one deeper, the same -/
theorem lkOk_congr {f g : D → Bool} {d : D} {n : Nat} (dp : d.Deep (n + 1)) (h : ∀ b, D.Deep n b → f b = g b) : lkOk f d = lkOk g d := by
  cases d <;> try rfl
  rename_i ds
  show lk f ds = lk g ds
  simp only [D.Deep] at dp
  match ds, dp with
  | [], _ => rw [lkL_nil, lkL_nil]
  | [a], _ => rw [lkL_one, lkL_one]
  | [a, b], _ =>
    cases a <;> try rfl
    cases b <;> rfl
  | [a, b, c], dp =>
    cases a <;> try rfl
    rename_i z
    rw [lkL_three, lkL_three]
    simp only [DeepL] at dp
    rw [h c dp.2.2.1]
  | a :: b :: c :: e :: r, _ => rw [lkL_four, lkL_four]
theorem stable : ∀ (n : Nat) (d : D), d.Deep n → testN n d = testN (n + 1) d
  | 0, d, h => by
    cases d <;> first | rfl | (simp only [D.Deep] at h)
  | n + 1, d, h => by
    cases d <;> try rfl
    rename_i ds
    show ds.all (lkOk (testN n)) = ds.all (lkOk (testN (n + 1)))
    simp only [D.Deep] at h
    have key : ∀ (es : List D), DeepL n es → es.all (lkOk (testN n)) = es.all (lkOk (testN (n + 1))) := by
      intro es
      induction es with
      | nil => intro _; rfl
      | cons e es ih =>
        intro h
        simp only [DeepL] at h
        simp only [List.all_cons, ih h.2]
        refine congrArg (· && _) ?_
        cases n with
        | zero =>
          cases e <;> first | rfl | (simp only [D.Deep] at h; exact h.1.elim)
        | succ n => exact lkOk_congr h.1 fun b hb => stable (n + 1) b (D.Deep.up b hb)
    exact key ds h
theorem zip_deep {n : Nat} : ∀ {ks : List Kd} {ds : List D}, DeepL n ds → ∀ p ∈ ks.zip ds, D.Deep n p.2
  | [], _, _, p, hp => by simp at hp
  | _ :: _, [], _, p, hp => by simp at hp
  | k :: ks, d :: ds, h, p, hp => by
    simp only [DeepL] at h
    rcases List.mem_cons.mp hp with rfl | hp
    · exact h.1
    · exact zip_deep h.2 p hp
theorem zip_size : ∀ (ks : List Kd) (ds : List D), sizeP (ks.zip ds) ≤ sizeL ds
  | [], ds => by simp [sizeP]
  | _ :: _, [] => by simp [sizeP]
  | k :: ks, d :: ds => by
    have := zip_size ks ds
    simp only [List.zip_cons_cons, sizeP, sizeL]
    omega
theorem map_deep {n : Nat} {k : Kd} : ∀ {ds : List D}, DeepL n ds → ∀ p ∈ ds.map (fun d => (k, d)), D.Deep n p.2
  | [], _, p, hp => by simp at hp
  | d :: ds, h, p, hp => by
    simp only [DeepL] at h
    rcases List.mem_cons.mp hp with rfl | hp
    · exact h.1
    · exact map_deep h.2 p hp
def Right (n : Nat) (k : Kd) (d : D) (o : Option (List (Kd × D))) : Prop := match o with
  | none => okD n k d = false
  | some l => okD n k d = (l.all fun p => okD n p.1 p.2) ∧ (∀ p ∈ l, D.Deep n p.2) ∧ sizeP l < D.size d
theorem str_ne {a b : Str} (h : decide (a = b) = false) : a ≠ b := of_decide_eq_false h
theorem chOk3 {w a b : D} {r : List D} : chOk (.tup (w :: a :: b :: r)) = false := by
  cases w <;> try rfl
  cases a <;> rfl
theorem part_none {n : Nat} {k : Kd} {w : D} {r : List D} (hk : k = .rpart ∨ k = .tpart) (h : behindD k w = none) : okD n k (.tup (w :: r)) = false := by
  rcases hk with rfl | rfl
  · show chOk (.tup (w :: r)) = false
    cases w <;> try (cases r with
      | nil => rfl
      | cons a r => cases r with
        | nil => rfl
        | cons b r => exact chOk3)
    rename_i z
    simp only [behindD, behind] at h
    by_cases h1 : z = "add"
    · rw [if_pos h1] at h; cases h
    by_cases h2 : z = "times"
    · rw [if_neg h1, if_pos h2] at h; cases h
    by_cases h3 : z = "rest"
    · rw [if_neg h1, if_neg h2, if_pos h3] at h; cases h
    by_cases h4 : z = "one"
    · rw [if_neg h1, if_neg h2, if_neg h3, if_pos h4] at h; cases h
    by_cases h5 : z = "sum"
    · rw [if_neg h1, if_neg h2, if_neg h3, if_neg h4, if_pos h5] at h; cases h
    match r with
    | [] =>
      show (decide (z = "one") || decide (z = "sum")) = false
      rw [decide_eq_false h4, decide_eq_false h5]
      rfl
    | [a] =>
      cases a <;> try rfl
      show (decide (z = "add") || decide (z = "times") || (decide (z = "rest") && _)) = false
      rw [decide_eq_false h1, decide_eq_false h2, decide_eq_false h3]
      rfl
    | a :: b :: r => exact chOk3
  · show lk (testN n) (w :: r) = false
    match r with
    | [] => exact lkL_one w
    | [a] =>
      cases w <;> try rfl
      rename_i z
      cases a <;> try rfl
      rw [lkL_two]
      refine decide_eq_false fun q => ?_
      subst q
      cases h
    | [a, b] =>
      cases w <;> try rfl
      rename_i z
      rw [lkL_three]
      simp only [behindD, behind] at h
      by_cases h1 : z = "rest"
      · rw [if_pos h1] at h; cases h
      by_cases h2 : z = "below"
      · rw [if_neg h1, if_pos h2] at h; cases h
      by_cases h3 : z = "after"
      · rw [if_neg h1, if_neg h2, if_pos h3] at h; cases h
      rw [if_neg h3, decide_eq_false h1]
      rfl
    | a :: b :: c :: r => exact lkL_four
theorem sum1 {n : Nat} {k : Kd} {a : D} : ([(k, a)].all fun p => okD n p.1 p.2) = okD n k a := by simp
theorem sum2 {n : Nat} {k k2 : Kd} {a b : D} : ([(k, a), (k2, b)].all fun p => okD n p.1 p.2) = (okD n k a && okD n k2 b) := by simp
theorem part_ok {n : Nat} {k : Kd} {w : D} {r : List D} {ks : List Kd} (hk : k = .rpart ∨ k = .tpart) (h : behindD k w = some ks) :
    okD n k (.tup (w :: r)) = (if r.length = ks.length then (if isRest k w && !restOk r then false else (ks.zip r).all fun p => okD n p.1 p.2) else false) := by
  obtain ⟨z, rfl⟩ : ∃ z, w = .str z := by
    cases w <;> first | exact ⟨_, rfl⟩ | cases h
  rcases hk with rfl | rfl
  · show chOk (.tup (.str z :: r)) = _
    simp only [isRest, Bool.false_and, Bool.false_eq_true, if_false]
    simp only [behindD, behind] at h
    by_cases h1 : z = "add"
    · rw [if_pos h1] at h
      cases h
      subst h1
      match r with
      | [] =>
        rw [if_neg (show ¬ ([] : List D).length = ([Kd.num] : List Kd).length by decide)]
        decide +kernel
      | [a] =>
        rw [if_pos (show ([a] : List D).length = ([Kd.num] : List Kd).length from rfl)]
        cases a <;> rfl
      | a :: b :: r => rw [chOk3, if_neg (show ¬ (a :: b :: r).length = ([Kd.num] : List Kd).length by simp)]
    by_cases h2 : z = "times"
    · rw [if_neg h1, if_pos h2] at h
      cases h
      subst h2
      match r with
      | [] =>
        rw [if_neg (show ¬ ([] : List D).length = ([Kd.num] : List Kd).length by decide)]
        decide +kernel
      | [a] =>
        rw [if_pos (show ([a] : List D).length = ([Kd.num] : List Kd).length from rfl)]
        cases a <;> rfl
      | a :: b :: r => rw [chOk3, if_neg (show ¬ (a :: b :: r).length = ([Kd.num] : List Kd).length by simp)]
    by_cases h3 : z = "rest"
    · rw [if_neg h1, if_neg h2, if_pos h3] at h
      cases h
      subst h3
      match r with
      | [] =>
        rw [if_neg (show ¬ ([] : List D).length = ([Kd.dvs] : List Kd).length by decide)]
        decide +kernel
      | [a] =>
        rw [if_pos (show ([a] : List D).length = ([Kd.dvs] : List Kd).length from rfl)]
        show _ = ([(Kd.dvs, a)].all fun p => okD n p.1 p.2)
        rw [sum1]
        cases a <;> try rfl
      | a :: b :: r => rw [chOk3, if_neg (show ¬ (a :: b :: r).length = ([Kd.dvs] : List Kd).length by simp)]
    by_cases h4 : z = "one"
    · rw [if_neg h1, if_neg h2, if_neg h3, if_pos h4] at h
      cases h
      subst h4
      match r with
      | [] =>
        rw [if_pos (show ([] : List D).length = (([] : List Kd)).length from rfl)]
        show chOk (.tup [.str "one"]) = true
        decide +kernel
      | [a] =>
        rw [if_neg (show ¬ ([a] : List D).length = (([] : List Kd)).length by simp)]
        cases a <;> try rfl
      | a :: b :: r => rw [chOk3, if_neg (show ¬ (a :: b :: r).length = (([] : List Kd)).length by simp)]
    by_cases h5 : z = "sum"
    · rw [if_neg h1, if_neg h2, if_neg h3, if_neg h4, if_pos h5] at h
      cases h
      subst h5
      match r with
      | [] =>
        rw [if_pos (show ([] : List D).length = (([] : List Kd)).length from rfl)]
        show chOk (.tup [.str "sum"]) = true
        decide +kernel
      | [a] =>
        rw [if_neg (show ¬ ([a] : List D).length = (([] : List Kd)).length by simp)]
        cases a <;> try rfl
      | a :: b :: r => rw [chOk3, if_neg (show ¬ (a :: b :: r).length = (([] : List Kd)).length by simp)]
    rw [if_neg h1, if_neg h2, if_neg h3, if_neg h4, if_neg h5] at h
    cases h
  · show lk (testN n) (.str z :: r) = _
    simp only [behindD, behind] at h
    by_cases h1 : z = "rest"
    · rw [if_pos h1] at h
      cases h
      subst h1
      match r with
      | [] => rfl
      | [a] =>
        rw [if_neg (show ¬ ([a] : List D).length = ([Kd.dvs, Kd.num] : List Kd).length by simp)]
        cases a <;> try rfl
      | [a, b] =>
        rw [lkL_rest n_ra, decide_eq_true (rfl : ("rest" : Str) = "rest"), Bool.true_and, if_pos (show ([a, b] : List D).length = ([Kd.dvs, Kd.num] : List Kd).length from rfl)]
        show rangeOk a b = if (decide (("rest" : Str) = "rest") && !rangeOk a b) = true then false else ([(Kd.dvs, a), (Kd.num, b)].all fun p => okD n p.1 p.2)
        rw [decide_eq_true (rfl : ("rest" : Str) = "rest"), Bool.true_and, sum2]
        cases hr : rangeOk a b with
        | false => rfl
        | true =>
          show true = (posB a && b.whole)
          cases a <;> try (cases hr)
          rename_i m
          cases b <;> try (cases hr)
          rename_i q
          have hr : (decide (0 ≤ q) && decide (q < m)) = true := hr
          obtain ⟨q1, q2⟩ := Bool.and_eq_true_iff.mp hr
          have q1 := of_decide_eq_true q1
          have q2 := of_decide_eq_true q2
          show true = (decide (1 ≤ m) && true)
          rw [decide_eq_true (by omega)]
          rfl
      | a :: b :: c :: r => rw [lkL_four, if_neg (show ¬ (a :: b :: c :: r).length = ([Kd.dvs, Kd.num] : List Kd).length by simp)]
    by_cases h2 : z = "below"
    · rw [if_neg h1, if_pos h2] at h
      cases h
      subst h2
      have e : isRest .tpart (.str "below") = false := decide_eq_false n_rb.symm
      rw [e]
      match r with
      | [] => rfl
      | [a] =>
        rw [if_pos (show ([a] : List D).length = ([Kd.num] : List Kd).length from rfl)]
        show _ = ([(Kd.num, a)].all fun p => okD n p.1 p.2)
        rw [sum1]
        cases a <;> try rfl
      | [a, b] =>
        rw [lkL_rest n_ba, decide_eq_false n_rb.symm]
        rfl
      | a :: b :: c :: r => rw [lkL_four, if_neg (show ¬ (a :: b :: c :: r).length = ([Kd.num] : List Kd).length by simp)]
    by_cases h3 : z = "after"
    · rw [if_neg h1, if_neg h2, if_pos h3] at h
      cases h
      subst h3
      have e : isRest .tpart (.str "after") = false := decide_eq_false n_ra.symm
      rw [e]
      match r with
      | [] => rfl
      | [a] =>
        rw [if_neg (show ¬ ([a] : List D).length = ([Kd.rule, Kd.test] : List Kd).length by simp)]
        cases a <;> try rfl
      | [a, b] =>
        rw [lkL_after, if_pos (show ([a, b] : List D).length = ([Kd.rule, Kd.test] : List Kd).length from rfl)]
        show _ = ([(Kd.rule, a), (Kd.test, b)].all fun p => okD n p.1 p.2)
        rw [sum2]
        rfl
      | a :: b :: c :: r => rw [lkL_four, if_neg (show ¬ (a :: b :: c :: r).length = ([Kd.rule, Kd.test] : List Kd).length by simp)]
    rw [if_neg h1, if_neg h2, if_neg h3] at h
    cases h
theorem inPart_none {k : Kd} {w : D} {r : List D} (h : behindD k w = none) : inPart k (w :: r) = none := by simp only [inPart, h]
theorem inPart_some {k : Kd} {w : D} {r : List D} {ks : List Kd} (h : behindD k w = some ks) : inPart k (w :: r) = if r.length = ks.length then (if isRest k w && !restOk r then none else some (ks.zip r)) else none := by simp only [inPart, h]
theorem allD_congr {f g : D → Bool} {n : Nat} : ∀ {ds : List D}, DeepL n ds → (∀ b, D.Deep n b → f b = g b) → ds.all f = ds.all g
  | [], _, _ => rfl
  | d :: ds, h, e => by
    simp only [DeepL] at h
    rw [List.all_cons, List.all_cons, e d h.1, allD_congr h.2 e]
/-- one deeper, the same -/
theorem okK_congr {f g : D → Bool} {n : Nat} {k : Kd} {d : D} (dp : d.Deep n) (e : ∀ b, D.Deep n b → f b = g b) : okK f n k d = okK g (n + 1) k d := by
  cases k with
  | test => exact stable n d dp
  | tpart =>
    show lkOk (testN n) d = lkOk (testN (n + 1)) d
    cases n with
    | zero => cases d <;> first | rfl | (simp only [D.Deep] at dp)
    | succ n => exact lkOk_congr dp fun b hb => stable (n + 1) b (D.Deep.up b hb)
  | plan => exact e d dp
  | plans =>
    cases d <;> try rfl
    rename_i ds
    cases n with
    | zero => simp only [D.Deep] at dp
    | succ n =>
      simp only [D.Deep] at dp
      show (decide (ds.length ≤ 6) && ds.all f) = (decide (ds.length ≤ 6) && ds.all g)
      rw [allD_congr dp fun b hb => e b (D.Deep.up b hb)]
  | some =>
    cases d <;> try rfl
    rename_i ds
    cases n with
    | zero => simp only [D.Deep] at dp
    | succ n =>
      simp only [D.Deep] at dp
      show (decide (1 ≤ ds.length ∧ ds.length ≤ 6) && ds.all f) = (decide (1 ≤ ds.length ∧ ds.length ≤ 6) && ds.all g)
      rw [allD_congr dp fun b hb => e b (D.Deep.up b hb)]
  | _ => first | rfl | (cases d <;> rfl)
theorem zip_congr {f g : Kd × D → Bool} {n : Nat} : ∀ {ks : List Kd} {ds : List D}, DeepL n ds → (∀ p : Kd × D, D.Deep n p.2 → f p = g p) → (ks.zip ds).all f = (ks.zip ds).all g
  | [], _, _, _ => by simp
  | _ :: _, [], _, _ => by simp
  | k :: ks, d :: ds, h, e => by
    simp only [DeepL] at h
    rw [List.zip_cons_cons, List.all_cons, List.all_cons, e (k, d) h.1, zip_congr h.2 e]
theorem plan_stable : ∀ (n : Nat) (d : D), d.Deep n → planN n d = planN (n + 1) d
  | 0, d, h => by
    cases d <;> first | rfl | (simp only [D.Deep] at h)
  | n + 1, d, h => by
    cases d <;> try rfl
    rename_i ds
    cases ds with
    | nil => rfl
    | cons w r =>
      simp only [D.Deep, DeepL] at h
      simp only [planN]
      cases behindD .plan w with
      | none => rfl
      | some ks =>
        dsimp only
        rw [zip_congr (f := fun p => okK (planN n) n p.1 p.2) (g := fun p => okK (planN (n + 1)) (n + 1) p.1 p.2) h.2 fun p hp => okK_congr hp (plan_stable n)]
theorem part_right {n : Nat} {k : Kd} {ds : List D} (hk : k = .rpart ∨ k = .tpart ∨ k = .plan) (dp : (D.tup ds).Deep n) : Right n k (.tup ds) (inPart k ds) := by
  cases n with
  | zero => simp only [D.Deep] at dp
  | succ n =>
    cases ds with
    | nil =>
      rcases hk with rfl | rfl | rfl <;> rfl
    | cons w r =>
      simp only [D.Deep, DeepL] at dp
      have planEq : k = .plan → ∀ ks, behindD k w = some ks → okD (n + 1) k (.tup (w :: r)) = (decide (r.length = ks.length) && (ks.zip r).all fun p => okD (n + 1) p.1 p.2) := fun e ks hb => by
        subst e
        show planN (n + 1) (.tup (w :: r)) = _
        simp only [planN, hb]
        rw [zip_congr (f := fun p => okK (planN n) n p.1 p.2) (g := fun p => okK (planN (n + 1)) (n + 1) p.1 p.2) dp.2 fun p hp => okK_congr hp (plan_stable n)]
        rfl
      cases hb : behindD k w with
      | none =>
        rw [inPart_none hb]
        rcases hk with rfl | rfl | rfl
        · exact part_none (.inl rfl) hb
        · exact part_none (.inr rfl) hb
        · show planN (n + 1) (.tup (w :: r)) = false
          simp only [planN, hb]
      | some ks =>
        have e : okD (n + 1) k (.tup (w :: r)) = (if r.length = ks.length then (if isRest k w && !restOk r then false else (ks.zip r).all fun p => okD (n + 1) p.1 p.2) else false) := by
          rcases hk with h | h | h
          · exact part_ok (.inl h) hb
          · exact part_ok (.inr h) hb
          · rw [planEq h ks hb]
            have e : isRest k w = false := by subst h; rfl
            rw [e]
            by_cases hl : r.length = ks.length
            · rw [if_pos hl, decide_eq_true hl]
              rfl
            · rw [if_neg hl, decide_eq_false hl]
              rfl
        rw [inPart_some hb]
        by_cases h1 : r.length = ks.length
        · rw [if_pos h1] at e ⊢
          by_cases h2 : (isRest k w && !restOk r) = true
          · rw [if_pos h2] at e ⊢
            exact e
          · rw [if_neg h2] at e ⊢
            refine ⟨e, zip_deep (dp.2.le (by omega)), ?_⟩
            have := zip_size ks r
            have := size_pos w
            simp only [D.size, sizeL]
            omega
        · rw [if_neg h1] at e ⊢
          exact e
theorem within_right {n : Nat} (k : Kd) (d : D) (dp : d.Deep n) : Right n k d (within k d) := by
  have le1 := size_pos d
  have leaf : ∀ b : Bool, okD n k d = b → Right n k d (if b = true then some [] else none) := fun b e => by
    cases b with
    | true =>
      rw [if_pos rfl]
      exact ⟨e, fun _ q => (by cases q), by simp only [sizeP]; omega⟩
    | false =>
      rw [if_neg Bool.false_ne_true]
      exact e
  have tups : ∀ (ds : List D) (i : Kd) (b : Bool), d = .tup ds → okD n k d = (b && (ds.all fun e => okD n i e)) → Right n k d (if b = true then some (ds.map fun e => (i, e)) else none) := fun ds i b hd e => by
    cases b with
    | false =>
      rw [if_neg Bool.false_ne_true]
      exact e
    | true =>
      rw [if_pos rfl]
      subst hd
      refine ⟨?_, ?_, ?_⟩
      · rw [e, List.all_map]
        rfl
      · cases n with
        | zero => simp only [D.Deep] at dp
        | succ n =>
          simp only [D.Deep] at dp
          exact map_deep (dp.le (by omega))
      · rw [sizeP_map]
        simp only [D.size]
        omega
  cases k with
  | num => exact leaf (inB d none none) (by cases d <;> rfl)
  | dvs =>
    refine leaf (inB d (.some 1) none) ?_
    cases d <;> try rfl
    rename_i i
    show decide (1 ≤ i) = (decide (1 ≤ i) && true)
    rw [Bool.and_true]
  | many => exact leaf _ rfl
  | size => exact leaf _ rfl
  | place => exact leaf _ rfl
  | word => exact leaf (wordB d) rfl
  | nums =>
    cases d <;> try rfl
    rename_i ds
    refine tups ds .num (betw ds.length (.some 0) none) rfl ?_
    show ds.all D.whole = (betw ds.length (.some 0) none && ds.all D.whole)
    have e : betw (ds.length : Int) (.some 0) none = true := by
      show (decide ((0 : Int) ≤ ds.length) && true) = true
      rw [decide_eq_true (by omega)]
      rfl
    rw [e, Bool.true_and]
  | rule =>
    cases d <;> try rfl
    rename_i ds
    refine tups ds .rpart (betw ds.length (.some 0) none) rfl ?_
    show ds.all chOk = (betw ds.length (.some 0) none && ds.all chOk)
    have e : betw (ds.length : Int) (.some 0) none = true := by
      show (decide ((0 : Int) ≤ ds.length) && true) = true
      rw [decide_eq_true (by omega)]
      rfl
    rw [e, Bool.true_and]
  | test =>
    cases d <;> first | (cases n <;> rfl) | skip
    rename_i ds
    cases n with
    | zero => simp only [D.Deep] at dp
    | succ n =>
      refine tups ds .tpart (betw ds.length (.some 0) none) rfl ?_
      show testN (n + 1) (.tup ds) = (betw ds.length (.some 0) none && ds.all (lkOk (testN (n + 1))))
      rw [stable (n + 1) _ dp]
      have e : betw (ds.length : Int) (.some 0) none = true := by
        show (decide ((0 : Int) ≤ ds.length) && true) = true
        rw [decide_eq_true (by omega)]
        rfl
      rw [e, Bool.true_and]
      rfl
  | plans =>
    cases d <;> try rfl
    rename_i ds
    refine tups ds .plan _ rfl ?_
    show (decide (ds.length ≤ 6) && ds.all (planN n)) = (betw ds.length (.some 0) (.some 6) && ds.all (planN n))
    have e : betw (ds.length : Int) (.some 0) (.some 6) = decide (ds.length ≤ 6) := by
      show (decide ((0 : Int) ≤ ds.length) && decide ((ds.length : Int) ≤ 6)) = _
      rw [decide_eq_true (by omega), Bool.true_and]
      by_cases h : ds.length ≤ 6
      · rw [decide_eq_true h, decide_eq_true (by omega)]
      · rw [decide_eq_false h, decide_eq_false (by omega)]
    rw [e]
  | some =>
    cases d <;> try rfl
    rename_i ds
    refine tups ds .plan _ rfl ?_
    show (decide (1 ≤ ds.length ∧ ds.length ≤ 6) && ds.all (planN n)) = (betw ds.length (.some 1) (.some 6) && ds.all (planN n))
    have e : betw (ds.length : Int) (.some 1) (.some 6) = decide (1 ≤ ds.length ∧ ds.length ≤ 6) := by
      show (decide ((1 : Int) ≤ ds.length) && decide ((ds.length : Int) ≤ 6)) = _
      by_cases h : 1 ≤ ds.length ∧ ds.length ≤ 6
      · rw [decide_eq_true h, decide_eq_true (by omega), decide_eq_true (by omega)]
        rfl
      · rw [decide_eq_false h]
        by_cases h2 : 1 ≤ ds.length
        · rw [decide_eq_true (by omega), decide_eq_false (by omega)]
          rfl
        · rw [decide_eq_false (by omega)]
          rfl
    rw [e]
  | rpart =>
    cases d <;> try rfl
    exact part_right (.inl rfl) dp
  | tpart =>
    cases d <;> try rfl
    exact part_right (.inr (.inl rfl)) dp
  | plan =>
    cases d <;> first | (cases n <;> rfl) | skip
    exact part_right (.inr (.inr rfl)) dp
end Lb


set_option Elab.async false
set_option linter.all false
set_option maxRecDepth 100000
set_option maxHeartbeats 4000000
namespace K82
open PySem PySem.Spec PyProof.Rows L2 Lb
abbrev sSorts : Stmt := top 33
/-- how the law calls the kinds -/
def lS : Kd → Str
  | .num => "any"
  | .dvs => "by"
  | .many => "far"
  | .size => "size"
  | .place => "row"
  | .word => "word"
  | .nums => "numbers"
  | .rule => "rule"
  | .test => "test"
  | .plans => "some"
  | .some => "more"
  | .plan => "plan"
  | _ => "none"
def sorts (z : Str) : List Str := match behind .plan z with
  | some ks => ks.map lS
  | none => ["none"]
def spSorts : Sp := fun vs H Q _ => ∃ z : Str, vs = [.str z] ∧ ∀ l H', Same H H' → H l = none → H' l = some (.lst ((sorts z).map V.str)) → Q (.ref l) H'
def k1 : List (Key × V) := [(Sum.inr "list", .str "numbers"), (Sum.inr "broken", .str "numbers word"), (Sum.inr "count", .str "any any far"), (Sum.inr "row", .str "row"), (Sum.inr "turn", .str "rule plan")]
def k2 : List (Key × V) := [(Sum.inr "ahead", .str "plan"), (Sum.inr "windows", .str "size size plan"), (Sum.inr "marks", .str "by plan"), (Sum.inr "spare", .str "plan plan")]
theorem sorts_none {z : Str} (h : behind .plan z = none) : sorts z = (["none"] : List Str) := by
  unfold sorts
  rw [h]
theorem valV_no {kvs : List (Key × V)} {z : Str} (h : ∀ p ∈ kvs, p.1 ≠ Sum.inr z) : valV kvs (Sum.inr z) = none := by
  have e : kvs.find? (fun kv => decide (kv.1 = Sum.inr z)) = none := by
    rw [List.find?_eq_none]
    intro p hp q
    exact h p hp (of_decide_eq_true q)
  unfold valV
  rw [e]
  rfl
theorem last_sort {z : Str} (h1 : z ≠ "sieve") (h2 : z ≠ "upto") (h3 : z ≠ "cut") (h4 : z ≠ "left") (h5 : z ≠ "chain") (h6 : z ≠ "beside") (h7 : z ≠ "wanted") :
    ∃ a : Str, (valV k1 (Sum.inr z)).getD ((valV k2 (Sum.inr z)).getD (.str "none")) = .str a ∧ a.length ≤ 100 ∧ Txt.split a " " = sorts z := by
  by_cases a1 : z = "list"
  · subst a1; exact ⟨"numbers", by decide +kernel, by decide +kernel, by decide +kernel⟩
  by_cases a2 : z = "broken"
  · subst a2; exact ⟨"numbers word", by decide +kernel, by decide +kernel, by decide +kernel⟩
  by_cases a3 : z = "count"
  · subst a3; exact ⟨"any any far", by decide +kernel, by decide +kernel, by decide +kernel⟩
  by_cases a4 : z = "row"
  · subst a4; exact ⟨"row", by decide +kernel, by decide +kernel, by decide +kernel⟩
  by_cases a5 : z = "turn"
  · subst a5; exact ⟨"rule plan", by decide +kernel, by decide +kernel, by decide +kernel⟩
  by_cases a6 : z = "ahead"
  · subst a6; exact ⟨"plan", by decide +kernel, by decide +kernel, by decide +kernel⟩
  by_cases a7 : z = "windows"
  · subst a7; exact ⟨"size size plan", by decide +kernel, by decide +kernel, by decide +kernel⟩
  by_cases a8 : z = "marks"
  · subst a8; exact ⟨"by plan", by decide +kernel, by decide +kernel, by decide +kernel⟩
  by_cases a9 : z = "spare"
  · subst a9; exact ⟨"plan plan", by decide +kernel, by decide +kernel, by decide +kernel⟩
  have v1 : valV k1 (Sum.inr z) = none := valV_no fun p hp q => by
    simp only [k1, List.mem_cons, List.mem_nil_iff, or_false] at hp
    rcases hp with rfl | rfl | rfl | rfl | rfl
    · exact a1 (Sum.inr.inj q).symm
    · exact a2 (Sum.inr.inj q).symm
    · exact a3 (Sum.inr.inj q).symm
    · exact a4 (Sum.inr.inj q).symm
    · exact a5 (Sum.inr.inj q).symm
  have v2 : valV k2 (Sum.inr z) = none := valV_no fun p hp q => by
    simp only [k2, List.mem_cons, List.mem_nil_iff, or_false] at hp
    rcases hp with rfl | rfl | rfl | rfl
    · exact a6 (Sum.inr.inj q).symm
    · exact a7 (Sum.inr.inj q).symm
    · exact a8 (Sum.inr.inj q).symm
    · exact a9 (Sum.inr.inj q).symm
  refine ⟨"none", by rw [v1, v2]; rfl, by decide +kernel, ?_⟩
  rw [sorts_none]
  · decide +kernel
  · simp only [behind]
    rw [if_neg a1, if_neg a2, if_neg a3, if_neg a4, if_neg a5, if_neg h1, if_neg h2, if_neg h3, if_neg h4, if_neg h5, if_neg h6, if_neg a6, if_neg a7, if_neg a8, if_neg a9, if_neg h7]
theorem or_F {a b : Prop} [Decidable a] [Decidable b] (h : (decide a || decide b) = false) : ¬ a ∧ ¬ b := by
  obtain ⟨x, y⟩ := Bool.or_eq_false_iff.mp h
  exact ⟨of_decide_eq_false x, of_decide_eq_false y⟩
theorem or_T {a b : Prop} [Decidable a] [Decidable b] (h : (decide a || decide b) = true) : a ∨ b := by
  rcases Bool.or_eq_true_iff.mp h with x | x
  · exact .inl (of_decide_eq_true x)
  · exact .inr (of_decide_eq_true x)
section
variable {P : Program} {w : World} {K : PySem.W.Frag} {mg : Str → Option Value} {base : Heap}
abbrev nSorts : List Str := ["_law_word", "_law_sorts_here", "_law_others"]
theorem scSorts : FnScope nSorts ["_law_word"] (defScope sSorts) := ⟨rfl, rfl, rfl, by decide +kernel, rfl, by decide +kernel, by decide +kernel⟩
theorem ok_sorts {f : Addr} {fd : FuncData} (F : Fun K "_law_sorts" "_law_sorts" sSorts f fd) (B : Blt mg) : FnOk P w K mg base CX0 1 f fd ["_law_word"] spSorts := by
  refine F.ok scSorts (fun vs H Q E h => ?_) (fun cdv A outer s H vs Q E hr h => ?_)
  · obtain ⟨z, rfl, _⟩ := h
    rfl
  · obtain ⟨z, rfl, fin⟩ := h
    have hu := hu_of hr
    refine ⟨_, pss_cons (ps_set (i := 1) scSorts.nd rfl (.inl rfl) (pe_disp (pps_cons pe_str pe_str (pps_cons pe_str pe_str (pps_cons pe_str pe_str (pps_cons pe_str pe_str (pps_cons pe_str pe_str pps_nil))))) rfl rfl (by simp) (by decide)))
      (pss_cons (ps_if (pt_cmpR op_in_seq (pv 0) (pe_tup (pa_cons pe_str (pa_cons pe_str pa_nil))) rfl) (pss_one (ps_ret (pe_lst (pa_cons pe_str (pa_cons pe_str pa_nil))))) pss_nil)
      (pss_cons (ps_if (pt_cmpR op_in_seq (pv 0) (pe_tup (pa_cons pe_str (pa_cons pe_str pa_nil))) rfl) (pss_one (ps_ret (pe_lst (pa_cons pe_str (pa_cons pe_str pa_nil))))) pss_nil)
      (pss_cons (ps_if (pt_cmpR op_in_seq (pv 0) (pe_tup (pa_cons pe_str (pa_cons pe_str pa_nil))) rfl) (pss_one (ps_ret (pe_lst (pa_cons (pe_ix ix_list (pe_lst (pa_cons pe_str (pa_cons pe_str pa_nil))) (pe_callTy call_int1 (by rfl) B.int boot_int (pa_cons (pe_cmpR op_eq (pv 0) pe_str (nomark _)) pa_nil)) (fun _ _ => rfl)) pa_nil)))) pss_nil)
      (pss_cons (ps_set (i := 2) scSorts.nd rfl (.inl rfl) (pe_disp (pps_cons pe_str pe_str (pps_cons pe_str pe_str (pps_cons pe_str pe_str (pps_cons pe_str pe_str pps_nil)))) rfl rfl (by simp) (by decide)))
      (pss_cons (ps_if (pt_cmpR op_eq (pv 0) pe_str (nomark _)) (pss_one (ps_ret (pe_lst (pa_cons pe_str (pa_cons pe_str (pa_cons pe_str pa_nil)))))) pss_nil)
      (pss_one (ps_ret (pe_split (pe_dget2 hu (pv 1) (pv 0) (pe_dget2 hu (pv 2) (pv 0) pe_str ⟨rfl, rfl, rfl, rfl⟩) ⟨rfl, rfl, rfl, rfl⟩) pe_str)))))))), ?_⟩
    refine fun d nd => ⟨upd_same, k1, rfl, by decide, ?_⟩
    have s1 : Same H (upd (upd H d (.dK [])) d (.dK (mergeK [] k1))) := fun b o h => by
      have ne := ne_of_none h nd
      rw [upd_ne ne, upd_ne ne]
      exact h
    have m1 : mergeK [] k1 = k1 := by decide +kernel
    rw [m1] at s1 ⊢
    generalize hG : upd (upd H d (.dK [])) d (.dK k1) = G at s1 ⊢
    have hd : G d = some (.dK k1) := by rw [← hG, upd_same]
    -- a list told
    have out : ∀ (ws : List Str) (G2 : Hp) (l : Addr), sorts z = ws → Same H G2 → G2 l = none → Q (.ref l) (upd G2 l (.lst (ws.map V.str))) := fun ws G2 l e s2 nl => by
      refine fin l _ (s2.trans (Same.new nl)) ?_ (by rw [upd_same, e])
      cases e2 : H l with
      | none => rfl
      | some o =>
        rw [s2 _ _ e2] at nl
        cases nl
    refine ⟨_, rfl, (by show 2 ≤ sizeLine; decide), fun t1 n1 => ⟨t1, _, rfl, .inr (SqT.of upd_same), rfl, rfl, _, rfl, ?_⟩⟩
    rw [in2]
    have sA := s1.trans (Same.new (o := .tup [.str "sieve", .str "upto"]) n1)
    cases c1 : (decide (z = "sieve") || decide (z = "upto")) with
    | true =>
      refine iteT ⟨(by show 2 ≤ sizeLine; decide), fun l nl => out ["test", "plan"] _ l ?_ sA nl⟩
      rcases or_T c1 with rfl | rfl <;> decide +kernel
    | false =>
      obtain ⟨h1, h2⟩ := or_F c1
      refine iteF ⟨_, rfl, (by show 2 ≤ sizeLine; decide), fun t2 n2 => ⟨t2, _, rfl, .inr (SqT.of upd_same), rfl, rfl, _, rfl, ?_⟩⟩
      rw [in2]
      have sB := sA.trans (Same.new (o := .tup [.str "cut", .str "left"]) n2)
      cases c2 : (decide (z = "cut") || decide (z = "left")) with
      | true =>
        refine iteT ⟨(by show 2 ≤ sizeLine; decide), fun l nl => out ["far", "plan"] _ l ?_ sB nl⟩
        rcases or_T c2 with rfl | rfl <;> decide +kernel
      | false =>
        obtain ⟨h3, h4⟩ := or_F c2
        refine iteF ⟨_, rfl, (by show 2 ≤ sizeLine; decide), fun t3 n3 => ⟨t3, _, rfl, .inr (SqT.of upd_same), rfl, rfl, _, rfl, ?_⟩⟩
        rw [in2]
        have sC := sB.trans (Same.new (o := .tup [.str "chain", .str "beside"]) n3)
        cases c3 : (decide (z = "chain") || decide (z = "beside")) with
        | true =>
          refine iteT ⟨(by show 2 ≤ sizeLine; decide), fun l1 m1 => ⟨_, rfl, rfl, .inr ⟨_, rfl, l1, [.str "some", .str "more"], ?_⟩⟩⟩
          have sD := sC.trans (Same.new (o := .lst [.str "some", .str "more"]) m1)
          rcases or_T c3 with rfl | rfl
          · exact ⟨_, .str "some", rfl, rfl, SqL.of upd_same, by decide +kernel, (by show 1 ≤ sizeLine; decide), fun l2 m2 => out ["some"] _ l2 (by decide +kernel) sD m2⟩
          · exact ⟨_, .str "more", rfl, rfl, SqL.of upd_same, by decide +kernel, (by show 1 ≤ sizeLine; decide), fun l2 m2 => out ["more"] _ l2 (by decide +kernel) sD m2⟩
        | false =>
          obtain ⟨h5, h6⟩ := or_F c3
          refine iteF fun d2 nd2 => ⟨upd_same, k2, rfl, by decide, ?_⟩
          have m2 : mergeK [] k2 = k2 := by decide +kernel
          rw [m2]
          have sD : Same G (upd (upd (upd (upd (upd G t1 (.tup [.str "sieve", .str "upto"])) t2 (.tup [.str "cut", .str "left"])) t3 (.tup [.str "chain", .str "beside"])) d2 (.dK [])) d2 (.dK k2)) := fun b o h => by
            have e3 := Same.new (o := .tup [.str "chain", .str "beside"]) n3 _ _ (Same.new (o := .tup [.str "cut", .str "left"]) n2 _ _ (Same.new (o := .tup [.str "sieve", .str "upto"]) n1 _ _ h))
            have ne := ne_of_none e3 nd2
            rw [upd_ne ne, upd_ne ne]
            exact e3
          generalize hG2 : upd (upd (upd (upd (upd G t1 (.tup [.str "sieve", .str "upto"])) t2 (.tup [.str "cut", .str "left"])) t3 (.tup [.str "chain", .str "beside"])) d2 (.dK [])) d2 (.dK k2) = G2 at sD ⊢
          have hd2 : G2 d2 = some (.dK k2) := by rw [← hG2, upd_same]
          have hd1 := sD _ _ hd
          have sE := s1.trans sD
          refine ⟨_, rfl, rfl, _, rfl, ?_⟩
          by_cases h7 : z = "wanted"
          · subst h7
            exact eqS_T ⟨(by show 3 ≤ sizeLine; decide), fun l nl => out ["far", "word", "plan"] _ l (by decide +kernel) sE nl⟩
          · obtain ⟨a, ea, la, sp⟩ := last_sort h1 h2 h3 h4 h5 h6 h7
            refine eqS_F h7 ⟨_, rfl, d, rfl, .inl ⟨_, .inl hd1⟩, _, rfl, _, rfl, d2, rfl, .inl ⟨_, .inl hd2⟩, _, rfl, _, DGet.k (k := Sum.inr z) hd2, _, DGet.k (k := Sum.inr z) hd1, ?_⟩
            rw [ea]
            refine ⟨⟨_, rfl⟩, a, " ", rfl, rfl, by decide +kernel, by rw [sizeLine_eq]; omega, fun l nl => ?_⟩
            rw [sp]
            exact out _ _ l rfl sE nl
end
end K82


set_option Elab.async false
set_option linter.all false
set_option maxRecDepth 100000
set_option maxHeartbeats 4000000
namespace K82
open PySem PySem.Spec PyProof.Rows L2 Lb
abbrev sReadsX : Stmt := top 32
abbrev sReadsP : Stmt := top 34
def spReadsP (n : Nat) : Sp := fun vs H Q _ => ∃ (v : V) (d : D), vs = [v] ∧ Rep H v d ∧ d.Deep n ∧ Good d ∧ D.size d ≤ 100000 ∧ ∀ H', Same H H' → Q (.bl (planN n d)) H'
def spReadsX (n : Nat) : Sp := fun vs H Q _ => ∃ (k : Kd) (v : V) (d : D), vs = [.str (lS k), v] ∧ k ≠ .rpart ∧ k ≠ .tpart ∧ Rep H v d ∧ d.Deep n ∧ Good d ∧ D.size d ≤ 100000 ∧ ∀ H', Same H H' → Q (.bl (okK (planN n) n k d)) H'
/-- three tuples by name, new -/
theorem three {H : Hp} {p ta tb tc : Addr} {oa ob oc : HO} (np : H p = none) (na : upd H p (.dK []) ta = none) (nb : upd (upd H p (.dK [])) ta oa tb = none) (nc : upd (upd (upd H p (.dK [])) ta oa) tb ob tc = none) :
    (upd (upd (upd (upd H p (.dK [])) ta oa) tb ob) tc oc p = some (.dK []) ∧ p ≠ ta ∧ p ≠ tb ∧ p ≠ tc) ∧ upd (upd (upd (upd H p (.dK [])) ta oa) tb ob) tc oc ta = some oa ∧ upd (upd (upd (upd H p (.dK [])) ta oa) tb ob) tc oc tb = some ob ∧ upd (upd (upd (upd H p (.dK [])) ta oa) tb ob) tc oc tc = some oc ∧
      Same H (upd (upd (upd (upd H p (.dK [])) ta oa) tb ob) tc oc) := by
  have sa := Same.new (o := oa) na
  have sb := Same.new (o := ob) nb
  have sc := Same.new (o := oc) nc
  have e0 : upd H p (.dK []) p = some (.dK []) := upd_same
  have e1 := sa _ _ e0
  have e2 := sb _ _ e1
  exact ⟨⟨sc _ _ e2, ne_of_none e0 na, ne_of_none e1 nb, ne_of_none e2 nc⟩, sc _ _ (sb _ _ upd_same), sc _ _ upd_same, upd_same, ((((Same.new np).trans sa).trans sb).trans sc)⟩
abbrev alphS : Str := "abcdefghijklmnopqrstuvwxyz"
theorem alph_is : alphS.cps.toList = List.range' 97 26 := by decide +kernel
theorem in_alph (c : Nat) : decide (c ∈ alphS.cps.toList) = decide (97 ≤ c ∧ c ≤ 122) := by
  rw [alph_is]
  by_cases h : 97 ≤ c ∧ c ≤ 122
  · rw [decide_eq_true h, decide_eq_true (List.mem_range'_1.mpr (by omega))]
  · rw [decide_eq_false h, decide_eq_false fun q => h (by have := List.mem_range'_1.mp q; omega)]
def fS : D → Bool
  | .str y => y.cps.toList.all fun c => decide (c ∈ alphS.cps.toList)
  | _ => false
def sgn (c : Nat) : D := .str ⟨#[c]⟩
theorem fS_sgn (c : Nat) : fS (sgn c) = decide (97 ≤ c ∧ c ≤ 122) := by
  show ([c].all fun c => decide (c ∈ alphS.cps.toList)) = _
  rw [List.all_cons, List.all_nil, Bool.and_true, in_alph]
theorem sgn_rep {H : Hp} : ∀ cs : List Nat, RepL H (cs.map fun c => V.str ⟨#[c]⟩) (cs.map sgn)
  | [] => .nil
  | c :: cs => .cons Rep.strI (sgn_rep cs)
theorem sgn_deep {n : Nat} : ∀ cs : List Nat, DeepL n (cs.map sgn)
  | [] => by simp only [List.map_nil, DeepL]
  | c :: cs => by
    simp only [List.map_cons, DeepL]
    exact ⟨by cases n <;> simp only [sgn, D.Deep], sgn_deep cs⟩
theorem sgn_lay : ∀ {cs : List Nat}, (∀ c ∈ cs, PyData.strOk ⟨#[c]⟩ = true) → PyData.canLayAll0 (pyL (cs.map sgn)) = true
  | [], _ => rfl
  | c :: cs, h => by
    simp only [List.map_cons, pyL, PyData.canLayAll0, sgn, D.py, PyData.canLay0, Bool.and_eq_true]
    exact ⟨h c (.head _), sgn_lay fun x hx => h x (.tail _ hx)⟩
theorem size_at : ∀ {ds : List D} {j : Nat} {d : D}, ds[j]? = some d → D.size d ≤ sizeL ds
  | [], j, d, e => by simp at e
  | c :: ds, 0, d, e => by
    simp at e
    subst e
    simp only [sizeL]
    omega
  | c :: ds, j + 1, d, e => by
    have := size_at (ds := ds) (j := j) (by simpa using e)
    simp only [sizeL]
    omega
theorem eqv_nilT (ds : List D) : PyData.eqv (.tuple (pyL ds)) (.tuple []) = ds.isEmpty := by
  cases ds <;> simp [pyL, PyData.eqv, PyData.eqvAll]
section
variable {P : Program} {w : World} {K : PySem.W.Frag} {mg : Str → Option Value} {base : Heap}
abbrev nReadsX : List Str := ["_law_sort", "_law_thing", "_law_small", "_law_sign", "_law_one", "_law_least", "_law_most"]
abbrev pReadsX : List Str := ["_law_sort", "_law_thing"]
theorem scReadsX : FnScope nReadsX pReadsX (defScope sReadsX) := ⟨rfl, rfl, rfl, by decide +kernel, rfl, by decide +kernel, by decide +kernel⟩
theorem ok_readsX {f : Addr} {fd : FuncData} (F : Fun K "_law_reads_part" "_law_reads_part" sReadsX f fd) (B : Blt mg) (n : Nat) (hn : n ≤ 40) {k : Nat} (hk : 3 + 2 * n ≤ k)
    (DW : GD P w K mg base CX0 "_law_whole_one" ["_law_thing"] 1 spWhole1) (DR : GD P w K mg base CX0 "_law_reads_rule" ["_law_thing"] 2 spReadsR) (DT : GD P w K mg base CX0 "_law_reads_test" ["_law_thing"] (3 + 2 * n) (spReadsT n))
    (DP : GD P w K mg base CX0 "_law_reads_plan" ["_law_thing"] k (spReadsP n)) : FnOk P w K mg base CX0 (k + 1) f fd pReadsX (spReadsX n) := by
  refine F.ok scReadsX (fun vs H Q E h => ?_) (fun cdv A outer s H vs Q E hr h => ?_)
  · obtain ⟨k, v, d, rfl, _⟩ := h
    rfl
  · obtain ⟨kd, v, d, rfl, nr, nt, rp, dp, ⟨lay, thin⟩, sz, fin⟩ := h
    have hr1 := hr.mono (show 1 ≤ k by omega)
    have hr2 := hr.mono (show 2 ≤ k by omega)
    have hrT := hr.mono (show 3 + 2 * n ≤ k by omega)
    have hu := hu_of hr
    refine ⟨_, pss_cons (ps_if (pt_cmpR op_eq (pv 0) pe_str (nomark _)) (pss_one (ps_ret (pe_gd DP hr rfl pass0 (pa_cons (pv 1) pa_nil)))) pss_nil)
      (pss_cons (ps_if (pt_cmpR op_eq (pv 0) pe_str (nomark _)) (pss_one (ps_ret (pe_gd DR hr2 rfl pass0 (pa_cons (pv 1) pa_nil)))) pss_nil)
      (pss_cons (ps_if (pt_cmpR op_eq (pv 0) pe_str (nomark _)) (pss_one (ps_ret (pe_gd DT hrT rfl pass0 (pa_cons (pv 1) pa_nil)))) pss_nil)
      (pss_cons (ps_if (pt_cmpR op_eq (pv 0) pe_str (nomark _)) (pss_cons (ps_set (i := 2) scReadsX.nd rfl (.inr rfl) pe_str)
        (pss_one (ps_ret (pe_and (pe_callB call_isi (by rfl) B.isinstance boot_isinstance (pa_cons (pv 1) (pa_cons (pe_bltn (v := .ty "str") (by rfl) B.str boot_str rfl) pa_nil)))
          (pe_and (pe_chain op_le op_le pe_int (pe_callB call_len_str (by rfl) B.len boot_len (pa_cons (pv 1) pa_nil)) pe_int)
          (pe_one (pe_cmpR (op_eqD hr.units) (pe_lc (own := [("_law_sign", 3)]) (g := gName 3) (te := tVar 3) rfl scReadsX.nd (pi_str (pv 1)) (blkOk_by (N := nReadsX) (sc := defScope sReadsX) (by decide +kernel)) (fun _ _ _ _ _ => pg_name (i := 3) scReadsX.nd rfl (Or.inl rfl))
            (fun _ _ _ _ _ => pts_one (pt_cmpR op_notIn_sign (pv 3) (pv 2) rfl)) (fun _ _ _ _ _ => pv 3)) (pe_lst pa_nil) (nomark _)))))))) pss_nil)
      (pss_cons (ps_if (pt_cmpR op_in_seq (pv 0) (pe_tup (pa_cons pe_str (pa_cons pe_str (pa_cons pe_str pa_nil)))) rfl)
        (pss_cons (ps_if (pt_not (pt_val (pe_callB call_isi (by rfl) B.isinstance boot_isinstance (pa_cons (pv 1) (pa_cons (pe_bltn (v := .ty "tuple") (by rfl) B.tuple boot_tuple rfl) pa_nil))))) (pss_one (ps_ret pe_bl)) pss_nil)
        (pss_cons (ps_if (pt_cmpR op_eq (pv 0) pe_str (nomark _))
          (pss_one (ps_ret (pe_cmpR (op_eqD hr.units) (pe_lc (own := [("_law_one", 4)]) (g := gName 4) (tt := tNot (tB (tCall spWhole1 [] E0 (tCons (tVar 4) tNil)))) (te := tVar 4) rfl scReadsX.nd (pi_tup (pv 1)) (blkOk_by (N := nReadsX) (sc := defScope sReadsX) (by decide +kernel)) (fun _ _ _ _ _ => pg_name (i := 4) scReadsX.nd rfl (Or.inl rfl))
            (fun _ _ _ _ _ => pts_one (pt_not (pt_val (pe_gd DW hr1 rfl pass0 (pa_cons (pv 4) pa_nil))))) (fun _ _ _ _ _ => pv 4)) (pe_lst pa_nil) (nomark _)))) pss_nil)
        (pss_cons (ps_if (PW.pt (pw_or (pt_cmpR op_gt (pe_callB call_len_seq (by rfl) B.len boot_len (pa_cons (pv 1) pa_nil)) pe_int (nomark _)) (pw_or1 (PW.pt (pw_and (pt_cmpR op_eq (pv 0) pe_str (nomark _)) (pw_and1 (pt_cmpR (op_eqD hr.units) (pv 1) (pe_tup pa_nil) (nomark _)))))))) (pss_one (ps_ret pe_bl)) pss_nil)
        (pss_one (ps_ret (pe_cmpR (op_eqD hr.units) (pe_lc (own := [("_law_one", 4)]) (g := gName 4) (tt := tNot (tB (tCall (spReadsP n) [] E0 (tCons (tVar 4) tNil)))) (te := tVar 4) rfl scReadsX.nd (pi_tup (pv 1)) (blkOk_by (N := nReadsX) (sc := defScope sReadsX) (by decide +kernel)) (fun _ _ _ _ _ => pg_name (i := 4) scReadsX.nd rfl (Or.inl rfl))
            (fun _ _ _ _ _ => pts_one (pt_not (pt_val (pe_gd DP hr rfl pass0 (pa_cons (pv 4) pa_nil))))) (fun _ _ _ _ _ => pv 4)) (pe_lst pa_nil) (nomark _))))))) pss_nil)
      (pss_cons (ps_if (pt_not (pt_val (pe_gd DW hr1 rfl pass0 (pa_cons (pv 1) pa_nil)))) (pss_one (ps_ret pe_bl)) pss_nil)
      (pss_cons (ps_if (pt_cmpR op_eq (pv 0) pe_str (nomark _)) (pss_one (ps_ret pe_bl)) pss_nil)
      (pss_cons (ps_if (pt_cmpR op_eq (pv 0) pe_str (nomark _)) (pss_one (ps_ret (pe_cmpR op_gt (pv 1) pe_int (nomark _)))) pss_nil)
      (pss_cons (ps_asg (pe_dget hu (pe_disp (pps_cons pe_str (pe_tup (pa_cons pe_int (pa_cons pe_int pa_nil))) (pps_cons pe_str (pe_tup (pa_cons pe_int (pa_cons pe_int pa_nil))) (pps_cons pe_str (pe_tup (pa_cons pe_int (pa_cons pe_int pa_nil))) pps_nil))) (by rfl) (by rfl) (fun z => by cases z) (by decide)) (pv 0) (fun _ _ => rfl)) (pg_tup rfl (pgs_cons (pg_name (i := 5) scReadsX.nd rfl (.inl rfl)) (pgs_cons (pg_name (i := 6) scReadsX.nd rfl (.inl rfl)) pgs_nil))))
      (pss_one (ps_ret (pe_chain op_le op_le (pv 5) (pv 1) (pv 6)))))))))))), ?_⟩
    -- by the kind
    have whole : ∀ (G : Hp) (Q2 : Bool → Hp → Prop), Same H G → Q2 d.whole G → (tB (tCall spWhole1 [] E0 (tCons (tVar 1) tNil))) [some (.str (lS kd)), some v, none, none, none, none, none] G Q2 := fun G Q2 sG q => ⟨_, rfl, v, d, rfl, rp.same sG, _, rfl, q⟩
    -- a list of things compared with the empty one
    have none_left : ∀ (f : D → Bool) (ds : List D) (q : Addr) (G : Hp) (us : List V), PyData.canLayAll0 (pyL ds) = true → DeepL 40 ds → G q = some (.lst us) → RepL G us (ds.filter fun e => !f e) → Same H G → (∀ G2, Same H G2 → Q (.bl (ds.all f)) G2) →
        (0 ≤ sizeLine ∧ ∀ o, G o = none → rEqD K (.ref q) (.ref o) (upd G o (.lst [])) Q) := by
      intro f ds q G us lay dp hq ru sG key
      refine ⟨by decide, fun o no => ⟨.list (pyL (ds.filter fun e => !f e)), .list [], .lst (SqL.of (Same.new no _ _ hq)) (RepL.dp _ (RepL.keep (Keeps.of (Same.new no)) _ ru)), .lst (SqL.of upd_same) .nil, ?_, by decide +kernel, ?_⟩⟩
      · refine shaped_of ?_ ?_
        · simp only [PyData.canLay0]
          exact layL_filter _ lay
        · simp only [PyData.depth]
          have := DeepL.py _ (deepL_filter (fun e => !f e) dp)
          omega
      · rw [eqv_nil, filter_none]
        exact key _ (sG.trans (Same.new no))
    cases kd with
    | rpart => exact absurd rfl nr
    | tpart => exact absurd rfl nt
    | plan => exact ⟨_, rfl, rfl, _, rfl, eqS_T ⟨_, rfl, v, d, rfl, rp, dp, ⟨lay, thin⟩, sz, fin⟩⟩
    | rule => exact ⟨_, rfl, rfl, _, rfl, eqS_F (by decide +kernel) ⟨_, rfl, rfl, _, rfl, eqS_T ⟨_, rfl, v, d, rfl, rp, fin⟩⟩⟩
    | test => exact ⟨_, rfl, rfl, _, rfl, eqS_F (by decide +kernel) ⟨_, rfl, rfl, _, rfl, eqS_F (by decide +kernel) ⟨_, rfl, rfl, _, rfl, eqS_T ⟨_, rfl, v, d, rfl, rp, dp, ⟨lay, thin⟩, fin⟩⟩⟩⟩
    | word =>
      refine ⟨_, rfl, rfl, _, rfl, eqS_F (by decide +kernel) ⟨_, rfl, rfl, _, rfl, eqS_F (by decide +kernel) ⟨_, rfl, rfl, _, rfl, eqS_F (by decide +kernel) ⟨_, rfl, rfl, _, rfl, eqS_T ?_⟩⟩⟩⟩
      refine ⟨_, rfl, v, .ty "str", _, _, _, rfl, .ty _, rp.ty, kit_ty (kit_str _), _, rfl, ?_⟩
      cases hs : d.isStr with
      | false =>
        have e : okK (planN n) n .word d = false := by cases d <;> first | rfl | cases hs
        have := fin H (Same.refl H)
        rw [e] at this
        exact iteF this
      | true =>
        obtain ⟨z, rfl⟩ : ∃ z, d = .str z := by
          cases d <;> first | exact ⟨_, rfl⟩ | cases hs
        obtain rfl : v = .str z := by simpa only [Rep] using rp
        simp only [D.size] at sz
        have zl : z.length ≤ sizeLine := by
          rw [sizeLine_eq]
          omega
        have fin : ∀ H', Same H H' → Q (.bl (decide (1 ≤ z.length ∧ z.length ≤ 8) && z.cps.toList.all fun c => decide (97 ≤ c ∧ c ≤ 122))) H' := fin
        refine iteT ⟨_, rfl, z, rfl, zl, _, _, rfl, rfl, _, rfl, ?_⟩
        have len : ∀ b : Bool, b = decide (1 ≤ z.length ∧ z.length ≤ 8) → b = false → Q (.bl false) H := fun b e1 e2 => by
          have := fin H (Same.refl H)
          rw [← e1, e2] at this
          exact this
        by_cases q1 : 1 ≤ z.length
        rotate_left
        · rw [decide_eq_false (show ¬ ((1 : Int) ≤ z.length) by omega)]
          exact iteF ⟨_, rfl, iteF (len false (by rw [decide_eq_false]; omega) rfl)⟩
        rw [decide_eq_true (show ((1 : Int) ≤ z.length) by omega)]
        refine iteT ⟨_, _, rfl, rfl, _, rfl, ?_⟩
        by_cases q2 : z.length ≤ 8
        rotate_left
        · rw [decide_eq_false (show ¬ ((z.length : Int) ≤ 8) by omega)]
          exact iteF (len false (by rw [decide_eq_false]; omega) rfl)
        rw [decide_eq_true (show ((z.length : Int) ≤ 8) by omega)]
        refine iteT ?_
        show tLc _ _ _ _ _ _ _ _
        refine ⟨_, rfl, z, rfl, fun q nq => ?_⟩
        refine lc_it (walk_str (z := z)) (fun j G => Same H G ∧ G q = some (.lst (((z.cps.toList.take j).filter fun c => !decide (97 ≤ c ∧ c ≤ 122)).map fun c => V.str ⟨#[c]⟩))) ⟨Same.new nq, by simpa using upd_same⟩ (fun _ _ _ _ => trivial) ?_ ?_
        · rintro j x G1 G hj ⟨sG, hq⟩ ⟨rfl, c, hc, rfl⟩
          refine ⟨rfl, ?_⟩
          have hc2 : z.cps.toList[j]? = some c := by rw [Array.getElem?_toList]; exact hc
          refine ⟨_, rfl, _, rfl, c, alphS, rfl, rfl, _, rfl, ?_⟩
          rw [in_alph]
          have tk : (z.cps.toList.take (j + 1)).filter (fun c => !decide (97 ≤ c ∧ c ≤ 122)) = (z.cps.toList.take j).filter (fun c => !decide (97 ≤ c ∧ c ≤ 122)) ++ (if (!decide (97 ≤ c ∧ c ≤ 122)) = true then [c] else []) := by
            rw [List.take_add_one, hc2, List.filter_append]
            refine congrArg _ ?_
            show List.filter _ [c] = _
            rw [List.filter_cons]
            rfl
          have small : ((z.cps.toList.take j).filter fun c => !decide (97 ≤ c ∧ c ≤ 122)).length < sizeLine := by
            have h1 := List.length_filter_le (fun c => !decide (97 ≤ c ∧ c ≤ 122)) (z.cps.toList.take j)
            rw [List.length_take] at h1
            have hz : z.cps.size ≤ sizeLine := zl
            omega
          cases hf : decide (97 ≤ c ∧ c ≤ 122) with
          | true =>
            rw [hf] at tk
            refine iteF ⟨sG, ?_⟩
            rw [tk]
            simpa using hq
          | false =>
            rw [hf] at tk
            refine iteT ⟨_, rfl, _, hq, by rw [List.length_map]; exact small, fun p o h => ?_, ?_⟩
            · rw [upd_ne (ne_of_none h nq)]
              exact sG _ _ h
            · rw [upd_same, tk, List.map_append]
              rfl
        · rintro G ⟨sG, hq⟩
          rw [List.take_of_length_le (by rw [Array.length_toList]; exact Nat.le_refl _)] at hq
          have lay : PyData.strOk z = true := by simpa [D.py, PyData.canLay0] using lay
          refine none_left fS (z.cps.toList.map sgn) q G _ (sgn_lay fun c hc => ?_) (sgn_deep _) hq ?_ sG fun G2 s2 => ?_
          · unfold PyData.strOk at lay ⊢
            rw [← Array.all_toList] at lay ⊢
            have h2 := List.all_eq_true.mp lay c hc
            simpa using h2
          · have e : (z.cps.toList.map sgn).filter (fun e => !fS e) = (z.cps.toList.filter fun c => !decide (97 ≤ c ∧ c ≤ 122)).map sgn := by
              rw [List.filter_map]
              refine congrArg _ (List.filter_congr fun c _ => ?_)
              show (!fS (sgn c)) = _
              rw [fS_sgn]
            rw [e]
            exact sgn_rep _
          · have := fin G2 s2
            rw [decide_eq_true ⟨q1, q2⟩, Bool.true_and] at this
            have e : (z.cps.toList.map sgn).all fS = z.cps.toList.all fun c => decide (97 ≤ c ∧ c ≤ 122) := by
              rw [List.all_map]
              refine congrArg (List.all _) (funext fun c => ?_)
              exact fS_sgn c
            rw [e]
            exact this
    | nums =>
      refine ⟨_, rfl, rfl, _, rfl, eqS_F (by decide +kernel) ⟨_, rfl, rfl, _, rfl, eqS_F (by decide +kernel) ⟨_, rfl, rfl, _, rfl, eqS_F (by decide +kernel) ⟨_, rfl, rfl, _, rfl, eqS_F (by decide +kernel) ⟨_, rfl, (by show 3 ≤ sizeLine; decide), fun t ht => ⟨t, _, rfl, .inr (SqT.of upd_same), rfl, rfl, _, rfl, ?_⟩⟩⟩⟩⟩⟩
      refine ifb_T (by decide +kernel) ?_
      have sA : Same H (upd H t (.tup [.str "numbers", .str "some", .str "more"])) := Same.new ht
      refine ⟨_, rfl, v, .ty "tuple", _, _, _, rfl, .ty _, (rp.same sA).ty, kit_ty (kit_tuple _), _, rfl, ?_⟩
      cases hti : d.isTup with
      | false =>
        have e : okK (planN n) n .nums d = false := by cases d <;> first | rfl | cases hti
        have := fin _ sA
        rw [e] at this
        exact iteT this
      | true =>
        obtain ⟨ds, rfl⟩ : ∃ ds, d = .tup ds := by
          cases d <;> first | exact ⟨_, rfl⟩ | cases hti
        obtain ⟨p, us, rfl, hp, rl⟩ := (rp.same sA).tupE
        have lus := rl.length
        simp only [D.py, PyData.canLay0] at lay
        simp only [D.Thin] at thin
        have dp40 : DeepL 40 ds := by
          cases n with
          | zero => simp only [D.Deep] at dp
          | succ m =>
            simp only [D.Deep] at dp
            exact dp.le (by omega)
        refine iteF ⟨_, rfl, rfl, _, rfl, eqS_T ?_⟩
        show tOp _ (tLc _ _ _ _ _) _ _ _ _
        show tLc _ _ _ _ _ _ _ _
        show tLc (iTup K (tVar 1)) (gName 4) (tNot (tB (tCall spWhole1 [] E0 (tCons (tVar 4) tNil)))) (tVar 4) [4] [some (.str (lS .nums)), some (.ref p), none, none, none, none, none] (upd H t (.tup [.str "numbers", .str "some", .str "more"])) _
        refine filt_lc (f := D.whole) rfl hp rl (by omega) (by simp) (fun _ => rfl) (fun j x e G Q2 hx he rx key => ⟨_, rfl, x, e, rfl, rx, _, rfl, key G (Same.refl G)⟩) fun q G ws sG hq rw' => ?_
        exact none_left D.whole ds q G ws lay dp40 hq (RepL.keepSame sG rw') (sA.trans sG) fin
    | plans =>
      refine ⟨_, rfl, rfl, _, rfl, eqS_F (by decide +kernel) ⟨_, rfl, rfl, _, rfl, eqS_F (by decide +kernel) ⟨_, rfl, rfl, _, rfl, eqS_F (by decide +kernel) ⟨_, rfl, rfl, _, rfl, eqS_F (by decide +kernel) ⟨_, rfl, (by show 3 ≤ sizeLine; decide), fun t ht => ⟨t, _, rfl, .inr (SqT.of upd_same), rfl, rfl, _, rfl, ?_⟩⟩⟩⟩⟩⟩
      refine ifb_T (by decide +kernel) ?_
      have sA : Same H (upd H t (.tup [.str "numbers", .str "some", .str "more"])) := Same.new ht
      refine ⟨_, rfl, v, .ty "tuple", _, _, _, rfl, .ty _, (rp.same sA).ty, kit_ty (kit_tuple _), _, rfl, ?_⟩
      cases hti : d.isTup with
      | false =>
        have e : okK (planN n) n .plans d = false := by cases d <;> first | rfl | cases hti
        have := fin _ sA
        rw [e] at this
        exact iteT this
      | true =>
        obtain ⟨ds, rfl⟩ : ∃ ds, d = .tup ds := by
          cases d <;> first | exact ⟨_, rfl⟩ | cases hti
        obtain ⟨p, us, rfl, hp, rl⟩ := (rp.same sA).tupE
        have lus := rl.length
        simp only [D.py, PyData.canLay0] at lay
        simp only [D.Thin] at thin
        have dp40 : DeepL 40 ds := by
          cases n with
          | zero => simp only [D.Deep] at dp
          | succ m =>
            simp only [D.Deep] at dp
            exact dp.le (by omega)
        refine iteF ⟨_, rfl, rfl, _, rfl, eqS_F (by decide +kernel) ?_⟩
        generalize hG0 : upd H t (.tup [.str "numbers", .str "some", .str "more"]) = G0 at hp rl sA ⊢
        refine ⟨_, rfl, p, us, rfl, .inr (SqT.of hp), _, _, rfl, rfl, _, rfl, ?_⟩
        by_cases h6 : ds.length ≤ 6
        rotate_left
        · refine ifd_T (by omega) (iteT ?_)
          have := fin _ sA
          have e : okK (planN n) n .plans (.tup ds) = false := by
            show (decide (ds.length ≤ 6) && _) = false
            rw [decide_eq_false h6]
            rfl
          rw [e] at this
          exact this
        have good : ∀ G2, Same H G2 → Q (.bl (ds.all (planN n))) G2 := fun G2 s2 => by
          have := fin G2 s2
          have e : okK (planN n) n .plans (.tup ds) = ds.all (planN n) := by
            show (decide (ds.length ≤ 6) && _) = _
            rw [decide_eq_true h6]
            rfl
          rw [e] at this
          exact this
        have rest : (tRet (tOp (rEqD K) (tLc (iTup K (tVar 1)) (gName 4) (tNot (tB (tCall (spReadsP n) [] E0 (tCons (tVar 4) tNil)))) (tVar 4) [4]) (tLst tNil))) { nx := fun x H' => Q V.non H', rt := Q } [some (.str (lS .plans)), some (.ref p), none, none, none, none, none] G0 := by
          show tOp _ (tLc _ _ _ _ _) _ _ _ _
          show tLc _ _ _ _ _ _ _ _
          show tLc (iTup K (tVar 1)) (gName 4) (tNot (tB (tCall (spReadsP n) [] E0 (tCons (tVar 4) tNil)))) (tVar 4) [4] [some (.str (lS .plans)), some (.ref p), none, none, none, none, none] G0 _
          refine filt_lc (f := planN n) rfl hp rl (by omega) (by simp) (fun _ => rfl) (fun j x e G Q2 hx he rx key => ⟨_, rfl, x, e, rfl, rx, ?_, ⟨layL_at lay he, thin.2.at_ he⟩, ?_, fun G2 s2 => ⟨_, rfl, key G2 s2⟩⟩) fun q G ws sG hq rw' => ?_
          · cases n with
            | zero => simp only [D.Deep] at dp
            | succ m =>
              simp only [D.Deep] at dp
              exact D.Deep.up _ (dp.at_ he)
          · have := size_at he
            simp only [D.size] at sz
            omega
          · exact none_left (planN n) ds q G ws lay dp40 hq (RepL.keepSame sG rw') (sA.trans sG) good
        exact ifd_F (by omega) ⟨_, rfl, rfl, _, rfl, eqS_F (by decide +kernel) (iteF rest)⟩
    | some =>
      refine ⟨_, rfl, rfl, _, rfl, eqS_F (by decide +kernel) ⟨_, rfl, rfl, _, rfl, eqS_F (by decide +kernel) ⟨_, rfl, rfl, _, rfl, eqS_F (by decide +kernel) ⟨_, rfl, rfl, _, rfl, eqS_F (by decide +kernel) ⟨_, rfl, (by show 3 ≤ sizeLine; decide), fun t ht => ⟨t, _, rfl, .inr (SqT.of upd_same), rfl, rfl, _, rfl, ?_⟩⟩⟩⟩⟩⟩
      refine ifb_T (by decide +kernel) ?_
      have sA : Same H (upd H t (.tup [.str "numbers", .str "some", .str "more"])) := Same.new ht
      refine ⟨_, rfl, v, .ty "tuple", _, _, _, rfl, .ty _, (rp.same sA).ty, kit_ty (kit_tuple _), _, rfl, ?_⟩
      cases hti : d.isTup with
      | false =>
        have e : okK (planN n) n .some d = false := by cases d <;> first | rfl | cases hti
        have := fin _ sA
        rw [e] at this
        exact iteT this
      | true =>
        obtain ⟨ds, rfl⟩ : ∃ ds, d = .tup ds := by
          cases d <;> first | exact ⟨_, rfl⟩ | cases hti
        obtain ⟨p, us, rfl, hp, rl⟩ := (rp.same sA).tupE
        have lus := rl.length
        simp only [D.py, PyData.canLay0] at lay
        simp only [D.Thin] at thin
        have dp40 : DeepL 40 ds := by
          cases n with
          | zero => simp only [D.Deep] at dp
          | succ m =>
            simp only [D.Deep] at dp
            exact dp.le (by omega)
        refine iteF ⟨_, rfl, rfl, _, rfl, eqS_F (by decide +kernel) ?_⟩
        generalize hG0 : upd H t (.tup [.str "numbers", .str "some", .str "more"]) = G1 at hp rl sA ⊢
        refine ⟨_, rfl, p, us, rfl, .inr (SqT.of hp), _, _, rfl, rfl, _, rfl, ?_⟩
        have bad : ¬ (1 ≤ ds.length ∧ ds.length ≤ 6) → ∀ G2, Same H G2 → Q (.bl false) G2 := fun h G2 s2 => by
          have := fin G2 s2
          have e : okK (planN n) n .some (.tup ds) = false := by
            show (decide (1 ≤ ds.length ∧ ds.length ≤ 6) && _) = false
            rw [decide_eq_false h]
            rfl
          rw [e] at this
          exact this
        by_cases h6 : ds.length ≤ 6
        rotate_left
        · exact ifd_T (by omega) (iteT (bad (fun h => h6 h.2) _ sA))
        refine ifd_F (by omega) ⟨_, rfl, rfl, _, rfl, eqS_T ⟨_, rfl, (by show 0 ≤ sizeLine; decide), fun t2 n2 => ?_⟩⟩
        have s2 := Same.new (o := .tup []) n2
        have hp := s2 _ _ hp
        have rl := RepL.keepSame s2 rl
        have sA := sA.trans s2
        have h2 : upd G1 t2 (.tup []) t2 = some (.tup []) := upd_same
        generalize upd G1 t2 (.tup []) = G0 at hp rl sA h2 ⊢
        refine ⟨.tuple (pyL ds), .tuple [], .tup (SqT.of hp) (RepL.dp _ rl), .tup (SqT.of h2) .nil, ?_, by decide +kernel, _, rfl, ?_⟩
        · refine shaped_of ?_ ?_
          · simp only [PyData.canLay0]
            exact lay
          · simp only [PyData.depth]
            have := DeepL.py _ dp40
            omega
        rw [eqv_nilT]
        by_cases h1 : 1 ≤ ds.length
        rotate_left
        · have e : ds = [] := List.eq_nil_of_length_eq_zero (by omega)
          rw [e]
          exact iteT (bad (fun h => h1 h.1) _ sA)
        have ne : ds.isEmpty = false := by
          cases ds with
          | nil => simp at h1
          | cons a r => rfl
        rw [ne]
        have good : ∀ G2, Same H G2 → Q (.bl (ds.all (planN n))) G2 := fun G2 s2 => by
          have := fin G2 s2
          have e : okK (planN n) n .some (.tup ds) = ds.all (planN n) := by
            show (decide (1 ≤ ds.length ∧ ds.length ≤ 6) && _) = _
            rw [decide_eq_true ⟨h1, h6⟩]
            rfl
          rw [e] at this
          exact this
        have rest : (tRet (tOp (rEqD K) (tLc (iTup K (tVar 1)) (gName 4) (tNot (tB (tCall (spReadsP n) [] E0 (tCons (tVar 4) tNil)))) (tVar 4) [4]) (tLst tNil))) { nx := fun x H' => Q V.non H', rt := Q } [some (.str (lS .some)), some (.ref p), none, none, none, none, none] G0 := by
          show tOp _ (tLc _ _ _ _ _) _ _ _ _
          show tLc _ _ _ _ _ _ _ _
          show tLc (iTup K (tVar 1)) (gName 4) (tNot (tB (tCall (spReadsP n) [] E0 (tCons (tVar 4) tNil)))) (tVar 4) [4] [some (.str (lS .some)), some (.ref p), none, none, none, none, none] G0 _
          refine filt_lc (f := planN n) rfl hp rl (by omega) (by simp) (fun _ => rfl) (fun j x e G Q2 hx he rx key => ⟨_, rfl, x, e, rfl, rx, ?_, ⟨layL_at lay he, thin.2.at_ he⟩, ?_, fun G2 s2 => ⟨_, rfl, key G2 s2⟩⟩) fun q G ws sG hq rw' => ?_
          · cases n with
            | zero => simp only [D.Deep] at dp
            | succ m =>
              simp only [D.Deep] at dp
              exact D.Deep.up _ (dp.at_ he)
          · have := size_at he
            simp only [D.size] at sz
            omega
          · exact none_left (planN n) ds q G ws lay dp40 hq (RepL.keepSame sG rw') (sA.trans sG) good
        exact iteF rest
    | num =>
      refine ⟨_, rfl, rfl, _, rfl, eqS_F (by decide +kernel) ⟨_, rfl, rfl, _, rfl, eqS_F (by decide +kernel) ⟨_, rfl, rfl, _, rfl, eqS_F (by decide +kernel) ⟨_, rfl, rfl, _, rfl, eqS_F (by decide +kernel) ⟨_, rfl, (by show 3 ≤ sizeLine; decide), fun t ht => ⟨t, _, rfl, .inr (SqT.of upd_same), rfl, rfl, _, rfl, ?_⟩⟩⟩⟩⟩⟩
      refine ifb_F (by decide +kernel) ?_
      have sA : Same H (upd H t (.tup [.str "numbers", .str "some", .str "more"])) := Same.new ht
      refine whole _ _ sA ?_
      cases hw : d.whole with
      | false =>
        refine iteT ?_
        have := fin _ sA
        have e : okK (planN n) n .num d = false := by cases d <;> first | rfl | cases hw
        rw [e] at this
        exact this
      | true =>
        obtain ⟨x, rfl⟩ : ∃ x, d = .int x := by
          cases d <;> first | exact ⟨_, rfl⟩ | cases hw
        obtain rfl : v = .int x := by simpa only [Rep] using rp
        refine iteF ?_
        exact ⟨_, rfl, rfl, _, rfl, eqS_T (fin _ sA)⟩
    | dvs =>
      refine ⟨_, rfl, rfl, _, rfl, eqS_F (by decide +kernel) ⟨_, rfl, rfl, _, rfl, eqS_F (by decide +kernel) ⟨_, rfl, rfl, _, rfl, eqS_F (by decide +kernel) ⟨_, rfl, rfl, _, rfl, eqS_F (by decide +kernel) ⟨_, rfl, (by show 3 ≤ sizeLine; decide), fun t ht => ⟨t, _, rfl, .inr (SqT.of upd_same), rfl, rfl, _, rfl, ?_⟩⟩⟩⟩⟩⟩
      refine ifb_F (by decide +kernel) ?_
      have sA : Same H (upd H t (.tup [.str "numbers", .str "some", .str "more"])) := Same.new ht
      refine whole _ _ sA ?_
      cases hw : d.whole with
      | false =>
        refine iteT ?_
        have := fin _ sA
        have e : okK (planN n) n .dvs d = false := by cases d <;> first | rfl | cases hw
        rw [e] at this
        exact this
      | true =>
        obtain ⟨x, rfl⟩ : ∃ x, d = .int x := by
          cases d <;> first | exact ⟨_, rfl⟩ | cases hw
        obtain rfl : v = .int x := by simpa only [Rep] using rp
        refine iteF ?_
        refine ⟨_, rfl, rfl, _, rfl, eqS_F (by decide +kernel) ⟨_, rfl, rfl, _, rfl, eqS_T ⟨_, rfl, _, _, rfl, rfl, ?_⟩⟩⟩
        have := fin _ sA
        have e : okK (planN n) n .dvs (.int x) = decide (x > 0) := by
          show decide (1 ≤ x) = decide (x > 0)
          by_cases h : 1 ≤ x
          · rw [decide_eq_true h, decide_eq_true (by omega)]
          · rw [decide_eq_false h, decide_eq_false (by omega)]
        rw [e] at this
        exact this
    | many =>
      refine ⟨_, rfl, rfl, _, rfl, eqS_F (by decide +kernel) ⟨_, rfl, rfl, _, rfl, eqS_F (by decide +kernel) ⟨_, rfl, rfl, _, rfl, eqS_F (by decide +kernel) ⟨_, rfl, rfl, _, rfl, eqS_F (by decide +kernel) ⟨_, rfl, (by show 3 ≤ sizeLine; decide), fun t ht => ⟨t, _, rfl, .inr (SqT.of upd_same), rfl, rfl, _, rfl, ?_⟩⟩⟩⟩⟩⟩
      refine ifb_F (by decide +kernel) ?_
      have sA : Same H (upd H t (.tup [.str "numbers", .str "some", .str "more"])) := Same.new ht
      refine whole _ _ sA ?_
      cases hw : d.whole with
      | false =>
        refine iteT ?_
        have := fin _ sA
        have e : okK (planN n) n .many d = false := by cases d <;> first | rfl | cases hw
        rw [e] at this
        exact this
      | true =>
        obtain ⟨x, rfl⟩ : ∃ x, d = .int x := by
          cases d <;> first | exact ⟨_, rfl⟩ | cases hw
        obtain rfl : v = .int x := by simpa only [Rep] using rp
        refine iteF ?_
        refine ⟨_, rfl, rfl, _, rfl, eqS_F (by decide +kernel) ⟨_, rfl, rfl, _, rfl, eqS_F (by decide +kernel) ?_⟩⟩
        refine fun p np => ⟨(by show 2 ≤ sizeLine; decide), fun ta na => ⟨(by show 2 ≤ sizeLine; decide), fun tb nb => ⟨(by show 2 ≤ sizeLine; decide), fun tc nc => ?_⟩⟩⟩
        obtain ⟨⟨hp0, pa, pb, pc⟩, ha, hb, hc, s4⟩ := three (oc := .tup [.int 1, .int 20]) np na nb nc
        refine ⟨hp0, [(Sum.inr "far", .ref ta), (Sum.inr "row", .ref tb), (Sum.inr "size", .ref tc)], rfl, (by show 3 ≤ 15; decide), _, rfl, p, .ref ta, rfl, DGet.k (k := Sum.inr "far") upd_same, ta, [.int 0, .int 200], rfl, SqT.of (by rw [upd_ne pa.symm]; exact ha), rfl, _, _, rfl, _, _, rfl, rfl, ?_⟩
        have s5 : Same H _ := fun c o e => by
          have e4 := s4 _ _ (sA _ _ e)
          have ne : c ≠ p := ne_of_none (sA _ _ e) np
          exact (upd_ne (o := .dK (mergeK [] [(Sum.inr "far", .ref ta), (Sum.inr "row", .ref tb), (Sum.inr "size", .ref tc)])) ne).trans e4
        have fin2 := fin _ s5
        have fin2 : Q (.bl (decide ((0 : Int) ≤ x) && decide (x ≤ 200))) _ := fin2
        refine ⟨_, rfl, _, rfl, _, _, rfl, rfl, _, rfl, ?_⟩
        cases h0 : decide ((0 : Int) ≤ x) with
        | false =>
          rw [h0] at fin2
          exact iteF fin2
        | true =>
          rw [h0] at fin2
          exact iteT ⟨_, rfl, _, _, rfl, rfl, fin2⟩
    | size =>
      refine ⟨_, rfl, rfl, _, rfl, eqS_F (by decide +kernel) ⟨_, rfl, rfl, _, rfl, eqS_F (by decide +kernel) ⟨_, rfl, rfl, _, rfl, eqS_F (by decide +kernel) ⟨_, rfl, rfl, _, rfl, eqS_F (by decide +kernel) ⟨_, rfl, (by show 3 ≤ sizeLine; decide), fun t ht => ⟨t, _, rfl, .inr (SqT.of upd_same), rfl, rfl, _, rfl, ?_⟩⟩⟩⟩⟩⟩
      refine ifb_F (by decide +kernel) ?_
      have sA : Same H (upd H t (.tup [.str "numbers", .str "some", .str "more"])) := Same.new ht
      refine whole _ _ sA ?_
      cases hw : d.whole with
      | false =>
        refine iteT ?_
        have := fin _ sA
        have e : okK (planN n) n .size d = false := by cases d <;> first | rfl | cases hw
        rw [e] at this
        exact this
      | true =>
        obtain ⟨x, rfl⟩ : ∃ x, d = .int x := by
          cases d <;> first | exact ⟨_, rfl⟩ | cases hw
        obtain rfl : v = .int x := by simpa only [Rep] using rp
        refine iteF ?_
        refine ⟨_, rfl, rfl, _, rfl, eqS_F (by decide +kernel) ⟨_, rfl, rfl, _, rfl, eqS_F (by decide +kernel) ?_⟩⟩
        refine fun p np => ⟨(by show 2 ≤ sizeLine; decide), fun ta na => ⟨(by show 2 ≤ sizeLine; decide), fun tb nb => ⟨(by show 2 ≤ sizeLine; decide), fun tc nc => ?_⟩⟩⟩
        obtain ⟨⟨hp0, pa, pb, pc⟩, ha, hb, hc, s4⟩ := three (oc := .tup [.int 1, .int 20]) np na nb nc
        refine ⟨hp0, [(Sum.inr "far", .ref ta), (Sum.inr "row", .ref tb), (Sum.inr "size", .ref tc)], rfl, (by show 3 ≤ 15; decide), _, rfl, p, .ref tc, rfl, DGet.k (k := Sum.inr "size") upd_same, tc, [.int 1, .int 20], rfl, SqT.of (by rw [upd_ne pc.symm]; exact hc), rfl, _, _, rfl, _, _, rfl, rfl, ?_⟩
        have s5 : Same H _ := fun c o e => by
          have e4 := s4 _ _ (sA _ _ e)
          have ne : c ≠ p := ne_of_none (sA _ _ e) np
          exact (upd_ne (o := .dK (mergeK [] [(Sum.inr "far", .ref ta), (Sum.inr "row", .ref tb), (Sum.inr "size", .ref tc)])) ne).trans e4
        have fin2 := fin _ s5
        have fin2 : Q (.bl (decide ((1 : Int) ≤ x) && decide (x ≤ 20))) _ := fin2
        refine ⟨_, rfl, _, rfl, _, _, rfl, rfl, _, rfl, ?_⟩
        cases h0 : decide ((1 : Int) ≤ x) with
        | false =>
          rw [h0] at fin2
          exact iteF fin2
        | true =>
          rw [h0] at fin2
          exact iteT ⟨_, rfl, _, _, rfl, rfl, fin2⟩
    | place =>
      refine ⟨_, rfl, rfl, _, rfl, eqS_F (by decide +kernel) ⟨_, rfl, rfl, _, rfl, eqS_F (by decide +kernel) ⟨_, rfl, rfl, _, rfl, eqS_F (by decide +kernel) ⟨_, rfl, rfl, _, rfl, eqS_F (by decide +kernel) ⟨_, rfl, (by show 3 ≤ sizeLine; decide), fun t ht => ⟨t, _, rfl, .inr (SqT.of upd_same), rfl, rfl, _, rfl, ?_⟩⟩⟩⟩⟩⟩
      refine ifb_F (by decide +kernel) ?_
      have sA : Same H (upd H t (.tup [.str "numbers", .str "some", .str "more"])) := Same.new ht
      refine whole _ _ sA ?_
      cases hw : d.whole with
      | false =>
        refine iteT ?_
        have := fin _ sA
        have e : okK (planN n) n .place d = false := by cases d <;> first | rfl | cases hw
        rw [e] at this
        exact this
      | true =>
        obtain ⟨x, rfl⟩ : ∃ x, d = .int x := by
          cases d <;> first | exact ⟨_, rfl⟩ | cases hw
        obtain rfl : v = .int x := by simpa only [Rep] using rp
        refine iteF ?_
        refine ⟨_, rfl, rfl, _, rfl, eqS_F (by decide +kernel) ⟨_, rfl, rfl, _, rfl, eqS_F (by decide +kernel) ?_⟩⟩
        refine fun p np => ⟨(by show 2 ≤ sizeLine; decide), fun ta na => ⟨(by show 2 ≤ sizeLine; decide), fun tb nb => ⟨(by show 2 ≤ sizeLine; decide), fun tc nc => ?_⟩⟩⟩
        obtain ⟨⟨hp0, pa, pb, pc⟩, ha, hb, hc, s4⟩ := three (oc := .tup [.int 1, .int 20]) np na nb nc
        refine ⟨hp0, [(Sum.inr "far", .ref ta), (Sum.inr "row", .ref tb), (Sum.inr "size", .ref tc)], rfl, (by show 3 ≤ 15; decide), _, rfl, p, .ref tb, rfl, DGet.k (k := Sum.inr "row") upd_same, tb, [.int 0, .int 59], rfl, SqT.of (by rw [upd_ne pb.symm]; exact hb), rfl, _, _, rfl, _, _, rfl, rfl, ?_⟩
        have s5 : Same H _ := fun c o e => by
          have e4 := s4 _ _ (sA _ _ e)
          have ne : c ≠ p := ne_of_none (sA _ _ e) np
          exact (upd_ne (o := .dK (mergeK [] [(Sum.inr "far", .ref ta), (Sum.inr "row", .ref tb), (Sum.inr "size", .ref tc)])) ne).trans e4
        have fin2 := fin _ s5
        have fin2 : Q (.bl (decide ((0 : Int) ≤ x) && decide (x ≤ 59))) _ := fin2
        refine ⟨_, rfl, _, rfl, _, _, rfl, rfl, _, rfl, ?_⟩
        cases h0 : decide ((0 : Int) ≤ x) with
        | false =>
          rw [h0] at fin2
          exact iteF fin2
        | true =>
          rw [h0] at fin2
          exact iteT ⟨_, rfl, _, _, rfl, rfl, fin2⟩
end
end K82


set_option Elab.async false
set_option linter.all false
set_option maxRecDepth 100000
set_option maxHeartbeats 4000000
namespace K82
open PySem PySem.Spec PyProof.Rows L2 Lb
theorem zip_take {α β : Type} (f : α × β → Bool) {ks : List α} {ds : List β} {j : Nat} {k : α} {d : β} (h1 : ks[j]? = some k) (h2 : ds[j]? = some d) : ((ks.zip ds).take (j + 1)).all f = (((ks.zip ds).take j).all f && f (k, d)) := by
  have e : (ks.zip ds)[j]? = some (k, d) := List.getElem?_zip_eq_some.mpr ⟨h1, h2⟩
  rw [List.take_add_one, e, List.all_append]
  simp
theorem len_le : ∀ ds : List D, ds.length ≤ sizeL ds
  | [] => Nat.le_refl _
  | d :: ds => by
    have := len_le ds
    have := size_pos d
    simp only [List.length_cons, sizeL]
    omega
theorem plan_ks {z : Str} {ks : List Kd} (h : behind .plan z = some ks) : ks.map lS ≠ (["none"] : List Str) ∧ ks ≠ [] ∧ ∀ k ∈ ks, k ≠ .rpart ∧ k ≠ .tpart := by
  simp only [behind] at h
  by_cases h0 : z = "list"
  · rw [if_pos h0] at h; cases h; exact ⟨by decide +kernel, by simp, by simp⟩
  rw [if_neg h0] at h
  by_cases h1 : z = "broken"
  · rw [if_pos h1] at h; cases h; exact ⟨by decide +kernel, by simp, by simp⟩
  rw [if_neg h1] at h
  by_cases h2 : z = "count"
  · rw [if_pos h2] at h; cases h; exact ⟨by decide +kernel, by simp, by simp⟩
  rw [if_neg h2] at h
  by_cases h3 : z = "row"
  · rw [if_pos h3] at h; cases h; exact ⟨by decide +kernel, by simp, by simp⟩
  rw [if_neg h3] at h
  by_cases h4 : z = "turn"
  · rw [if_pos h4] at h; cases h; exact ⟨by decide +kernel, by simp, by simp⟩
  rw [if_neg h4] at h
  by_cases h5 : z = "sieve"
  · rw [if_pos h5] at h; cases h; exact ⟨by decide +kernel, by simp, by simp⟩
  rw [if_neg h5] at h
  by_cases h6 : z = "upto"
  · rw [if_pos h6] at h; cases h; exact ⟨by decide +kernel, by simp, by simp⟩
  rw [if_neg h6] at h
  by_cases h7 : z = "cut"
  · rw [if_pos h7] at h; cases h; exact ⟨by decide +kernel, by simp, by simp⟩
  rw [if_neg h7] at h
  by_cases h8 : z = "left"
  · rw [if_pos h8] at h; cases h; exact ⟨by decide +kernel, by simp, by simp⟩
  rw [if_neg h8] at h
  by_cases h9 : z = "chain"
  · rw [if_pos h9] at h; cases h; exact ⟨by decide +kernel, by simp, by simp⟩
  rw [if_neg h9] at h
  by_cases h10 : z = "beside"
  · rw [if_pos h10] at h; cases h; exact ⟨by decide +kernel, by simp, by simp⟩
  rw [if_neg h10] at h
  by_cases h11 : z = "ahead"
  · rw [if_pos h11] at h; cases h; exact ⟨by decide +kernel, by simp, by simp⟩
  rw [if_neg h11] at h
  by_cases h12 : z = "windows"
  · rw [if_pos h12] at h; cases h; exact ⟨by decide +kernel, by simp, by simp⟩
  rw [if_neg h12] at h
  by_cases h13 : z = "marks"
  · rw [if_pos h13] at h; cases h; exact ⟨by decide +kernel, by simp, by simp⟩
  rw [if_neg h13] at h
  by_cases h14 : z = "spare"
  · rw [if_pos h14] at h; cases h; exact ⟨by decide +kernel, by simp, by simp⟩
  rw [if_neg h14] at h
  by_cases h15 : z = "wanted"
  · rw [if_pos h15] at h; cases h; exact ⟨by decide +kernel, by simp, by simp⟩
  rw [if_neg h15] at h
  cases h
theorem strs_eqv (xs : List Str) : PyData.eqv (.list (xs.map PyData.str)) (.list [.str "none"]) = decide (xs = (["none"] : List Str)) := by
  match xs with
  | [] => simp [PyData.eqv, PyData.eqvAll]
  | [x] => by_cases h : x = "none" <;> simp [PyData.eqv, PyData.eqvAll, h]
  | x :: y :: r => simp [PyData.eqv, PyData.eqvAll]
theorem strs_dp {K : PySem.W.Frag} {H : Hp} : ∀ xs : List Str, DpAll K H (xs.map V.str) (xs.map PyData.str)
  | [] => .nil
  | x :: xs => .cons (.str x) (strs_dp xs)
theorem lS_ok : ∀ k : Kd, PyData.strOk (lS k) = true := by
  intro k
  cases k <;> decide +kernel
theorem strs_lay : ∀ {xs : List Str}, (∀ x ∈ xs, PyData.strOk x = true) → PyData.canLayAll0 (xs.map PyData.str) = true ∧ PyData.depthAll (xs.map PyData.str) ≤ 1
  | [], _ => ⟨rfl, by simp [PyData.depthAll]⟩
  | x :: xs, h => by
    obtain ⟨a, b⟩ := strs_lay (xs := xs) fun y hy => h y (.tail _ hy)
    simp only [List.map_cons, PyData.canLayAll0, PyData.canLay0, PyData.depthAll, PyData.depth, Bool.and_eq_true]
    exact ⟨⟨h x (.head _), a⟩, by omega⟩
theorem int_lay : ∀ is : List Int, PyData.canLayAll0 (pyL (is.map D.int)) = true ∧ PyData.depthAll (pyL (is.map D.int)) ≤ 1
  | [] => ⟨rfl, by simp [pyL, PyData.depthAll]⟩
  | x :: xs => by
    obtain ⟨a, b⟩ := int_lay xs
    simp only [List.map_cons, pyL, D.py, PyData.canLayAll0, PyData.canLay0, PyData.depthAll, PyData.depth, Bool.and_eq_true]
    exact ⟨⟨trivial, a⟩, by omega⟩
theorem int_rep {H : Hp} : ∀ is : List Int, RepL H (is.map V.int) (is.map D.int)
  | [] => .nil
  | x :: xs => .cons Rep.intI (int_rep xs)
section
variable {P : Program} {w : World} {K : PySem.W.Frag} {mg : Str → Option Value} {base : Heap}
abbrev nReadsP : List Str := ["_law_thing", "_law_sorts_here", "_law_k", "_law_sort"]
theorem scReadsP : FnScope nReadsP ["_law_thing"] (defScope sReadsP) := ⟨rfl, rfl, rfl, by decide +kernel, rfl, by decide +kernel, by decide +kernel⟩
theorem ok_readsP {f : Addr} {fd : FuncData} (F : Fun K "_law_reads_plan" "_law_reads_plan" sReadsP f fd) (B : Blt mg) (be : mg "enumerate" = none) (n : Nat) (hn : n ≤ 40) {k : Nat} (hk : 1 ≤ k)
    (DS : GD P w K mg base CX0 "_law_sorts" ["_law_word"] 1 spSorts) (DX : GD P w K mg base CX0 "_law_reads_part" pReadsX k (lessSp spReadsX n)) : FnOk P w K mg base CX0 (k + 1) f fd ["_law_thing"] (spReadsP n) := by
  refine F.ok scReadsP (fun vs H Q E h => ?_) (fun cdv A outer s H vs Q E hr h => ?_)
  · obtain ⟨v, d, rfl, _⟩ := h
    rfl
  · obtain ⟨v, d, rfl, rp, dp, ⟨lay, thin⟩, sz, fin⟩ := h
    have hr1 := hr.mono hk
    refine ⟨_, pss_cons (ps_if (PW.pt (pw_or (pt_not (pt_val (pe_callB call_isi (by rfl) B.isinstance boot_isinstance (pa_cons (pv 0) (pa_cons (pe_bltn (v := .ty "tuple") (by rfl) B.tuple boot_tuple rfl) pa_nil)))))
          (pw_or (pt_cmpR op_lt (pe_callB call_len_seq (by rfl) B.len boot_len (pa_cons (pv 0) pa_nil)) pe_int (nomark _))
          (pw_or1 (pt_not (pt_val (pe_callB call_isi (by rfl) B.isinstance boot_isinstance (pa_cons (pe_ix ix_tup (pv 0) pe_int (fun _ _ => rfl)) (pa_cons (pe_bltn (v := .ty "str") (by rfl) B.str boot_str rfl) pa_nil))))))))) (pss_one (ps_ret pe_bl)) pss_nil)
      (pss_cons (ps_set (i := 1) scReadsP.nd rfl (.inl rfl) (pe_gd DS hr1 rfl pass0 (pa_cons (pe_ix ix_tup (pv 0) pe_int (fun _ _ => rfl)) pa_nil)))
      (pss_cons (ps_if (PW.pt (pw_or (pt_cmpR (op_eqD hr.units) (pv 1) (pe_lst (pa_cons pe_str pa_nil)) (nomark _)) (pw_or1 (pt_cmpR op_ne (pe_callB call_len_seq (by rfl) B.len boot_len (pa_cons (pv 1) pa_nil)) (pe_op op_sub (pe_callB call_len_seq (by rfl) B.len boot_len (pa_cons (pv 0) pa_nil)) pe_int) (nomark _))))) (pss_one (ps_ret pe_bl)) pss_nil)
      (pss_one (ps_ret (pe_cmpR (op_eqD hr.units) (pe_lc (own := [("_law_k", 2), ("_law_sort", 3)]) (g := gTup K 2 (gCons (gName 2) (gCons (gName 3) gNil))) (tt := tNot (tB (tCall (lessSp spReadsX n) [] E0 (tCons (tVar 3) (tCons (tOp (rIxT K) (tVar 0) (tOp (rI0 fun i j => .int (i + j)) (tVar 2) (tC (.int 1)))) tNil))))) (te := tVar 2) rfl scReadsP.nd (pi_enum rfl be (pa_cons (pv 1) pa_nil)) (blkOk_by (N := nReadsP) (sc := defScope sReadsP) (by decide +kernel))
          (fun _ _ _ _ _ => pg_tup rfl (pgs_cons (pg_name (i := 2) scReadsP.nd rfl (Or.inl rfl)) (pgs_cons (pg_name (i := 3) scReadsP.nd rfl (Or.inl rfl)) pgs_nil)))
          (fun _ _ _ _ _ => pts_one (pt_not (pt_val (pe_gd DX hr rfl pass0 (pa_cons (pv 3) (pa_cons (pe_ix ix_tup (pv 0) (pe_op op_add (pv 2) pe_int) (fun _ _ => rfl)) pa_nil)))))) (fun _ _ _ _ _ => pv 2)) (pe_lst pa_nil) (nomark _)))))), ?_⟩
    have bad : planN n d = false → ∀ G, Same H G → Q (.bl false) G := fun e G sG => by
      have := fin G sG
      rw [e] at this
      exact this
    refine ⟨_, rfl, v, .ty "tuple", _, _, _, rfl, .ty _, rp.ty, kit_ty (kit_tuple _), _, rfl, ?_⟩
    cases hti : d.isTup with
    | false => exact iteT (iteT (bad (by cases n <;> cases d <;> first | rfl | cases hti) H (Same.refl H)))
    | true =>
      obtain ⟨ds, rfl⟩ : ∃ ds, d = .tup ds := by
        cases d <;> first | exact ⟨_, rfl⟩ | cases hti
      obtain ⟨p, us, rfl, hp, rl⟩ := rp.tupE
      have lus := rl.length
      cases n with
      | zero => simp only [D.Deep] at dp
      | succ m =>
      simp only [D.Deep] at dp
      simp only [D.py, PyData.canLay0] at lay
      simp only [D.Thin] at thin
      refine iteF ⟨_, rfl, p, us, rfl, .inr (SqT.of hp), _, _, rfl, rfl, _, rfl, ?_⟩
      match ds, us, rl, lus with
      | [], us, rl, lus => exact ifd_T (by rw [lus]; decide) (iteT (bad rfl H (Same.refl H)))
      | w :: [], us, rl, lus =>
        refine ifd_T (by rw [lus]; simp) (iteT (bad ?_ H (Same.refl H)))
        show planN (m + 1) (.tup [w]) = false
        simp only [planN]
        cases hb : behindD .plan w with
        | none => rfl
        | some ks =>
          obtain ⟨z, rfl⟩ : ∃ z, w = .str z := by
            cases w <;> first | exact ⟨_, rfl⟩ | cases hb
          have ne := (plan_ks hb).2.1
          cases ks with
          | nil => exact absurd rfl ne
          | cons k ks => simp
      | w :: y :: r, us, rl, lus =>
        unfold RepL at rl
        obtain ⟨x, xs, rfl, rx, rr⟩ := rl
        refine ifd_F (by rw [lus]; simp; omega) ⟨_, rfl, p, _, 0, x, rfl, rfl, SqT.of hp, at_of (j := 0) (by omega) rfl, x, .ty "str", _, _, _, rfl, .ty _, rx.ty, kit_ty (kit_str _), _, rfl, ?_⟩
        cases hsw : w.isStr with
        | false =>
          refine iteT (bad ?_ H (Same.refl H))
          show planN (m + 1) (.tup (w :: y :: r)) = false
          have e : behindD .plan w = none := by cases w <;> first | rfl | cases hsw
          simp only [planN, e]
        | true =>
          obtain ⟨z, rfl⟩ : ∃ z, w = .str z := by
            cases w <;> first | exact ⟨_, rfl⟩ | cases hsw
          obtain rfl : x = .str z := by simpa only [Rep] using rx
          refine iteF ⟨_, rfl, p, _, 0, _, rfl, rfl, SqT.of hp, at_of (j := 0) (by omega) rfl, z, rfl, fun l G1 s1 nl hl => ?_⟩
          refine ⟨_, rfl, (by show 1 ≤ sizeLine; decide), fun o no => ?_⟩
          have s2 := Same.new (o := .lst [.str "none"]) no
          have hl2 := s2 _ _ hl
          have ho : upd G1 o (.lst [.str "none"]) o = some (.lst [.str "none"]) := upd_same
          have sG := s1.trans s2
          generalize upd G1 o (.lst [.str "none"]) = G at hl2 ho sG ⊢
          have lay3 : PyData.canLayAll0 ((sorts z).map PyData.str) = true ∧ PyData.depthAll ((sorts z).map PyData.str) ≤ 1 := strs_lay fun x hx => by
            unfold sorts at hx
            cases hb : behind .plan z with
            | none =>
              rw [hb] at hx
              rw [List.mem_singleton.mp hx]
              decide +kernel
            | some ks =>
              rw [hb] at hx
              obtain ⟨k, _, rfl⟩ := List.mem_map.mp hx
              exact lS_ok k
          refine ⟨.list ((sorts z).map PyData.str), .list [.str "none"], .lst (SqL.of hl2) (strs_dp _), .lst (SqL.of ho) (.cons (.str _) .nil), shaped_of (by simp only [PyData.canLay0]; exact lay3.1) (by simp only [PyData.depth]; omega), by decide +kernel, _, rfl, ?_⟩
          rw [strs_eqv]
          have eb : behindD .plan (.str z) = behind .plan z := rfl
          cases hb : behind .plan z with
          | none =>
            have e : sorts z = (["none"] : List Str) := sorts_none hb
            refine ifd_T e (iteT (bad ?_ G sG))
            show planN (m + 1) (.tup (.str z :: y :: r)) = false
            simp only [planN, eb, hb]
          | some ks =>
            obtain ⟨k1, k2, k3⟩ := plan_ks hb
            have e : sorts z = ks.map lS := by
              unfold sorts
              rw [hb]
            rw [e] at hl2 ⊢
            refine ifd_F k1 ⟨_, rfl, l, _, rfl, .inl (SqL.of hl2), _, rfl, p, _, rfl, .inr (SqT.of (sG _ _ hp)), _, _, rfl, rfl, rfl, _, rfl, ?_⟩
            by_cases hlen : (y :: r).length = ks.length
            rotate_left
            · refine ifn_T ?_ (bad ?_ G sG)
              · intro q
                have q := V.int.inj q
                simp only [List.length_cons, List.length_map] at q hlen lus
                omega
              · show planN (m + 1) (.tup (.str z :: y :: r)) = false
                simp only [planN, eb, hb]
                rw [decide_eq_false hlen]
                rfl
            refine ifn_F ?_ ?_
            · refine congrArg V.int ?_
              simp only [List.length_cons, List.length_map] at hlen lus ⊢
              omega
            have good : ∀ G2, Same H G2 → Q (.bl ((ks.zip (y :: r)).all fun p => okK (planN m) m p.1 p.2)) G2 := fun G2 s3 => by
              have := fin G2 s3
              have e5 : planN (m + 1) (.tup (.str z :: y :: r)) = (ks.zip (y :: r)).all fun p => okK (planN m) m p.1 p.2 := by
                simp only [planN, eb, hb]
                rw [decide_eq_true hlen, Bool.true_and]
              rw [e5] at this
              exact this
            have hpG := sG _ _ hp
            dsimp only [tNext]
            show tOp _ (tLc _ _ _ _ _) _ _ _ _
            show tLc _ _ _ _ _ _ _ _
            refine ⟨_, rfl, l, _, rfl, SqL.of hl2, fun q nq => ?_⟩
            refine lc_it (walk_enum (K := K) (a := l) (xs := (ks.map lS).map V.str)) (fun j G3 => Same G G3 ∧ ∃ is : List Int, G3 q = some (.lst (is.map V.int)) ∧ is.length ≤ j ∧ is.isEmpty = ((ks.zip (y :: r)).take j).all fun p => okK (planN m) m p.1 p.2) ⟨Same.new nq, [], upd_same, Nat.le_refl _, by simp⟩ (fun j G3 _ q3 => SqL.of (q3.1 _ _ hl2)) ?_ ?_
            · rintro j x2 G3 G4 hj ⟨s3, is, hq, li, em⟩ ⟨T, a, b, rfl, nT, rfl, ea, eb2⟩
              have ea : V.int (j : Nat) = a := Option.some.inj ea
              subst ea
              have eb2 : ((ks.map lS).map V.str)[j]? = some b := eb2
              rw [List.map_map, List.getElem?_map] at eb2
              obtain ⟨kj, hkj, rfl⟩ := Option.map_eq_some_iff.mp eb2
              have lj : j < (y :: r).length := by
                have := (List.getElem?_eq_some_iff.mp hkj).1
                omega
              obtain ⟨dj, hdj⟩ : ∃ dj, (y :: r)[j]? = some dj := ⟨(y :: r)[j], List.getElem?_eq_getElem lj⟩
              obtain ⟨vj, hvj, rvj⟩ := rr.at_ hdj
              have sT := Same.new (o := .tup [V.int (j : Nat), .str (lS kj)]) nT
              have hqT := sT _ _ hq
              have hpT := sT _ _ (s3 _ _ hpG)
              have kk3 := k3 kj (List.mem_of_getElem? hkj)
              have nqT : Same H (upd G3 T (.tup [V.int (j : Nat), .str (lS kj)])) := (sG.trans s3).trans sT
              refine ⟨T, _, rfl, SqT.of upd_same, rfl, _, _, rfl, _, _, rfl, rfl, rfl, ?_⟩
              refine ⟨_, rfl, _, rfl, _, rfl, _, _, rfl, rfl, p, _, ((j : Nat) : Int) + 1, vj, rfl, rfl, SqT.of hpT, at_of (j := j + 1) (by omega) (by simpa using hvj), kj, vj, dj, rfl, kk3.1, kk3.2, rvj.same nqT, ?_, ⟨?_, ?_⟩, ?_, fun G5 s5 => ⟨_, rfl, ?_⟩⟩
              · simp only [DeepL] at dp
                exact DeepL.at_ (ds := y :: r) (by simp only [DeepL]; exact dp.2) hdj
              · simp only [pyL, PyData.canLayAll0, Bool.and_eq_true] at lay
                exact layL_at (ds := y :: r) (by simp only [pyL, PyData.canLayAll0, Bool.and_eq_true]; exact lay.2) hdj
              · obtain ⟨_, th⟩ := thin
                simp only [ThinL] at th
                exact ThinL.at_ (ds := y :: r) (by simp only [ThinL]; exact th.2) hdj
              · have := size_at hdj
                simp only [D.size, sizeL] at sz this
                omega
              have tk := zip_take (fun p : Kd × D => okK (planN m) m p.1 p.2) hkj hdj
              cases hok : okK (planN m) m kj dj with
              | true =>
                refine iteF ⟨s3.trans (sT.trans s5), is, s5 _ _ hqT, by omega, ?_⟩
                rw [tk, hok, Bool.and_true]
                exact em
              | false =>
                refine iteT ⟨_, rfl, _, s5 _ _ hqT, ?_, fun c o h => ?_, is ++ [((j : Nat) : Int)], by rw [upd_same, List.map_append]; rfl, by rw [List.length_append, List.length_singleton]; omega, ?_⟩
                · have := size_at (ds := y :: r) hdj
                  simp only [List.length_map] at hj
                  have z1 := len_le (y :: r)
                  simp only [D.size, sizeL] at sz z1
                  rw [List.length_map, sizeLine_eq]
                  omega
                · rw [upd_ne (ne_of_none h nq)]
                  exact s5 _ _ (sT _ _ (s3 _ _ h))
                · rw [tk, hok, Bool.and_false]
                  cases is <;> rfl
            · rintro G3 ⟨s3, is, hq, li, em⟩
              refine ⟨(by show 0 ≤ sizeLine; decide), fun o2 no2 => ⟨.list (pyL (is.map D.int)), .list [], .lst (SqL.of (Same.new no2 _ _ hq)) (RepL.dp _ (int_rep is)), .lst (SqL.of upd_same) .nil, shaped_of (by simp only [PyData.canLay0]; exact (int_lay is).1) (by simp only [PyData.depth]; have := (int_lay is).2; omega), by decide +kernel, ?_⟩⟩
              rw [eqv_nil]
              have e6 : (is.map D.int).isEmpty = (ks.zip (y :: r)).all fun p => okK (planN m) m p.1 p.2 := by
                rw [List.isEmpty_map, em, List.take_of_length_le]
                rw [List.length_zip, List.length_map, List.length_map]
                omega
              rw [e6]
              exact good _ ((sG.trans s3).trans (Same.new no2))
end
end K82


set_option Elab.async false
set_option linter.all false
set_option maxRecDepth 100000
set_option maxHeartbeats 4000000
/-! What is shown of things, and how long it is; repr. -/
namespace Lb
open PySem PySem.Spec PyProof.Rows L2
/-- three wide, so deep at most, no too great numbers -/
def Fit3 : Nat → PyData → Prop
  | _, .int i => i.natAbs < 2 ^ 1900
  | _, .str x => (reprText x).length ≤ 600
  | _, .none => True
  | _, .bool _ => True
  | n + 1, .list xs => xs.length ≤ 3 ∧ ∀ x ∈ xs, Fit3 n x
  | n + 1, .tuple xs => xs.length ≤ 3 ∧ ∀ x ∈ xs, Fit3 n x
  | _, _ => False
theorem Fit3.up : ∀ {n : Nat} {d : PyData}, Fit3 n d → Fit3 (n + 1) d
  | n, .int i, h => by cases n <;> exact h
  | n, .str i, h => by cases n <;> exact h
  | n, .none, _ => trivial
  | n, .bool _, _ => trivial
  | 0, .list xs, h => h.elim
  | 0, .tuple xs, h => h.elim
  | 0, .dict xs, h => h.elim
  | n + 1, .dict xs, h => h.elim
  | n + 1, .list xs, h => ⟨h.1, fun x hx => (h.2 x hx).up⟩
  | n + 1, .tuple xs, h => ⟨h.1, fun x hx => (h.2 x hx).up⟩
theorem Fit3.le {n m : Nat} {d : PyData} (h : Fit3 n d) (l : n ≤ m) : Fit3 m d := by
  obtain ⟨k, rfl⟩ := Nat.le.dest l
  induction k with
  | zero => exact h
  | succ k ih => exact (ih (by omega)).up
theorem shownAll_map : ∀ xs : List PyData, PyData.shownAll xs = xs.map PyData.shown
  | [] => by simp only [PyData.shownAll, List.map_nil]
  | x :: xs => by simp only [PyData.shownAll, List.map_cons, shownAll_map xs]
theorem sum_three {xs : List PyData} {B : Nat} (l : xs.length ≤ 3) (B0 : 620 ≤ B) (h : ∀ x ∈ xs, x.shown.length + 5 ≤ B) : ((PyData.shownAll xs).map (·.length)).sum + 2 * xs.length + 8 ≤ 3 * B := by
  rw [shownAll_map, List.map_map]
  match xs, l, h with
  | [], _, _ =>
    simp
    omega
  | [a], _, h =>
    have h1 := h a (by simp)
    simp
    omega
  | [a, b], _, h =>
    have h1 := h a (by simp)
    have h2 := h b (by simp)
    simp
    omega
  | [a, b, c], _, h =>
    have h1 := h a (by simp)
    have h2 := h b (by simp)
    have h3 := h c (by simp)
    simp
    omega
  | a :: b :: c :: d :: r, l, _ =>
    simp at l
theorem pow3 (n : Nat) : 1 ≤ 3 ^ n := Nat.pow_pos (by decide)
theorem big_ten {i : Int} (h : i.natAbs < 2 ^ 1900) : i.natAbs < 10 ^ 572 := Nat.lt_of_lt_of_le h (by decide +kernel)
theorem int_len {i : Int} (h : i.natAbs < 2 ^ 1900) : (PyData.shown (.int i)).length ≤ 573 := by
  have e := int_text_length_le10 (k := 572) (by decide) (big_ten h)
  show (Str.ofString (toString i)).length ≤ 573
  rw [PySem.ofString_length]
  exact e
theorem Fit3.shown : ∀ {n : Nat} {d : PyData}, Fit3 n d → d.shown.length + 5 ≤ 620 * 3 ^ n
  | n, .int i, h => by
    have h2 : i.natAbs < 2 ^ 1900 := by cases n <;> exact h
    have e := int_len h2
    have := pow3 n
    omega
  | n, .str x, h => by
    have h2 : (reprText x).length ≤ 600 := by cases n <;> exact h
    have := pow3 n
    show (reprText x).length + 5 ≤ _
    omega
  | n, .none, _ => by
    have := pow3 n
    have e : (PyData.shown .none).length = 4 := by decide +kernel
    omega
  | n, .bool b, _ => by
    have := pow3 n
    have e : (PyData.shown (.bool b)).length ≤ 5 := by cases b <;> decide +kernel
    omega
  | 0, .list xs, h => h.elim
  | 0, .tuple xs, h => h.elim
  | 0, .dict xs, h => h.elim
  | n + 1, .dict xs, h => h.elim
  | n + 1, .list xs, h => by
    have ih : ∀ x ∈ xs, x.shown.length + 5 ≤ 620 * 3 ^ n := fun x hx => (h.2 x hx).shown
    have s := sum_three h.1 (by have := pow3 n; omega) ih
    have l := listText_len_le (PyData.shownAll xs)
    have e : (PyData.shownAll xs).length = xs.length := by rw [shownAll_map, List.length_map]
    have h3 := h.1
    rw [Nat.pow_succ]
    show (listText (PyData.shownAll xs)).length + 5 ≤ _
    rw [e] at l
    generalize 3 ^ n = T at s ⊢
    omega
  | n + 1, .tuple xs, h => by
    have ih : ∀ x ∈ xs, x.shown.length + 5 ≤ 620 * 3 ^ n := fun x hx => (h.2 x hx).shown
    have s := sum_three h.1 (by have := pow3 n; omega) ih
    have l := tupleText_len_le (PyData.shownAll xs)
    have e : (PyData.shownAll xs).length = xs.length := by rw [shownAll_map, List.length_map]
    have h3 := h.1
    rw [Nat.pow_succ]
    show (tupleText (PyData.shownAll xs)).length + 5 ≤ _
    rw [e] at l
    generalize 3 ^ n = T at s ⊢
    omega
theorem showableAll_of {xs : List PyData} (h : ∀ x ∈ xs, x.showable = true) : PyData.showableAll xs = true := by
  induction xs with
  | nil => rfl
  | cons x xs ih =>
    simp only [PyData.showableAll, Bool.and_eq_true]
    exact ⟨h x (.head _), ih fun y hy => h y (.tail _ hy)⟩
theorem hasDictAll_of {xs : List PyData} (h : ∀ x ∈ xs, x.hasDict = false) : PyData.hasDictAll xs = false := by
  induction xs with
  | nil => rfl
  | cons x xs ih =>
    simp only [PyData.hasDictAll, Bool.or_eq_false_iff]
    exact ⟨h x (.head _), ih fun y hy => h y (.tail _ hy)⟩
theorem depthAll_of {xs : List PyData} {n : Nat} (h : ∀ x ∈ xs, x.depth ≤ n) : PyData.depthAll xs ≤ n := by
  induction xs with
  | nil => exact Nat.zero_le _
  | cons x xs ih =>
    simp only [PyData.depthAll]
    exact Nat.max_le.mpr ⟨h x (.head _), ih fun y hy => h y (.tail _ hy)⟩
theorem Fit3.rest : ∀ {n : Nat} {d : PyData}, Fit3 n d → d.showable = true ∧ d.hasDict = false ∧ d.depth ≤ n
  | n, .int i, h => by
    have h2 : i.natAbs < 2 ^ 1900 := by cases n <;> exact h
    refine ⟨?_, rfl, Nat.zero_le _⟩
    show decide (i.natAbs.log2 < 1920) = true
    refine decide_eq_true ?_
    by_cases z : i.natAbs = 0
    · rw [z]
      decide
    · exact Nat.lt_trans ((Nat.log2_lt z).mpr h2) (by decide)
  | n, .str x, h => ⟨rfl, rfl, Nat.zero_le _⟩
  | n, .none, _ => ⟨rfl, rfl, Nat.zero_le _⟩
  | n, .bool b, _ => ⟨rfl, rfl, Nat.zero_le _⟩
  | 0, .list xs, h => h.elim
  | 0, .tuple xs, h => h.elim
  | 0, .dict xs, h => h.elim
  | n + 1, .dict xs, h => h.elim
  | n + 1, .list xs, h => by
    have ih : ∀ x ∈ xs, x.showable = true ∧ x.hasDict = false ∧ x.depth ≤ n := fun x hx => (h.2 x hx).rest
    refine ⟨showableAll_of fun x hx => (ih x hx).1, hasDictAll_of fun x hx => (ih x hx).2.1, ?_⟩
    show PyData.depthAll xs + 1 ≤ n + 1
    have := depthAll_of fun x hx => (ih x hx).2.2
    omega
  | n + 1, .tuple xs, h => by
    have ih : ∀ x ∈ xs, x.showable = true ∧ x.hasDict = false ∧ x.depth ≤ n := fun x hx => (h.2 x hx).rest
    refine ⟨showableAll_of fun x hx => (ih x hx).1, hasDictAll_of fun x hx => (ih x hx).2.1, ?_⟩
    show PyData.depthAll xs + 1 ≤ n + 1
    have := depthAll_of fun x hx => (ih x hx).2.2
    omega
/-- repr of data -/
def rRepr (K : PySem.W.Frag) : List V → Hp → VK → Prop := fun xs H Q => ∃ (v : V) (d : PyData), xs = [v] ∧ Dp K H v d ∧ Fit3 8 d ∧ Q (.str d.shown) H
section
variable {X : Cx}
theorem call_repr (hg : X.A.guards = some []) (hu : X.A.units + 64 < cLine) : CallR X (.builtin "repr") (rRepr X.K) := by
  intro pins s σ H xs us Q I r h
  obtain ⟨v, d, rfl, dp, ft, q⟩ := h
  obtain ⟨u, rfl, ru⟩ := vals1 r
  obtain ⟨as, rd⟩ := Dp.reads I d v u dp ru
  have sl : d.shown.length ≤ sizeLine := by
    have := ft.shown
    have e : (3 : Nat) ^ 8 = 6561 := by decide
    rw [e] at this
    rw [sizeLine_eq]
    omega
  obtain ⟨f1, f2, f3⟩ := ft.rest
  have end_ : ∀ h' t k, (∀ b o, s.heap.get? b = some o → h'.get? b = some o) → ∃ v H', Inv X pins σ H' { s with heap := h', toks := k } ∧ RelV v (.str d.shown t) ∧ Q v H' :=
    fun h' t k hk => ⟨.str d.shown, H, I.kept hk, ⟨t, rfl⟩, q⟩
  cases dp with
  | int i =>
    obtain ⟨t, rfl⟩ := ru
    refine PySem.P.repr_of_int (of_decide_eq_true f1) ?_
    exact end_ s.heap _ _ fun _ _ e => e
  | str x =>
    obtain ⟨t, rfl⟩ := ru
    refine PySem.P.repr_of_str ?_ sl
    exact end_ s.heap _ _ fun _ _ e => e
  | bl b =>
    cases ru
    refine PySem.P.repr_of_bool ?_
    exact end_ s.heap _ _ fun _ _ e => e
  | non =>
    cases ru
    refine PySem.P.repr_of_none ?_
    exact end_ s.heap _ _ fun _ _ e => e
  | lst a b =>
    cases ru
    exact repr_of_reads' rd f1 (PyData.noDict_hsm f2) hg (by omega) (fun _ _ e => e) (fun h' u tk hk => end_ h' u tk hk) sl
  | tup a b =>
    cases ru
    exact repr_of_reads' rd f1 (PyData.noDict_hsm f2) hg (by omega) (fun _ _ e => e) (fun h' u tk hk => end_ h' u tk hk) sl
end
end Lb


set_option Elab.async false
set_option linter.all false
set_option maxRecDepth 100000
set_option maxHeartbeats 4000000
/-! repr of things of any width: a bound of its text by what is in it. -/
namespace Lb
open PySem PySem.Spec PyProof.Rows L2
mutual
/-- no number, no text in it is too long -/
def D.Mild : D → Prop
  | .int i => i.natAbs < 2 ^ 500
  | .str z => (reprText z).length ≤ 150
  | .tup ds => MildL ds
  | _ => True
def MildL : List D → Prop
  | [] => True
  | d :: ds => D.Mild d ∧ MildL ds
end
theorem MildL.app : ∀ {ds es : List D}, MildL ds → MildL es → MildL (ds ++ es)
  | [], es, _, b => b
  | d :: ds, es, a, b => by
    simp only [MildL, List.cons_append] at a ⊢
    exact ⟨a.1, MildL.app a.2 b⟩
theorem MildL.take : ∀ {ds : List D} (k : Nat), MildL ds → MildL (ds.take k)
  | ds, 0, _ => by simp only [List.take_zero, MildL]
  | [], k + 1, _ => by simp only [List.take_nil, MildL]
  | d :: ds, k + 1, h => by
    simp only [MildL] at h
    simp only [List.take_succ_cons, MildL]
    exact ⟨h.1, MildL.take k h.2⟩
theorem MildL.drop : ∀ {ds : List D} (k : Nat), MildL ds → MildL (ds.drop k)
  | ds, 0, h => h
  | [], k + 1, h => h
  | d :: ds, k + 1, h => by
    simp only [MildL] at h
    exact MildL.drop k h.2
theorem MildL.at_ : ∀ {ds : List D} {i : Nat} {d : D}, MildL ds → ds[i]? = some d → D.Mild d
  | [], i, d, _, e => by simp at e
  | c :: ds, 0, d, h, e => by
    simp only [MildL] at h
    simp at e
    rw [← e]
    exact h.1
  | c :: ds, i + 1, d, h, e => by
    simp only [MildL] at h
    exact MildL.at_ h.2 (by simpa using e)
theorem sz_pos (d : D) : 1 ≤ D.size d := by cases d <;> simp only [D.size] <;> omega
theorem int_show {i : Int} (h : i.natAbs < 2 ^ 500) : (PyData.int i).showable = true := by
  show decide (i.natAbs.log2 < 1920) = true
  refine decide_eq_true ?_
  by_cases z : i.natAbs = 0
  · rw [z]
    decide
  · exact Nat.lt_trans ((Nat.log2_lt z).mpr h) (by decide)
theorem int_len5 {i : Int} (h : i.natAbs < 2 ^ 500) : (PyData.shown (.int i)).length ≤ 152 := by
  have e := int_text_length_le10 (k := 151) (by decide) (Nat.lt_of_lt_of_le h (by decide +kernel))
  show (Str.ofString (toString i)).length ≤ 152
  rw [PySem.ofString_length]
  exact e
mutual
theorem D.Mild.shown : ∀ (d : D), D.Mild d → d.py.showable = true ∧ d.py.hasDict = false ∧ d.py.shown.length + 5 ≤ 170 * D.size d
  | .non, _ => ⟨rfl, rfl, by
    have e : (PyData.shown .none).length = 4 := by decide +kernel
    simp only [D.py, D.size]
    omega⟩
  | .bl b, _ => ⟨rfl, rfl, by
    have e : (PyData.shown (.bool b)).length ≤ 5 := by cases b <;> decide +kernel
    simp only [D.py, D.size]
    omega⟩
  | .int i, h => by
    simp only [D.Mild] at h
    have e := int_len5 h
    refine ⟨int_show h, rfl, ?_⟩
    simp only [D.py, D.size]
    omega
  | .str z, h => by
    simp only [D.Mild] at h
    refine ⟨rfl, rfl, ?_⟩
    show (reprText z).length + 5 ≤ _
    simp only [D.size]
    omega
  | .emp, _ => ⟨rfl, rfl, by
    have e : (PyData.shown (.list [])).length ≤ 5 := by decide +kernel
    simp only [D.py, D.size]
    omega⟩
  | .tup ds, h => by
    simp only [D.Mild] at h
    obtain ⟨a, b, c⟩ := MildL.shown ds h
    refine ⟨a, b, ?_⟩
    have l := tupleText_len_le (PyData.shownAll (pyL ds))
    show (tupleText (PyData.shownAll (pyL ds))).length + 5 ≤ _
    simp only [D.size]
    omega
theorem MildL.shown : ∀ (ds : List D), MildL ds → PyData.showableAll (pyL ds) = true ∧ PyData.hasDictAll (pyL ds) = false ∧ ((PyData.shownAll (pyL ds)).map (·.length)).sum + 2 * (PyData.shownAll (pyL ds)).length ≤ 170 * sizeL ds
  | [], _ => ⟨rfl, rfl, by simp [pyL, PyData.shownAll]⟩
  | d :: ds, h => by
    simp only [MildL] at h
    obtain ⟨a, b, c⟩ := D.Mild.shown d h.1
    obtain ⟨x, y, z⟩ := MildL.shown ds h.2
    simp only [pyL, PyData.showableAll, PyData.hasDictAll, PyData.shownAll, a, b, x, y, List.map_cons, List.sum_cons, List.length_cons, sizeL, Bool.and_self, Bool.or_self, true_and]
    omega
end
/-- repr of data, of any width -/
def rReprG (K : PySem.W.Frag) : List V → Hp → VK → Prop := fun xs H Q => ∃ (v : V) (d : PyData), xs = [v] ∧ Dp K H v d ∧ d.showable = true ∧ d.hasDict = false ∧ d.depth ≤ 40 ∧ d.shown.length ≤ sizeLine ∧ Q (.str d.shown) H
section
variable {X : Cx}
theorem call_reprG (hg : X.A.guards = some []) (hu : X.A.units + 64 < cLine) : CallR X (.builtin "repr") (rReprG X.K) := by
  intro pins s σ H xs us Q I r h
  obtain ⟨v, d, rfl, dp, f1, f2, f3, sl, q⟩ := h
  obtain ⟨u, rfl, ru⟩ := vals1 r
  obtain ⟨as, rd⟩ := Dp.reads I d v u dp ru
  have fin : ∀ h' t k, (∀ b o, s.heap.get? b = some o → h'.get? b = some o) → ∃ v H', Inv X pins σ H' { s with heap := h', toks := k } ∧ RelV v (.str d.shown t) ∧ Q v H' :=
    fun h' t k hk => ⟨.str d.shown, H, I.kept hk, ⟨t, rfl⟩, q⟩
  cases dp with
  | int i =>
    obtain ⟨t, rfl⟩ := ru
    exact PySem.P.repr_of_int (of_decide_eq_true f1) (fin s.heap _ _ fun _ _ e => e)
  | str x =>
    obtain ⟨t, rfl⟩ := ru
    exact PySem.P.repr_of_str (fin s.heap _ _ fun _ _ e => e) sl
  | bl b =>
    cases ru
    exact PySem.P.repr_of_bool (fin s.heap _ _ fun _ _ e => e)
  | non =>
    cases ru
    exact PySem.P.repr_of_none (fin s.heap _ _ fun _ _ e => e)
  | lst a b =>
    cases ru
    exact repr_of_reads' rd f1 (PyData.noDict_hsm f2) hg (by omega) (fun _ _ e => e) (fun h' u tk hk => fin h' u tk hk) sl
  | tup a b =>
    cases ru
    exact repr_of_reads' rd f1 (PyData.noDict_hsm f2) hg (by omega) (fun _ _ e => e) (fun h' u tk hk => fin h' u tk hk) sl
end
end Lb


set_option Elab.async false
set_option linter.all false
set_option maxRecDepth 100000
set_option maxHeartbeats 4000000
namespace K82
open PySem PySem.Spec PyProof.Rows L2 Lb
abbrev sSpoilt : Stmt := top 35
def odd1 : List D := [.non, .bl true, .bl false, .int 0, .int (-1), .int 1, .int 7, .int 21, .int 60, .int 201, .int (10 ^ 29), .str "", .str "a", .str "list", .str "broken", .str "count", .str "row", .str "turn"]
def odd2 : List D := [.str "sieve", .str "cut", .str "left", .str "chain", .str "beside", .str "ahead", .str "windows", .str "marks", .str "spare", .str "wanted", .str "add", .str "A"]
def odd3 : List D := [.str "below", .str "a b", .str "abcdefghi", .tup [], .emp, .tup [.str "one"], .tup [.str "list", .tup [.int 1]], .tup [.str "row", .int 0], .tup [.tup [.str "add", .int 1]]]
def odd4 : List D := [.tup [.str "chain", .tup []], .str "a1"]
def oddD : List D := ((odd1 ++ odd2) ++ odd3) ++ odd4
def w1 : List V := [.non, .bl true, .bl false, .int 0, .int (-1), .int 1, .int 7, .int 21, .int 60, .int 201, .int (10 ^ 29), .str "", .str "a", .str "list", .str "broken", .str "count", .str "row", .str "turn"]
def w2 : List V := [.str "sieve", .str "cut", .str "left", .str "chain", .str "beside", .str "ahead", .str "windows", .str "marks", .str "spare", .str "wanted", .str "add", .str "A"]
def w3 (t0 l0 t1 t3 t4 t6 : Addr) : List V := [.str "below", .str "a b", .str "abcdefghi", .ref t0, .ref l0, .ref t1, .ref t3, .ref t4, .ref t6]
def w4 (t8 : Addr) : List V := [.ref t8, .str "a1"]
mutual
/-- no tuple in it is wide -/
def D.Slim : D → Prop
  | .tup ds => ds.length ≤ 10 ∧ SlimL ds
  | _ => True
def SlimL : List D → Prop
  | [] => True
  | d :: ds => D.Slim d ∧ SlimL ds
end
mutual
theorem D.Slim.thin : ∀ (d : D), K82.D.Slim d → K82.D.Thin d
  | .non, _ => by simp only [D.Thin]
  | .bl b, _ => by simp only [D.Thin]
  | .int b, _ => by simp only [D.Thin]
  | .str b, _ => by simp only [D.Thin]
  | .emp, _ => by simp only [D.Thin]
  | .tup ds, h => by
    simp only [D.Slim] at h
    simp only [D.Thin]
    exact ⟨by omega, SlimL.thin ds h.2⟩
theorem SlimL.thin : ∀ (ds : List D), SlimL ds → ThinL ds
  | [], _ => by simp only [ThinL]
  | d :: ds, h => by
    simp only [SlimL] at h
    simp only [ThinL]
    exact ⟨D.Slim.thin d h.1, SlimL.thin ds h.2⟩
end
theorem SlimL.at_ : ∀ {ds : List D} {i : Nat} {d : D}, SlimL ds → ds[i]? = some d → K82.D.Slim d
  | [], i, d, _, e => by simp at e
  | c :: ds, 0, d, h, e => by
    simp only [SlimL] at h
    simp at e
    rw [← e]
    exact h.1
  | c :: ds, i + 1, d, h, e => by
    simp only [SlimL] at h
    exact SlimL.at_ h.2 (by simpa using e)
theorem ThinL.app : ∀ {ds es : List D}, ThinL ds → ThinL es → ThinL (ds ++ es)
  | [], es, _, b => b
  | d :: ds, es, a, b => by
    simp only [ThinL, List.cons_append] at a ⊢
    exact ⟨a.1, ThinL.app a.2 b⟩
theorem ThinL.take : ∀ {ds : List D} (k : Nat), ThinL ds → ThinL (ds.take k)
  | ds, 0, _ => by simp only [List.take_zero, ThinL]
  | [], k + 1, _ => by simp only [List.take_nil, ThinL]
  | d :: ds, k + 1, h => by
    simp only [ThinL] at h
    simp only [List.take_succ_cons, ThinL]
    exact ⟨h.1, ThinL.take k h.2⟩
theorem ThinL.drop : ∀ {ds : List D} (k : Nat), ThinL ds → ThinL (ds.drop k)
  | ds, 0, h => h
  | [], k + 1, h => h
  | d :: ds, k + 1, h => by
    simp only [ThinL] at h
    exact ThinL.drop k h.2
def LayL (ds : List D) : Prop := PyData.canLayAll0 (pyL ds) = true
theorem LayL.app : ∀ {ds es : List D}, LayL ds → LayL es → LayL (ds ++ es)
  | [], es, _, b => b
  | d :: ds, es, a, b => by
    simp only [LayL, pyL, PyData.canLayAll0, List.cons_append, Bool.and_eq_true] at a ⊢
    exact ⟨a.1, LayL.app a.2 b⟩
theorem LayL.take : ∀ {ds : List D} (k : Nat), LayL ds → LayL (ds.take k)
  | ds, 0, _ => by simp only [List.take_zero, LayL, pyL, PyData.canLayAll0]
  | [], k + 1, _ => by simp only [List.take_nil, LayL, pyL, PyData.canLayAll0]
  | d :: ds, k + 1, h => by
    simp only [LayL, pyL, PyData.canLayAll0, Bool.and_eq_true] at h
    simp only [List.take_succ_cons, LayL, pyL, PyData.canLayAll0, Bool.and_eq_true]
    exact ⟨h.1, LayL.take k h.2⟩
theorem LayL.drop : ∀ {ds : List D} (k : Nat), LayL ds → LayL (ds.drop k)
  | ds, 0, h => h
  | [], k + 1, h => h
  | d :: ds, k + 1, h => by
    simp only [LayL, pyL, PyData.canLayAll0, Bool.and_eq_true] at h
    exact LayL.drop k h.2
theorem sizeL_cut (ds : List D) (k : Nat) : sizeL (ds.take k) + sizeL (ds.drop k) = sizeL ds := by
  rw [← sizeL_app, List.take_append_drop]
theorem sizeL_at : ∀ {ds : List D} {j : Nat} {d : D}, ds[j]? = some d → sizeL (ds.take j) + (D.size d + sizeL (ds.drop (j + 1))) = sizeL ds
  | [], j, d, e => by simp at e
  | c :: ds, 0, d, e => by
    simp at e
    subst e
    simp [sizeL]
  | c :: ds, j + 1, d, e => by
    have := sizeL_at (ds := ds) (j := j) (by simpa using e)
    simp only [List.take_succ_cons, List.drop_succ_cons, sizeL]
    omega
theorem sizeL_drop1 (ds : List D) (k : Nat) : sizeL (ds.drop (k + 1)) ≤ sizeL (ds.drop k) := by
  have e : ds.drop (k + 1) = (ds.drop k).drop 1 := by rw [List.drop_drop]
  rw [e]
  cases ds.drop k with
  | nil => simp [sizeL]
  | cons d r =>
    simp only [List.drop_succ_cons, List.drop_zero, sizeL]
    omega
theorem odd_ok {od : D} (h : od ∈ oddD) : D.size od ≤ 10 ∧ Good od ∧ od.Deep 2 ∧ od.Mild := by
  have all : ∀ o ∈ oddD, D.size o ≤ 10 ∧ (o.py.canLay0 = true ∧ K82.D.Thin o) ∧ o.Deep 2 ∧ o.Mild := by
    simp only [oddD, odd1, odd2, odd3, odd4, List.cons_append, List.nil_append, List.forall_mem_cons, List.forall_mem_nil, D.size, sizeL, D.py, pyL, PyData.canLay0, PyData.canLayAll0, D.Thin, ThinL, Lb.D.Deep, DeepL, Lb.D.Mild, MildL, and_true, true_and, List.length_cons, List.length_nil]
    repeat' refine And.intro ?_ ?_
    all_goals first | decide +kernel | (intro x hx; cases hx)
  exact all od h
def spSpoilt (n : Nat) : Sp := fun vs H Q _ => ∃ (p : Addr) (v : V) (d : D), vs = [.ref p, v] ∧ Pot H p ∧ Rep H v d ∧ d.Deep n ∧ d.py.canLay0 = true ∧ K82.D.Slim d ∧ D.Mild d ∧ ∀ u H' d', Pot H' p → But p p H H' → Rep H' u d' → d'.Deep (n + 3) → D.size d' ≤ D.size d + 10 → Good d' → D.Mild d' → Q u H'
section
variable {P : Program} {w : World} {K : PySem.W.Frag} {mg : Str → Option Value} {base : Heap}
abbrev nSpoilt : List Str := ["_law_pot_here", "_law_thing", "_law_odd", "_law_other", "_law_way", "_law_at"]
theorem scSpoilt : FnScope nSpoilt ["_law_pot_here", "_law_thing"] (defScope sSpoilt) := ⟨rfl, rfl, rfl, by decide +kernel, rfl, by decide +kernel, by decide +kernel⟩
theorem ok_spoilt {f : Addr} {fd : FuncData} (F : Fun K "_law_spoilt" "_law_spoilt" sSpoilt f fd) (B : Blt mg) (n : Nat)
    (D : GD P w K mg base CX0 "_law_digit" ["_law_pot_here", "_law_many"] 1 spDigit)
    (DS : GD P w K mg base CX0 "_law_spoilt" ["_law_pot_here", "_law_thing"] (1 + n) (lessSp spSpoilt n)) : FnOk P w K mg base CX0 (2 + n) f fd ["_law_pot_here", "_law_thing"] (spSpoilt n) := by
  have e5 : 2 + n = (1 + n) + 1 := by omega
  rw [e5]
  refine F.ok scSpoilt (fun vs H Q E h => ?_) (fun cdv A outer s H vs Q E hr h => ?_)
  · obtain ⟨p, v, d, rfl, _⟩ := h
    rfl
  · obtain ⟨p, v, d, rfl, hp, rp, dp, lay, th, mild, fin⟩ := h
    have hr1 := hr.mono (show 1 ≤ 1 + n by omega)
    refine ⟨_, pss_cons (ps_set (i := 2) scSpoilt.nd rfl (.inl rfl) (pe_lst (pa_cons pe_non (pa_cons pe_bl (pa_cons pe_bl (pa_cons pe_int (pa_cons (pe_un un_neg pe_int) (pa_cons pe_int (pa_cons pe_int (pa_cons pe_int (pa_cons pe_int (pa_cons pe_int (pa_cons (pe_op op_pow pe_int pe_int) (pa_cons pe_str (pa_cons pe_str (pa_cons pe_str (pa_cons pe_str (pa_cons pe_str (pa_cons pe_str (pa_cons pe_str pa_nil))))))))))))))))))))
      (pss_cons (ps_set (i := 2) scSpoilt.nd rfl (.inl rfl) (pe_op op_cat (pv 2) (pe_lst (pa_cons pe_str (pa_cons pe_str (pa_cons pe_str (pa_cons pe_str (pa_cons pe_str (pa_cons pe_str (pa_cons pe_str (pa_cons pe_str (pa_cons pe_str (pa_cons pe_str (pa_cons pe_str (pa_cons pe_str pa_nil)))))))))))))))
      (pss_cons (ps_set (i := 2) scSpoilt.nd rfl (.inl rfl) (pe_op op_cat (pv 2) (pe_lst (pa_cons pe_str (pa_cons pe_str (pa_cons pe_str (pa_cons (pe_tup pa_nil) (pa_cons (pe_lst pa_nil) (pa_cons (pe_tup (pa_cons pe_str pa_nil)) (pa_cons (pe_tup (pa_cons pe_str (pa_cons (pe_tup (pa_cons pe_int pa_nil)) pa_nil))) (pa_cons (pe_tup (pa_cons pe_str (pa_cons pe_int pa_nil))) (pa_cons (pe_tup (pa_cons (pe_tup (pa_cons pe_str (pa_cons pe_int pa_nil))) pa_nil)) pa_nil))))))))))))
      (pss_cons (ps_set (i := 2) scSpoilt.nd rfl (.inl rfl) (pe_op op_cat (pv 2) (pe_lst (pa_cons (pe_tup (pa_cons pe_str (pa_cons (pe_tup pa_nil) pa_nil))) (pa_cons pe_str pa_nil)))))
      (pss_cons (ps_set (i := 3) scSpoilt.nd rfl (.inl rfl) (pe_ix ix_list (pv 2) (pe_gd D hr1 rfl pass0 (pa_cons (pv 0) (pa_cons (pe_callB call_len_seq (by rfl) B.len boot_len (pa_cons (pv 2) pa_nil)) pa_nil))) (fun _ _ => rfl)))
      (pss_cons (ps_set (i := 4) scSpoilt.nd rfl (.inl rfl) (pe_gd D hr1 rfl pass0 (pa_cons (pv 0) (pa_cons pe_int pa_nil))))
      (pss_cons (ps_if (PW.pt (pw_or (pt_not (pt_val (pe_callB call_isi (by rfl) B.isinstance boot_isinstance (pa_cons (pv 1) (pa_cons (pe_bltn (v := .ty "tuple") (by rfl) B.tuple boot_tuple rfl) pa_nil)))))
          (pw_or1 (PW.pt (pw_and (pt_cmpR op_eq (pv 4) pe_int (nomark _)) (pw_and1 (pt_cmpR op_eq (pe_gd D hr1 rfl pass0 (pa_cons (pv 0) (pa_cons pe_int pa_nil))) pe_int (nomark _))))))))
          (pss_one (ps_ret (pv 3))) pss_nil)
      (pss_cons (ps_set (i := 5) scSpoilt.nd rfl (.inl rfl) (pe_gd D hr1 rfl pass0 (pa_cons (pv 0) (pa_cons (pe_op op_add (pe_callB call_len_seq (by rfl) B.len boot_len (pa_cons (pv 1) pa_nil)) pe_int) pa_nil))))
      (pss_cons (ps_if (PW.pt (pw_and (pt_cmpR op_eq (pv 4) pe_int (nomark _)) (pw_and1 (pt_cmpR op_lt (pv 5) (pe_callB call_len_seq (by rfl) B.len boot_len (pa_cons (pv 1) pa_nil)) (nomark _)))))
          (pss_one (ps_ret (pe_op op_catA (pe_slice sl_tupA (pv 1) po_none (po_some (pv 5))) (pe_slice sl_tupA (pv 1) (po_some (pe_op op_add (pv 5) pe_int)) po_none)))) pss_nil)
      (pss_cons (ps_if (PW.pt (pw_or (pt_cmpR op_eq (pv 4) pe_int (nomark _)) (pw_or1 (pt_cmpR op_eq (pv 5) (pe_callB call_len_seq (by rfl) B.len boot_len (pa_cons (pv 1) pa_nil)) (nomark _)))))
          (pss_one (ps_ret (pe_op op_catA (pe_op op_catA (pe_slice sl_tupA (pv 1) po_none (po_some (pv 5))) (pe_tup (pa_cons (pv 3) pa_nil))) (pe_slice sl_tupA (pv 1) (po_some (pv 5)) po_none)))) pss_nil)
      (pss_one (ps_ret (pe_op op_catA (pe_op op_catA (pe_slice sl_tupA (pv 1) po_none (po_some (pv 5))) (pe_tup (pa_cons (pe_gd DS hr rfl pass0 (pa_cons (pv 0) (pa_cons (pe_ix ix_tup (pv 1) (pv 5) (fun _ _ => rfl)) pa_nil))) pa_nil))) (pe_slice sl_tupA (pv 1) (po_some (pe_op op_add (pv 5) pe_int)) po_none))))))))))))), ?_⟩
    refine ⟨_, rfl, _, _, rfl, rfl, ⟨by decide, by decide, by decide⟩, (by show 18 ≤ sizeLine; decide), fun q1 m1 => ?_⟩
    refine ⟨_, rfl, (by show 12 ≤ sizeLine; decide), fun q2 m2 => ⟨q1, q2, w1, w2, rfl, rfl, Same.new m2 _ _ upd_same, upd_same, (by show 18 + 12 ≤ sizeLine; decide), fun q3 m3 => ?_⟩⟩
    have s3 := ((Same.new (o := .lst w1) m1).trans (Same.new (o := .lst w2) m2)).trans (Same.new (o := .lst (w1 ++ w2)) m3)
    have h3 : upd (upd (upd H q1 (.lst w1)) q2 (.lst w2)) q3 (.lst (w1 ++ w2)) q3 = some (.lst (w1 ++ w2)) := upd_same
    show gName _ _ _ (upd (upd (upd H q1 (.lst w1)) q2 (.lst w2)) q3 (.lst (w1 ++ w2))) _
    generalize upd (upd (upd H q1 (.lst w1)) q2 (.lst w2)) q3 (.lst (w1 ++ w2)) = G3 at s3 h3 ⊢
    refine ⟨_, rfl, (by show 0 ≤ sizeLine; decide), fun t0 n0 => ⟨(by show 0 ≤ sizeLine; decide), fun l0 k0 => ⟨(by show 1 ≤ sizeLine; decide), fun t1 n1 => ⟨(by show 1 ≤ sizeLine; decide), fun t2 n2 => ⟨(by show 2 ≤ sizeLine; decide), fun t3 n3 => ⟨(by show 2 ≤ sizeLine; decide), fun t4 n4 => ⟨(by show 2 ≤ sizeLine; decide), fun t5 n5 => ⟨(by show 1 ≤ sizeLine; decide), fun t6 n6 => ⟨(by show 9 ≤ sizeLine; decide), fun q4 m4 => ?_⟩⟩⟩⟩⟩⟩⟩⟩⟩
    have a0 := Same.new (o := .tup []) n0
    have a1 := Same.new (o := .lst []) k0
    have a2 := Same.new (o := .tup [.str "one"]) n1
    have a3 := Same.new (o := .tup [.int 1]) n2
    have a4 := Same.new (o := .tup [.str "list", .ref t2]) n3
    have a5 := Same.new (o := .tup [.str "row", .int 0]) n4
    have a6 := Same.new (o := .tup [.str "add", .int 1]) n5
    have a7 := Same.new (o := .tup [.ref t5]) n6
    have sA := ((((((a0.trans a1).trans a2).trans a3).trans a4).trans a5).trans a6).trans a7
    have r0 := (((((((a1.trans a2).trans a3).trans a4).trans a5).trans a6).trans a7) _ _ (upd_same (H := G3) (a := t0) (o := .tup [])))
    have r1 := ((((((a2.trans a3).trans a4).trans a5).trans a6).trans a7) _ _ (upd_same (a := l0) (o := .lst [])))
    have r2 := (((((a3.trans a4).trans a5).trans a6).trans a7) _ _ (upd_same (a := t1) (o := .tup [.str "one"])))
    have r3 := ((((a4.trans a5).trans a6).trans a7) _ _ (upd_same (a := t2) (o := .tup [.int 1])))
    have r4 := (((a5.trans a6).trans a7) _ _ (upd_same (a := t3) (o := .tup [.str "list", .ref t2])))
    have r5 := ((a6.trans a7) _ _ (upd_same (a := t4) (o := .tup [.str "row", .int 0])))
    have r6 := (a7 _ _ (upd_same (a := t5) (o := .tup [.str "add", .int 1])))
    have r7 := upd_same (H := upd (upd (upd (upd (upd (upd (upd G3 t0 (.tup [])) l0 (.lst [])) t1 (.tup [.str "one"])) t2 (.tup [.int 1])) t3 (.tup [.str "list", .ref t2])) t4 (.tup [.str "row", .int 0])) t5 (.tup [.str "add", .int 1])) (a := t6) (o := .tup [.ref t5])
    generalize upd (upd (upd (upd (upd (upd (upd (upd G3 t0 (.tup [])) l0 (.lst [])) t1 (.tup [.str "one"])) t2 (.tup [.int 1])) t3 (.tup [.str "list", .ref t2])) t4 (.tup [.str "row", .int 0])) t5 (.tup [.str "add", .int 1])) t6 (.tup [.ref t5]) = G4 at sA r0 r1 r2 r3 r4 r5 r6 r7 m4 ⊢
    clear a0 a1 a2 a3 a4 a5 a6 a7
    have ro3 : RepL G4 (w3 t0 l0 t1 t3 t4 t6) odd3 := by
      have e1 : Rep G4 (.ref l0) .emp := by
        simp only [Rep]
        exact ⟨l0, rfl, r1⟩
      exact .cons Rep.strI (.cons Rep.strI (.cons Rep.strI (.cons (Rep.tupI r0 .nil) (.cons e1 (.cons (Rep.tupI r2 (.one Rep.strI)) (.cons (Rep.tupI r4 (.two Rep.strI (Rep.tupI r3 (.one Rep.intI)))) (.cons (Rep.tupI r5 (.two Rep.strI Rep.intI)) (.one (Rep.tupI r7 (.one (Rep.tupI r6 (.two Rep.strI Rep.intI))))))))))))
    have s5 := Same.new (o := .lst (w3 t0 l0 t1 t3 t4 t6)) m4
    have h5 := s5 _ _ (sA _ _ h3)
    refine ⟨q3, q4, w1 ++ w2, w3 t0 l0 t1 t3 t4 t6, rfl, rfl, h5, upd_same, (by show 30 + 9 ≤ sizeLine; decide), fun q5 m5 => ?_⟩
    have s6 := s5.trans (Same.new (o := .lst ((w1 ++ w2) ++ w3 t0 l0 t1 t3 t4 t6)) m5)
    have h6 := upd_same (H := upd G4 q4 (.lst (w3 t0 l0 t1 t3 t4 t6))) (a := q5) (o := .lst ((w1 ++ w2) ++ w3 t0 l0 t1 t3 t4 t6))
    show gName _ _ _ (upd (upd G4 q4 (.lst (w3 t0 l0 t1 t3 t4 t6))) q5 (.lst ((w1 ++ w2) ++ w3 t0 l0 t1 t3 t4 t6))) _
    generalize upd (upd G4 q4 (.lst (w3 t0 l0 t1 t3 t4 t6))) q5 (.lst ((w1 ++ w2) ++ w3 t0 l0 t1 t3 t4 t6)) = G5 at s6 h6 ⊢
    refine ⟨_, rfl, (by show 0 ≤ sizeLine; decide), fun t7 n7 => ⟨(by show 2 ≤ sizeLine; decide), fun t8 n8 => ⟨(by show 2 ≤ sizeLine; decide), fun q6 m6 => ?_⟩⟩⟩
    have b0 := Same.new (o := .tup []) n7
    have b1 := Same.new (o := .tup [.str "chain", .ref t7]) n8
    have b2 := Same.new (o := .lst [.ref t8, .str "a1"]) m6
    have sB := (b0.trans b1).trans b2
    have e7 := (b1.trans b2) _ _ (upd_same (H := G5) (a := t7) (o := .tup []))
    have e8 := b2 _ _ (upd_same (H := upd G5 t7 (.tup [])) (a := t8) (o := .tup [.str "chain", .ref t7]))
    have hq6 := upd_same (H := upd (upd G5 t7 (.tup [])) t8 (.tup [.str "chain", .ref t7])) (a := q6) (o := .lst [.ref t8, .str "a1"])
    have h7 := sB _ _ h6
    clear b0 b1 b2
    generalize upd (upd (upd G5 t7 (.tup [])) t8 (.tup [.str "chain", .ref t7])) q6 (.lst [.ref t8, .str "a1"]) = G6 at sB e7 e8 hq6 h7 ⊢
    have ro4 : RepL G6 (w4 t8) odd4 := .two (Rep.tupI e8 (.two Rep.strI (Rep.tupI e7 .nil))) Rep.strI
    refine ⟨q5, q6, (w1 ++ w2) ++ w3 t0 l0 t1 t3 t4 t6, w4 t8, rfl, rfl, h7, hq6, (by show 39 + 2 ≤ sizeLine; decide), fun q nq => ?_⟩
    have r1 : ∀ G, RepL G w1 odd1 := fun G => .cons Rep.nonI (.cons Rep.blI (.cons Rep.blI (.cons Rep.intI (.cons Rep.intI (.cons Rep.intI (.cons Rep.intI (.cons Rep.intI (.cons Rep.intI (.cons Rep.intI (.cons Rep.intI (.cons Rep.strI (.cons Rep.strI (.cons Rep.strI (.cons Rep.strI (.cons Rep.strI (.cons Rep.strI (.one Rep.strI)))))))))))))))))
    have r2 : ∀ G, RepL G w2 odd2 := fun G => .cons Rep.strI (.cons Rep.strI (.cons Rep.strI (.cons Rep.strI (.cons Rep.strI (.cons Rep.strI (.cons Rep.strI (.cons Rep.strI (.cons Rep.strI (.cons Rep.strI (.cons Rep.strI (.one Rep.strI)))))))))))
    have ro : RepL G6 (((w1 ++ w2) ++ w3 t0 l0 t1 t3 t4 t6) ++ w4 t8) oddD := RepL.app ro4 (RepL.app (RepL.keepSame (s6.trans sB) ro3) (RepL.app (r2 _) (r1 _)))
    have sm : Same H G6 := (((s3.trans sA).trans s6).trans sB)
    generalize hW : ((w1 ++ w2) ++ w3 t0 l0 t1 t3 t4 t6) ++ w4 t8 = oddW at ro ⊢
    have lW : oddW.length = 41 := by
      rw [ro.length]
      rfl
    clear hW ro3 ro4 sB s6 sA s3 s5 h3 h5 h6 h7 e7 e8 hq6 r0 r3 r4 r5 r6 r7
    have sq := sm.trans (Same.new (o := .lst oddW) nq)
    have npq : q ≠ p := fun e => by
      obtain ⟨x, y, h, _⟩ := Pot.same sm hp
      rw [e, h] at nq
      cases nq
    refine ⟨_, rfl, _, rfl, _, rfl, q, oddW, rfl, .inl (SqL.of upd_same), p, 41, by rw [lW]; rfl, Pot.same sq hp, by decide, by decide, fun k H1 k0 k1 p1 b1 => ?_⟩
    have hq1 : H1 q = some (.lst oddW) := b1 _ _ upd_same npq npq
    have kp1 : Keeps (upd G6 q (.lst oddW)) H1 := Pot.keeps (Pot.same sq hp) b1
    have ro1 : RepL H1 oddW oddD := (ro.keepSame (Same.new nq)).keep' kp1
    have B1 : But p p H H1 := (But.of sq).trans b1
    have rp1 : Rep H1 v d := (rp.same sq).keep' kp1
    clear kp1 ro b1 sq sm
    have kl : k.toNat < 41 := by omega
    obtain ⟨od, hod⟩ : ∃ od, oddD[k.toNat]? = some od := ⟨oddD[k.toNat]'kl, List.getElem?_eq_getElem kl⟩
    obtain ⟨vo, hvo, rvo⟩ := ro1.at_ hod
    obtain ⟨osz, og, odeep, om⟩ := odd_ok (List.mem_of_getElem? hod)
    refine ⟨q, oddW, k, vo, rfl, rfl, SqL.of hq1, at_of (j := k.toNat) (by omega) hvo, ?_⟩
    refine ⟨_, rfl, p, 6, rfl, p1, by decide, by decide, fun wy H2 w0 w1 p2 b2 => ?_⟩
    have kp2 := Pot.keeps p1 b2
    have B2 := B1.trans b2
    have rp2 := rp1.keep' kp2
    have rvo2 := rvo.keep' kp2
    refine ⟨_, rfl, v, .ty "tuple", _, _, _, rfl, .ty _, rp2.ty, kit_ty (kit_tuple _), _, rfl, ?_⟩
    cases ht : d.isTup with
    | false => exact iteT ⟨_, rfl, fin vo H2 od p2 B2 rvo2 (odeep.le (by omega)) (by omega) og om⟩
    | true =>
      refine iteF ?_
      obtain ⟨ds, rfl⟩ : ∃ ds, d = .tup ds := by
        cases d <;> first | exact ⟨_, rfl⟩ | cases ht
      refine (fun (key : ∀ (G : Hp), Pot G p → But p p H G → Rep G v (.tup ds) → Rep G vo od → (?X : Hp → Prop) G) => ?main) ?k
      case main =>
        refine ⟨_, rfl, rfl, _, rfl, ite2 (fun h3 => ?_) (fun h3 => ?_)⟩
        · refine ⟨_, rfl, p, 3, rfl, p2, by decide, by decide, fun x H3 x0 x1 p3 b3 => ⟨rfl, _, rfl, ?_⟩⟩
          refine ite2 (fun h4 => ?_) (fun h4 => ?_)
          · have kp3 := Pot.keeps p2 b3
            exact ⟨_, rfl, fin vo H3 od p3 (B2.trans b3) (rvo2.keep' kp3) (odeep.le (by omega)) (by omega) og om⟩
          · have kp3 := Pot.keeps p2 b3
            exact key H3 p3 (B2.trans b3) (rp2.keep' kp3) (rvo2.keep' kp3)
        · exact key H2 p2 B2 rp2 rvo2
      case k =>
        intro G pG BG rG roG
        obtain ⟨a, us, rfl, hA, rl⟩ := rG.tupE
        have lus := rl.length
        simp only [K82.D.Slim] at th
        simp only [Lb.D.py, PyData.canLay0] at lay
        simp only [Lb.D.Mild] at mild
        refine ⟨_, rfl, _, rfl, a, us, rfl, .inr (SqT.of hA), _, _, rfl, rfl, p, _, rfl, pG, (by omega), (by have := th.1; omega), fun at_ G2 a0 a1 p2 b2 => ?_⟩
        have kp := Pot.keeps pG b2
        have B3 := BG.trans b2
        have rT := rG.keep' kp
        have rO := roG.keep' kp
        have hA := kp.1 _ _ hA
        obtain ⟨j, rfl⟩ : ∃ j : Nat, at_ = j := ⟨at_.toNat, by omega⟩
        have jl : j ≤ ds.length := by
          have : (j : Int) < (us.length : Int) + 1 := a1
          omega
        clear rG roG kp BG pG rl b2 rp2 rvo2 rp1 rvo ro1 rp hp kp2
        have t20 := th.1
        have tl := SlimL.thin ds th.2
        -- what is told, by its parts
        have told : ∀ (u : V) (H' : Hp) (es : List Lb.D), Same G2 H' → Rep H' u (.tup es) → (∀ m, n = m + 1 → DeepL (m + 3) es) → sizeL es ≤ sizeL ds + 10 → (es.length ≤ 20 ∧ ThinL es) → LayL es → MildL es → Q u H' := by
          intro u H' es sH rU de sz tn ly ml
          obtain ⟨x, y, e, h0⟩ := p2
          refine fin u H' (.tup es) ⟨x, y, sH _ _ e, h0⟩ (B3.trans (But.of sH)) rU ?_ (by simp only [Lb.D.size]; omega) ⟨by simp only [Lb.D.py, PyData.canLay0]; exact ly, by simp only [K82.D.Thin]; exact tn⟩ (by simp only [Lb.D.Mild]; exact ml)
          cases n with
          | zero => simp only [Lb.D.Deep] at dp
          | succ m =>
            simp only [Lb.D.Deep]
            exact de m rfl
        have dd : ∀ m, n = m + 1 → DeepL (m + 3) ds := by
          intro m e
          subst e
          simp only [Lb.D.Deep] at dp
          exact dp.le (by omega)
        refine (fun (key2 : (?Y : Prop)) => ?main2) ?k2
        case main2 =>
          refine ⟨_, rfl, rfl, _, rfl, ite2 (fun h5 => ?_) (fun h5 => ?_)⟩
          rotate_left
          · refine iteF ?_
            exact key2
          refine ⟨_, rfl, _, rfl, a, us, rfl, .inr (SqT.of hA), _, _, rfl, rfl, _, rfl, ite2 (fun h6 => ?_) (fun h6 => ?_)⟩
          rotate_left
          · exact key2
          refine ⟨_, rfl, _, rfl, _, rfl, ?_⟩
          have h6 : (j : Int) < us.length := of_decide_eq_true h6
          refine sl_take (K := K) (k := j) rT jl fun t3 G3 s3 r3 => ?_
          have e1 : (j : Int) + 1 = ((j + 1 : Nat) : Int) := by omega
          refine ⟨_, rfl, _, rfl, _, _, rfl, rfl, ((j + 1 : Nat) : Int), congrArg V.int e1, ?_⟩
          unfold tNoPart
          refine sl_drop (K := K) (k := j + 1) (rT.same s3) (by omega) fun t4 G4 s4 r4 => ?_
          refine cat_rep (K := K) (r3.same s4) r4 (by rw [List.length_take, List.length_drop]; omega) fun t5 G5 s5 r5 => ?_
          exact told _ _ _ ((s3.trans s4).trans s5) r5 (fun m e => DeepL.app (DeepL.take _ (dd m e)) (DeepL.drop _ (dd m e))) (by rw [sizeL_app]; have := sizeL_cut ds j; have := sizeL_drop1 ds j; omega) ⟨by simp only [List.length_append, List.length_take, List.length_drop, List.length_cons, List.length_nil]; omega, ThinL.app (ThinL.take _ tl) (ThinL.drop _ tl)⟩ (LayL.app (LayL.take _ lay) (LayL.drop _ lay)) (MildL.app (MildL.take _ mild) (MildL.drop _ mild))
        case k2 =>
          refine (fun (key3 : (?Z : Prop)) => ?main3) ?k3
          case main3 =>
            refine ⟨_, rfl, rfl, _, rfl, ite2 (fun h5 => ?_) (fun h5 => ?_)⟩
            · exact key3
            · refine ⟨_, rfl, _, rfl, a, us, rfl, .inr (SqT.of hA), rfl, _, rfl, ite2 (fun h6 => ?_) (fun h6 => ?_)⟩
              · exact key3
              · have h6 : ¬ (j : Int) = us.length := fun q => h6 (by rw [q]; exact decide_eq_true rfl)
                have jl2 : j < ds.length := by omega
                have e1 : (j : Int) + 1 = ((j + 1 : Nat) : Int) := by omega
                refine ⟨_, rfl, _, rfl, _, rfl, ?_⟩
                refine sl_take (K := K) (k := j) rT jl fun t3 G3 s3 r3 => ?_
                obtain ⟨y, hy⟩ : ∃ y, us[j]? = some y := ⟨us[j]'(by omega), List.getElem?_eq_getElem (by omega)⟩
                obtain ⟨yd, hyd⟩ : ∃ y, ds[j]? = some y := ⟨ds[j]'(by omega), List.getElem?_eq_getElem (by omega)⟩
                obtain ⟨a', us', ea, hA', rl'⟩ := rT.tupE
                cases ea
                rw [hA] at hA'
                cases hA'
                obtain ⟨y', hy', ry⟩ := rl'.at_ hyd
                rw [hy] at hy'
                cases hy'
                cases n with
                | zero => simp only [Lb.D.Deep] at dp
                | succ m =>
                  have yt : K82.D.Slim yd := SlimL.at_ th.2 hyd
                  have yp : yd.Deep m := by
                    simp only [Lb.D.Deep] at dp
                    exact dp.at_ hyd
                  have p3 : Pot G3 p := Pot.same s3 p2
                  refine ⟨_, rfl, _, rfl, _, rfl, a, us, j, y, rfl, rfl, SqT.of (s3 _ _ hA), at_of (j := j) (by omega) hy, p, y, yd, rfl, p3, ry.same s3, yp, layL_at lay hyd, yt, MildL.at_ mild hyd, fun u G4 d' p4 b4 r4 d4 z4 g4 ml4 => ?_⟩
                  have k4 := Pot.keeps p3 b4
                  refine ⟨(by show 1 ≤ sizeLine; decide), fun t5 n5 => ?_⟩
                  have s5 := Same.new (o := .tup [u]) n5
                  refine cat_rep (K := K) ((r3.keep' k4).same s5) (Rep.new n5 (.one r4)) (by rw [List.length_take, List.length_cons, List.length_nil]; omega) fun t6 G6 s6 r6 => ?_
                  refine ⟨_, rfl, _, rfl, _, _, rfl, rfl, ((j + 1 : Nat) : Int), congrArg V.int e1, ?_⟩
                  have rT6 := (((rT.same s3).keep' k4).same s5).same s6
                  unfold tNoPart
                  refine sl_drop (K := K) (k := j + 1) rT6 (by omega) fun t7 G7 s7 r7 => ?_
                  refine cat_rep (K := K) (r6.same s7) r7 (by rw [List.length_append, List.length_take, List.length_drop, List.length_cons, List.length_nil]; omega) fun t8 G8 s8 r8 => ?_
                  have s58 := ((s5.trans s6).trans s7).trans s8
                  refine fin _ _ _ (Pot.same s58 p4) (((B3.trans (But.of s3)).trans b4).trans (But.of s58)) r8 ?_ (by simp only [Lb.D.size, sizeL_app, sizeL]; have := sizeL_at hyd; omega) ⟨by simp only [Lb.D.py, PyData.canLay0]; exact LayL.app (LayL.app (LayL.take _ lay) (by simp only [LayL, pyL, PyData.canLayAll0, Bool.and_true]; exact g4.1)) (LayL.drop _ lay), by simp only [K82.D.Thin]; exact ⟨by simp only [List.length_append, List.length_take, List.length_drop, List.length_cons, List.length_nil]; omega, ThinL.app (ThinL.app (ThinL.take _ tl) (by simp only [ThinL, and_true]; exact g4.2)) (ThinL.drop _ tl)⟩⟩ (by simp only [Lb.D.Mild]; exact MildL.app (MildL.app (MildL.take _ mild) (by simp only [MildL, and_true]; exact ml4)) (MildL.drop _ mild))
                  simp only [Lb.D.Deep]
                  exact DeepL.app (DeepL.app (DeepL.take _ (dd m rfl)) (by simp only [DeepL, and_true]; exact d4)) (DeepL.drop _ (dd m rfl))
          case k3 =>
            refine ⟨_, rfl, _, rfl, _, rfl, ?_⟩
            refine sl_take (K := K) (k := j) rT jl fun t3 G3 s3 r3 => ?_
            refine ⟨_, rfl, (by show 1 ≤ sizeLine; decide), fun t5 n5 => ?_⟩
            have s5 := Same.new (o := .tup [vo]) n5
            refine cat_rep (K := K) (r3.same s5) (Rep.new n5 (.one (rO.same s3))) (by rw [List.length_take, List.length_cons, List.length_nil]; omega) fun t6 G6 s6 r6 => ?_
            refine ⟨_, rfl, _, rfl, _, rfl, ?_⟩
            unfold tNoPart
            refine sl_drop (K := K) (k := j) (((rT.same s3).same s5).same s6) jl fun t7 G7 s7 r7 => ?_
            refine cat_rep (K := K) (r6.same s7) r7 (by rw [List.length_append, List.length_take, List.length_drop, List.length_cons, List.length_nil]; omega) fun t8 G8 s8 r8 => ?_
            refine told _ _ _ ((((s3.trans s5).trans s6).trans s7).trans s8) r8 (fun m e => ?_) (by simp only [sizeL_app, sizeL]; have := sizeL_cut ds j; omega) ⟨by simp only [List.length_append, List.length_take, List.length_drop, List.length_cons, List.length_nil]; omega, ThinL.app (ThinL.app (ThinL.take _ tl) (by simp only [ThinL, and_true]; exact og.2)) (ThinL.drop _ tl)⟩ (LayL.app (LayL.app (LayL.take _ lay) (by simp only [LayL, pyL, PyData.canLayAll0, Bool.and_true]; exact og.1)) (LayL.drop _ lay)) (MildL.app (MildL.app (MildL.take _ mild) (by simp only [MildL, and_true]; exact om)) (MildL.drop _ mild))
            exact DeepL.app (DeepL.app (DeepL.take _ (dd m e)) (by simp only [DeepL, and_true]; exact odeep.le (by omega))) (DeepL.drop _ (dd m e))
end
end K82


set_option Elab.async false
set_option linter.all false
set_option maxRecDepth 100000
set_option maxHeartbeats 4000000
/-! (x, ..) * 0 and (x, ..) * 1. -/
namespace Tr
open PySem PySem.Spec PyProof.Rows L2
theorem mul_one (l : Addr) (items : Array Value) (n : Nat) (dd : Option Addr) (sl : Array (Option Value)) (u : Tok) : Meets (Builtin.«tuple.__mul__» ⟨[.ref l, .int 1 u], []⟩) (fun _ R s => s.heap.get? l = some { cls := .type "tuple", dict := dd, data := .seq items n, slots := sl } ∧ R (.ok (.ret (.ref l))) s) :=
  .of_wp fun prog w A R s h => by
    obtain ⟨hp, g, d, tk, os⟩ := s
    obtain ⟨hl, h⟩ := h
    have f1 := AutoSeq1.idx_int
    have hT : (⟨hp, g, d, tk, os⟩ : Shared).TypeIs (.ref l) "tuple" := ⟨_, hl, rfl⟩
    wp_walk using wpAny_loadPart' hl
    exact ⟨_, rfl, h⟩
theorem mul_zero (l : Addr) (items : Array Value) (n : Nat) (dd : Option Addr) (sl : Array (Option Value)) (u : Tok) (ne : items.isEmpty = false) : Meets (Builtin.«tuple.__mul__» ⟨[.ref l, .int 0 u], []⟩) (fun _ R s => s.heap.get? l = some { cls := .type "tuple", dict := dd, data := .seq items n, slots := sl } ∧
      R (.ok (.ret (.ref s.heap.objs.size))) { s with heap := s.heap.push { cls := Value.type "tuple", data := Data.seq #[] } }) :=
  .of_wp fun prog w A R s h => by
    obtain ⟨hp, g, d, tk, os⟩ := s
    obtain ⟨hl, h⟩ := h
    have f1 := AutoSeq1.idx_int
    have hT : (⟨hp, g, d, tk, os⟩ : Shared).TypeIs (.ref l) "tuple" := ⟨_, hl, rfl⟩
    wp_walk using wpAny_loadPart' hl
    exact ⟨_, rfl, h⟩
def rRepA (K : PySem.W.Frag) : R2 := fun x y H Q => ∃ l k xs, x = .ref l ∧ y = .int k ∧ SqT K H l xs ∧ xs ≠ [] ∧ 0 ≤ k ∧ k ≤ 1000 ∧ xs.length ≤ 1000 ∧ (k = 1 → Q (.ref l) H) ∧ (k ≠ 1 → ∀ p, H p = none → Q (.ref p) (upd H p (.tup (List.replicate k.toNat xs).flatten)))
theorem op_repA {X : Cx} : OpR X (binaryOp .Mult) (rRepA X.K) := by
  intro pins s σ H x y v u Q I rx ry h
  obtain ⟨l, k, xs, rfl, rfl, hT, hne, h1, h2, hz, q1, q2⟩ := h
  by_cases hk : 2 ≤ k
  · exact op_repT pins s σ H _ _ v u Q I rx ry ⟨l, k, xs, rfl, rfl, hT, hne, hk, h2, hz, q2 (by omega)⟩
  cases rx
  obtain ⟨t, rfl⟩ := ry
  obtain ⟨its, r, ⟨⟨cls, dd, data, sl⟩, ho, hc, n, hd⟩, hs⟩ := I.tuple hT
  simp only at hc hd
  subst hc hd
  have hle : its.length = xs.length := r.length.symm
  have hi : its.toArray.isEmpty = false := by
    cases its with
    | nil => exact absurd (List.eq_nil_of_length_eq_zero hle.symm) hne
    | cons a b => rfl
  have road : ∀ (Q' : Value → Shared → Prop), wpAny (model X.prog X.w) X.A (call (.builtin "tuple.__mul__") [.ref l, .int k t]) Q' X.xe s → wpAny (model X.prog X.w) X.A (binaryOp .Mult (.ref l) (.int k t)) Q' X.xe s := fun Q' go =>
    wpAny_binaryOp_repeat_ref (T := "tuple") (U := "int") (by decide) ⟨_, ho, rfl⟩ (fun s' => typeIs_int s' k t) noFill_tuple_mul F.fills_int_mul F.slot_int_rmul repeat_tuple F.slot_int_index.lookup
      (call_meets F.slot_int_rmul (typeIs_int s k t) F.entry_int_rmul (F.args_int_rmul_2 _ _) (int_rmul_tuple k t l its.toArray n dd sl) ⟨ho, rfl, ⟨_, ho, rfl⟩, go⟩)
  by_cases hk1 : k = 1
  · subst hk1
    exact road _ (call_meets F.slot_tuple_mul ⟨_, ho, rfl⟩ F.entry_tuple_mul (F.args_tuple_mul_2 _ _) (mul_one l its.toArray n dd sl t) ⟨ho, ⟨.ref l, H, I, rfl, q1 rfl⟩⟩)
  · obtain rfl : k = 0 := by omega
    refine road _ (call_meets F.slot_tuple_mul ⟨_, ho, rfl⟩ F.entry_tuple_mul (F.args_tuple_mul_2 _ _) (mul_zero l its.toArray n dd sl t hi) ⟨ho, ?_⟩)
    refine ⟨.ref s.heap.objs.size, _, I.laid (t' := s.toks) (o := .tup []) (fun b ob q => Heap.get?_push_of_some _ q) (Nat.le_refl _) ?_, rfl, q2 hk1 _ (I.hok.fresh (Nat.le_refl _))⟩
    exact ⟨by show 0 ≤ sizeLine; decide, [], .nil, IsTup.new _ _⟩
end Tr


set_option Elab.async false
set_option linter.all false
set_option maxRecDepth 100000
set_option maxHeartbeats 4000000
namespace K82
open PySem PySem.Spec PyProof.Rows L2 Lb
abbrev sBorders : Stmt := top 37
/-- a small thing -/
def OkV (H : Hp) (v : V) : Prop := ∃ e : D, Rep H v e ∧ e.Deep 4 ∧ Good e ∧ e.Mild ∧ D.size e ≤ 1000
theorem OkV.same {H H' : Hp} {v : V} (s : Same H H') : OkV H v → OkV H' v
  | ⟨e, r, x⟩ => ⟨e, r.same s, x⟩
/-- a list of small things -/
def OkL (H : Hp) (l : Addr) (m : Nat) : Prop := ∃ us : List V, H l = some (.lst us) ∧ us.length ≤ m ∧ ∀ u ∈ us, OkV H u
theorem OkL.same {H H' : Hp} {l : Addr} {m : Nat} (s : Same H H') : OkL H l m → OkL H' l m
  | ⟨us, h, n, a⟩ => ⟨us, s _ _ h, n, fun u hu => (a u hu).same s⟩
def spBorders : Sp := fun vs H Q _ => ∃ (v : V) (d : D), vs = [v] ∧ Rep H v d ∧ d.Deep 2 ∧ Good d ∧ d.Mild ∧ D.size d ≤ 100 ∧ ∀ l H', Same H H' → OkL H' l 200 → Q (.ref l) H'
theorem tup_new {G : Hp} {t : Addr} {vs : List V} {ds : List D} (nt : G t = none) (r : RepL G vs ds) (dp : DeepL 3 ds) (lay : LayL ds) (th : ThinL ds) (ml : MildL ds) (n : ds.length ≤ 20) (sz : sizeL ds ≤ 999) : OkV (upd G t (.tup vs)) (.ref t) :=
  ⟨.tup ds, Rep.new nt r, by simp only [D.Deep]; exact dp, ⟨by simp only [D.py, PyData.canLay0]; exact lay, by simp only [D.Thin]; exact ⟨n, th⟩⟩, by simp only [D.Mild]; exact ml, by simp only [D.size]; omega⟩
theorem rep_many {H : Hp} {v : V} {d : D} (r : Rep H v d) : ∀ n : Nat, RepL H (List.replicate n [v]).flatten (List.replicate n d)
  | 0 => .nil
  | n + 1 => by
    rw [List.replicate_succ, List.replicate_succ, List.flatten_cons]
    exact .cons r (rep_many r n)
theorem rep_ok {K : PySem.W.Frag} {G : Hp} {ta : Addr} {m : Nat} {v : V} {d : D} {Q : VK} (h : G ta = some (.tup [v])) (r : Rep G v d) (hm : m ≤ 1000) (q : ∀ w G', Same G G' → Rep G' w (.tup (List.replicate m d)) → Q w G') : Tr.rRepA K (.ref ta) (.int (m : Int)) G Q := by
  refine ⟨ta, m, [v], rfl, rfl, SqT.of h, by simp, by omega, by omega, by simp, fun e => ?_, fun e p np => ?_⟩
  · have e : m = 1 := by omega
    subst e
    exact q _ G (Same.refl G) (Rep.tupI h (.one r))
  · have s := Same.new (o := .tup (List.replicate (m : Int).toNat [v]).flatten) np
    exact q _ _ s (Rep.new np (rep_many r m))
theorem many_ok {d : D} {n : Nat} (dp : d.Deep 2) (g : Good d) (ml : d.Mild) : ∀ m : Nat, DeepL 2 (List.replicate m d) ∧ LayL (List.replicate m d) ∧ ThinL (List.replicate m d) ∧ MildL (List.replicate m d) ∧ sizeL (List.replicate m d) = m * D.size d
  | 0 => ⟨by simp only [List.replicate_zero, DeepL], rfl, by simp only [List.replicate_zero, ThinL], by simp only [List.replicate_zero, MildL], by simp [sizeL]⟩
  | m + 1 => by
    obtain ⟨a, b, c, f, e⟩ := many_ok (n := n) dp g ml m
    rw [List.replicate_succ]
    refine ⟨by simp only [DeepL]; exact ⟨dp, a⟩, ?_, by simp only [ThinL]; exact ⟨g.2, c⟩, by simp only [MildL]; exact ⟨ml, f⟩, ?_⟩
    · simp only [LayL, pyL, PyData.canLayAll0, Bool.and_eq_true] at b ⊢
      exact ⟨g.1, b⟩
    · simp only [sizeL, e, Nat.succ_mul]
      omega
section
variable {P : Program} {w : World} {K : PySem.W.Frag} {mg : Str → Option Value} {base : Heap}
/-- two lists of small things -/
theorem cat_ok {H : Hp} {a b : Addr} {m n : Nat} {Q : VK} (ha : OkL H a m) (hb : OkL H b n) (z : m + n ≤ 1000) (q : ∀ t H', Same H H' → OkL H' t (m + n) → Q (.ref t) H') : rCat (.ref a) (.ref b) H Q := by
  obtain ⟨xs, h1, n1, a1⟩ := ha
  obtain ⟨ys, h2, n2, a2⟩ := hb
  refine ⟨a, b, xs, ys, rfl, rfl, h1, h2, by rw [sizeLine_eq]; omega, fun p np => ?_⟩
  have s := Same.new (o := .lst (xs ++ ys)) np
  refine q p _ s ⟨_, upd_same, by rw [List.length_append]; omega, fun u hu => ?_⟩
  rcases List.mem_append.mp hu with hu | hu
  · exact (a1 u hu).same s
  · exact (a2 u hu).same s
abbrev nBorders : List Str := ["_law_one", "_law_found", "_law_many", "_law_n"]
theorem scBorders : FnScope nBorders ["_law_one"] (defScope sBorders) := ⟨rfl, rfl, rfl, by decide +kernel, rfl, by decide +kernel, by decide +kernel⟩
theorem ok_borders {f : Addr} {fd : FuncData} (F : Fun K "_law_borders" "_law_borders" sBorders f fd) : FnOk P w K mg base CX0 1 f fd ["_law_one"] spBorders := by
  refine F.ok scBorders (fun vs H Q E h => ?_) (fun cdv A outer s H vs Q E hr h => ?_)
  · obtain ⟨v, d, rfl, _⟩ := h
    rfl
  · obtain ⟨v, d, rfl, rp, dp, good, mild, sz, fin⟩ := h
    refine ⟨_, pss_cons (ps_set (i := 1) scBorders.nd rfl (.inl rfl) (pe_lst pa_nil))
      (pss_cons (ps_for PassesOwn.never rfl (pi_tup (pe_tup (pa_cons pe_int (pa_cons pe_int (pa_cons pe_int (pa_cons pe_int pa_nil)))))) (pg_name (i := 2) scBorders.nd rfl (.inl rfl))
        (pss_one (ps_set (i := 1) scBorders.nd rfl (.inl rfl) (pe_op op_cat (pv 1) (pe_lst (pa_cons (pe_tup (pa_cons pe_str (pa_cons (pe_op Tr.op_repA (pe_tup (pa_cons (pv 0) pa_nil)) (pv 2)) pa_nil))) (pa_cons (pe_tup (pa_cons pe_str (pa_cons (pe_op Tr.op_repA (pe_tup (pa_cons (pv 0) pa_nil)) (pv 2)) pa_nil))) pa_nil)))))))
      (pss_cons (ps_for PassesOwn.never rfl (pi_tup (pe_tup (pa_cons pe_int (pa_cons pe_int (pa_cons pe_int (pa_cons pe_int (pa_cons (pe_un un_neg pe_int) pa_nil))))))) (pg_name (i := 3) scBorders.nd rfl (.inl rfl))
        (pss_one (ps_set (i := 1) scBorders.nd rfl (.inl rfl) (pe_op op_cat (pv 1) (pe_lst (pa_cons (pe_tup (pa_cons pe_str (pa_cons (pv 3) (pa_cons (pv 0) pa_nil)))) (pa_cons (pe_tup (pa_cons pe_str (pa_cons (pv 3) (pa_cons (pv 0) pa_nil)))) (pa_cons (pe_tup (pa_cons pe_str (pa_cons (pv 3) (pa_cons pe_str (pa_cons (pv 0) pa_nil))))) (pa_cons (pe_tup (pa_cons pe_str (pa_cons (pv 3) (pa_cons (pv 3) (pa_cons (pv 3) pa_nil))))) pa_nil)))))))))
      (pss_cons (ps_for PassesOwn.never rfl (pi_tup (pe_tup (pa_cons pe_int (pa_cons pe_int (pa_cons pe_int (pa_cons pe_int pa_nil)))))) (pg_name (i := 3) scBorders.nd rfl (.inl rfl))
        (pss_one (ps_set (i := 1) scBorders.nd rfl (.inl rfl) (pe_op op_cat (pv 1) (pe_lst (pa_cons (pe_tup (pa_cons pe_str (pa_cons (pv 3) (pa_cons pe_int (pa_cons (pv 0) pa_nil))))) (pa_cons (pe_tup (pa_cons pe_str (pa_cons pe_int (pa_cons (pv 3) (pa_cons (pv 0) pa_nil))))) (pa_cons (pe_tup (pa_cons pe_str (pa_cons (pv 3) (pa_cons (pv 0) pa_nil)))) pa_nil))))))))
      (pss_cons (ps_set (i := 1) scBorders.nd rfl (.inl rfl) (pe_op op_cat (pv 1) (pe_lst (pa_cons (pe_tup (pa_cons pe_str (pa_cons pe_int pa_nil))) (pa_cons (pe_tup (pa_cons pe_str (pa_cons pe_int pa_nil))) (pa_cons (pe_tup (pa_cons pe_str (pa_cons pe_int pa_nil))) (pa_cons (pe_tup (pa_cons pe_str (pa_cons (pe_un un_neg pe_int) pa_nil))) (pa_cons (pe_tup (pa_cons pe_str (pa_cons pe_int (pa_cons pe_str (pa_cons (pv 0) pa_nil))))) pa_nil))))))))
      (pss_one (ps_ret (pe_op op_cat (pv 1) (pe_lst (pa_cons (pe_tup (pa_cons pe_str (pa_cons pe_int (pa_cons pe_str (pa_cons (pv 0) pa_nil))))) (pa_cons (pe_tup (pa_cons pe_str (pa_cons (pe_tup pa_nil) (pa_cons pe_str pa_nil)))) (pa_cons (pe_tup (pa_cons pe_str (pa_cons (pe_tup pa_nil) (pa_cons pe_str pa_nil)))) (pa_cons (pe_tup (pa_cons pe_str (pa_cons (pe_tup pa_nil) pa_nil))) pa_nil)))))))))))), ?_⟩
    have gd := good
    obtain ⟨glay, gthin⟩ := good
    refine ⟨(by show 0 ≤ sizeLine; decide), fun q0 m0 => ?_⟩
    have o0 : OkL (upd H q0 (.lst [])) q0 0 := ⟨[], upd_same, Nat.le_refl _, fun u hu => by cases hu⟩
    have s0 := Same.new (o := .lst []) m0
    show gName _ _ _ (upd H q0 (.lst [])) _
    generalize upd H q0 (.lst []) = G0 at o0 s0 ⊢
    refine ⟨(by show 4 ≤ sizeLine; decide), fun t1 n1 => ⟨t1, rfl, ⟨_, SqT.of upd_same⟩, for_tup (K := K) (a := t1) (xs := [.int 0, .int 1, .int 6, .int 7]) (fun i σ G => ∃ (l : Addr) (x y : Option V), σ = [some v, some (.ref l), x, y] ∧ Same (upd G0 t1 (.tup [.int 0, .int 1, .int 6, .int 7])) G ∧ OkL G l (i * 2))
      ⟨q0, _, _, rfl, Same.refl _, o0.same (Same.new n1)⟩ (fun i σ G _ ⟨_, _, _, _, sG, _⟩ => SqT.of (sG _ _ upd_same)) ?_ ?_⟩⟩
    · rintro i x σ G hx ⟨l, y, z, rfl, sG, ol⟩
      have i4 : i < 4 := (List.getElem?_eq_some_iff.mp hx).1
      obtain ⟨m, rfl, m7⟩ : ∃ m : Nat, x = .int m ∧ m ≤ 7 := by
        match i, hx with
        | 0, hx => exact ⟨0, (Option.some.inj hx).symm, by decide⟩
        | 1, hx => exact ⟨1, (Option.some.inj hx).symm, by decide⟩
        | 2, hx => exact ⟨6, (Option.some.inj hx).symm, by decide⟩
        | 3, hx => exact ⟨7, (Option.some.inj hx).symm, by decide⟩
        | i + 4, hx => simp at hx
      have sHG := (s0.trans (Same.new n1)).trans sG
      obtain ⟨md, ml, mt, mm, mz⟩ := many_ok (n := 0) dp gd mild m
      have mz2 : m * D.size d ≤ 700 := Nat.le_trans (Nat.mul_le_mul m7 sz) (by decide)
      have part : ∀ (z : Str) (G2 : Hp) (w : V) (t : Addr), z.length ≤ 50 → PyData.strOk z = true → (reprText z).length ≤ 150 → G2 t = none → Rep G2 w (.tup (List.replicate m d)) → OkV (upd G2 t (.tup [.str z, w])) (.ref t) := fun z G2 w t hz hz2 hz3 nt rw' => by
        refine tup_new nt (.two Rep.strI rw') ?_ ?_ ?_ ?_ (by simp) ?_
        · simp only [DeepL, D.Deep]
          exact ⟨trivial, md, trivial⟩
        · simp only [LayL, pyL, PyData.canLayAll0, D.py, PyData.canLay0, Bool.and_eq_true]
          exact ⟨hz2, ml, trivial⟩
        · simp only [ThinL, D.Thin, List.length_replicate]
          exact ⟨trivial, ⟨by omega, mt⟩, trivial⟩
        · simp only [MildL, D.Mild]
          exact ⟨hz3, mm, trivial⟩
        · simp only [sizeL, D.size, mz]
          omega
      refine ⟨_, rfl, _, rfl, (by show 1 ≤ sizeLine; decide), fun ta na => ⟨_, rfl, rep_ok (K := K) (m := m) (d := d) upd_same ((rp.same sHG).same (Same.new na)) (by omega) fun w1 G1 s1 r1 => ⟨(by show 2 ≤ sizeLine; decide), fun tb nb => ?_⟩⟩⟩
      have sb := Same.new (o := .tup [.str "chain", w1]) nb
      have okb := part "chain" G1 w1 tb (by decide +kernel) (by decide +kernel) (by decide +kernel) nb r1
      have sHb := ((sHG.trans (Same.new (o := .tup [v]) na)).trans s1).trans sb
      have olb := ((ol.same (Same.new (o := .tup [v]) na)).same s1).same sb
      have sGb := ((sG.trans (Same.new (o := .tup [v]) na)).trans s1).trans sb
      generalize upd G1 tb (.tup [.str "chain", w1]) = G2 at okb sHb olb sGb ⊢
      refine ⟨_, rfl, (by show 1 ≤ sizeLine; decide), fun tc nc => ⟨_, rfl, rep_ok (K := K) (m := m) (d := d) upd_same ((rp.same sHb).same (Same.new nc)) (by omega) fun w2 G3 s3 r3 => ⟨(by show 2 ≤ sizeLine; decide), fun td nd => ?_⟩⟩⟩
      have sd := Same.new (o := .tup [.str "beside", w2]) nd
      have okd := part "beside" G3 w2 td (by decide +kernel) (by decide +kernel) (by decide +kernel) nd r3
      have s4 := ((Same.new (o := .tup [v]) nc).trans s3).trans sd
      refine ⟨(by show 2 ≤ sizeLine; decide), fun q nq => ?_⟩
      have sq := Same.new (o := .lst [.ref tb, .ref td]) nq
      refine cat_ok (m := i * 2) (n := 2) ((olb.same s4).same sq) ⟨_, upd_same, Nat.le_refl _, fun u hu => ?_⟩ (by omega) (fun t H' s5 o5 => ?_)
      rotate_left
      · exact ⟨_, _, _, rfl, ((sGb.trans s4).trans sq).trans s5, by rw [Nat.succ_mul]; exact o5⟩
      rcases List.mem_cons.mp hu with rfl | hu
      · exact (okb.same s4).same sq
      · rw [List.mem_singleton.mp hu]
        exact okd.same sq
    · rintro σ G ⟨l, x, y, rfl, sG, ol⟩
      have sA := (s0.trans (Same.new n1)).trans sG
      have d3 : d.Deep 3 := dp.le (by decide)
      -- a tuple of a word, numbers and words, the thing
      have mk : ∀ (G2 : Hp) (t : Addr) (vs : List V) (ds : List D), G2 t = none → RepL G2 vs ds → (∀ e ∈ ds, e.Deep 3 ∧ Good e ∧ e.Mild ∧ D.size e ≤ 200) → ds.length ≤ 4 → OkV (upd G2 t (.tup vs)) (.ref t) := by
        intro G2 t vs ds nt r a n4
        have all : ∀ es : List D, (∀ e ∈ es, e.Deep 3 ∧ Good e ∧ e.Mild ∧ D.size e ≤ 200) → DeepL 3 es ∧ LayL es ∧ ThinL es ∧ MildL es ∧ sizeL es ≤ 200 * es.length := by
          intro es
          induction es with
          | nil => intro _; exact ⟨by simp only [DeepL], rfl, by simp only [ThinL], by simp only [MildL], by simp [sizeL]⟩
          | cons e es ih =>
            intro h
            obtain ⟨x1, x2, x3, x5, x4⟩ := ih fun z hz => h z (.tail _ hz)
            obtain ⟨y1, y2, y4, y3⟩ := h e (.head _)
            refine ⟨by simp only [DeepL]; exact ⟨y1, x1⟩, ?_, by simp only [ThinL]; exact ⟨y2.2, x3⟩, by simp only [MildL]; exact ⟨y4, x5⟩, ?_⟩
            · simp only [LayL, pyL, PyData.canLayAll0, Bool.and_eq_true] at x2 ⊢
              exact ⟨y2.1, x2⟩
            · simp only [sizeL, List.length_cons, Nat.mul_succ]
              omega
        obtain ⟨x1, x2, x3, x5, x4⟩ := all ds a
        exact tup_new nt r x1 x2 x3 x5 (by omega) (by omega)
      have okI : ∀ k : Int, k.natAbs ≤ 1000 → (D.int k).Deep 3 ∧ Good (.int k) ∧ (D.int k).Mild ∧ D.size (.int k) ≤ 200 := fun k hk => ⟨by simp only [D.Deep], ⟨rfl, by simp only [D.Thin]⟩, by simp only [D.Mild]; exact Nat.lt_of_le_of_lt hk (by decide +kernel), by simp only [D.size]; decide⟩
      have okS : ∀ z : Str, PyData.strOk z = true → z.length ≤ 50 → (reprText z).length ≤ 150 → (D.str z).Deep 3 ∧ Good (.str z) ∧ (D.str z).Mild ∧ D.size (.str z) ≤ 200 := fun z h1 h2 h3 => ⟨by simp only [D.Deep], ⟨by simp only [D.py, PyData.canLay0]; exact h1, by simp only [D.Thin]⟩, by simp only [D.Mild]; exact h3, by simp only [D.size]; omega⟩
      have okD : d.Deep 3 ∧ Good d ∧ d.Mild ∧ D.size d ≤ 200 := ⟨d3, gd, mild, by omega⟩
      have okE : (D.tup []).Deep 3 ∧ Good (.tup []) ∧ (D.tup []).Mild ∧ D.size (.tup []) ≤ 200 := ⟨by simp only [D.Deep, DeepL], ⟨rfl, by simp only [D.Thin, ThinL, List.length_nil]; decide⟩, by simp only [D.Mild, MildL], by simp only [D.size, sizeL]; decide⟩
      have m2 : ∀ {a b : D}, (a.Deep 3 ∧ Good a ∧ a.Mild ∧ D.size a ≤ 200) → (b.Deep 3 ∧ Good b ∧ b.Mild ∧ D.size b ≤ 200) → ∀ e ∈ [a, b], e.Deep 3 ∧ Good e ∧ e.Mild ∧ D.size e ≤ 200 := fun ha hb e he => by
        simp only [List.mem_cons, List.mem_nil_iff, or_false] at he
        rcases he with rfl | rfl <;> assumption
      have m3 : ∀ {a b c : D}, (a.Deep 3 ∧ Good a ∧ a.Mild ∧ D.size a ≤ 200) → (b.Deep 3 ∧ Good b ∧ b.Mild ∧ D.size b ≤ 200) → (c.Deep 3 ∧ Good c ∧ c.Mild ∧ D.size c ≤ 200) → ∀ e ∈ [a, b, c], e.Deep 3 ∧ Good e ∧ e.Mild ∧ D.size e ≤ 200 := fun ha hb hc e he => by
        simp only [List.mem_cons, List.mem_nil_iff, or_false] at he
        rcases he with rfl | rfl | rfl <;> assumption
      have m4 : ∀ {a b c g : D}, (a.Deep 3 ∧ Good a ∧ a.Mild ∧ D.size a ≤ 200) → (b.Deep 3 ∧ Good b ∧ b.Mild ∧ D.size b ≤ 200) → (c.Deep 3 ∧ Good c ∧ c.Mild ∧ D.size c ≤ 200) → (g.Deep 3 ∧ Good g ∧ g.Mild ∧ D.size g ≤ 200) → ∀ e ∈ [a, b, c, g], e.Deep 3 ∧ Good e ∧ e.Mild ∧ D.size e ≤ 200 := fun ha hb hc hd e he => by
        simp only [List.mem_cons, List.mem_nil_iff, or_false] at he
        rcases he with rfl | rfl | rfl | rfl <;> assumption
      refine ⟨_, rfl, (by show 5 ≤ sizeLine; decide), fun t2 n2 => ⟨t2, rfl, ⟨_, SqT.of upd_same⟩, for_tup (K := K) (a := t2) (xs := [.int 0, .int 1, .int 200, .int 201, .int (-1)]) (fun i σ G2 => ∃ (l : Addr) (x y : Option V), σ = [some v, some (.ref l), x, y] ∧ Same (upd G t2 (.tup [.int 0, .int 1, .int 200, .int 201, .int (-1)])) G2 ∧ OkL G2 l (8 + i * 4))
        ⟨l, _, _, rfl, Same.refl _, ol.same (Same.new n2)⟩ (fun i σ G2 _ ⟨_, _, _, _, sG2, _⟩ => SqT.of (sG2 _ _ upd_same)) ?_ ?_⟩⟩
      · rintro i x σ G2 hx ⟨l, y, z, rfl, sG2, ol2⟩
        have i5 : i < 5 := (List.getElem?_eq_some_iff.mp hx).1
        obtain ⟨k, rfl, hk⟩ : ∃ k : Int, x = .int k ∧ k.natAbs ≤ 1000 := by
          match i, hx with
          | 0, hx => exact ⟨0, (Option.some.inj hx).symm, by decide⟩
          | 1, hx => exact ⟨1, (Option.some.inj hx).symm, by decide⟩
          | 2, hx => exact ⟨200, (Option.some.inj hx).symm, by decide⟩
          | 3, hx => exact ⟨201, (Option.some.inj hx).symm, by decide⟩
          | 4, hx => exact ⟨-1, (Option.some.inj hx).symm, by decide⟩
          | i + 5, hx => simp at hx
        have rv : Rep G2 v d := rp.same ((sA.trans (Same.new n2)).trans sG2)
        refine ⟨_, rfl, _, rfl, _, rfl, (by show 3 ≤ sizeLine; decide), fun ta na => ⟨_, rfl, _, rfl, (by show 3 ≤ sizeLine; decide), fun tb nb => ⟨_, rfl, _, rfl, (by show 4 ≤ sizeLine; decide), fun tc nc => ⟨_, rfl, _, rfl, _, rfl, (by show 4 ≤ sizeLine; decide), fun td nd => ⟨(by show 4 ≤ sizeLine; decide), fun q nq => ?_⟩⟩⟩⟩⟩
        have sa := Same.new (o := .tup [.str "cut", .int k, v]) na
        have sb := Same.new (o := .tup [.str "left", .int k, v]) nb
        have sc := Same.new (o := .tup [.str "wanted", .int k, .str "abcdefgh", v]) nc
        have sd := Same.new (o := .tup [.str "count", .int k, .int k, .int k]) nd
        have sq := Same.new (o := .lst [.ref ta, .ref tb, .ref tc, .ref td]) nq
        have oa := mk _ ta _ _ na (.three (Rep.strI (s := "cut")) (Rep.intI (i := k)) rv) (m3 (okS _ (by decide +kernel) (by decide +kernel) (by decide +kernel)) (okI k hk) okD) (by simp)
        have ob := mk _ tb _ _ nb (.three (Rep.strI (s := "left")) (Rep.intI (i := k)) (rv.same sa)) (m3 (okS _ (by decide +kernel) (by decide +kernel) (by decide +kernel)) (okI k hk) okD) (by simp)
        have oc := mk _ tc _ _ nc (.cons (Rep.strI (s := "wanted")) (.three (Rep.intI (i := k)) (Rep.strI (s := "abcdefgh")) ((rv.same sa).same sb))) (m4 (okS _ (by decide +kernel) (by decide +kernel) (by decide +kernel)) (okI k hk) (okS _ (by decide +kernel) (by decide +kernel) (by decide +kernel)) okD) (by simp)
        have od := mk _ td _ _ nd (.cons (Rep.strI (s := "count")) (.three (Rep.intI (i := k)) (Rep.intI (i := k)) (Rep.intI (i := k)))) (m4 (okS _ (by decide +kernel) (by decide +kernel) (by decide +kernel)) (okI k hk) (okI k hk) (okI k hk)) (by simp)
        have s4 := ((sa.trans sb).trans sc).trans sd
        refine cat_ok (m := 8 + i * 4) (n := 4) ((ol2.same s4).same sq) ⟨_, upd_same, Nat.le_refl _, fun u hu => ?_⟩ (by omega) (fun t H' s5 o5 => ?_)
        rotate_left
        · exact ⟨_, _, _, rfl, ((sG2.trans s4).trans sq).trans s5, (by rw [show 8 + (i + 1) * 4 = 8 + i * 4 + 4 by omega]; exact o5)⟩
        simp only [List.mem_cons, List.mem_nil_iff, or_false] at hu
        rcases hu with rfl | rfl | rfl | rfl
        · exact (((oa.same sb).same sc).same sd).same sq
        · exact ((ob.same sc).same sd).same sq
        · exact (oc.same sd).same sq
        · exact od.same sq
      · rintro σ G2 ⟨l, x, y, rfl, sG2, ol2⟩
        have sB := (sA.trans (Same.new n2)).trans sG2
        refine ⟨(by show 4 ≤ sizeLine; decide), fun t3 n3 => ⟨t3, rfl, ⟨_, SqT.of upd_same⟩, for_tup (K := K) (a := t3) (xs := [.int 0, .int 1, .int 20, .int 21]) (fun i σ G3 => ∃ (l : Addr) (x y : Option V), σ = [some v, some (.ref l), x, y] ∧ Same (upd G2 t3 (.tup [.int 0, .int 1, .int 20, .int 21])) G3 ∧ OkL G3 l (28 + i * 3))
          ⟨l, _, _, rfl, Same.refl _, ol2.same (Same.new n3)⟩ (fun i σ G3 _ ⟨_, _, _, _, sG3, _⟩ => SqT.of (sG3 _ _ upd_same)) ?_ ?_⟩⟩
        · rintro i x σ G3 hx ⟨l, y, z, rfl, sG3, ol3⟩
          have i4 : i < 4 := (List.getElem?_eq_some_iff.mp hx).1
          obtain ⟨k, rfl, hk⟩ : ∃ k : Int, x = .int k ∧ k.natAbs ≤ 1000 := by
            match i, hx with
            | 0, hx => exact ⟨0, (Option.some.inj hx).symm, by decide⟩
            | 1, hx => exact ⟨1, (Option.some.inj hx).symm, by decide⟩
            | 2, hx => exact ⟨20, (Option.some.inj hx).symm, by decide⟩
            | 3, hx => exact ⟨21, (Option.some.inj hx).symm, by decide⟩
            | i + 4, hx => simp at hx
          have rv : Rep G3 v d := rp.same ((sB.trans (Same.new n3)).trans sG3)
          refine ⟨_, rfl, _, rfl, _, rfl, (by show 4 ≤ sizeLine; decide), fun ta na => ⟨_, rfl, _, rfl, (by show 4 ≤ sizeLine; decide), fun tb nb => ⟨_, rfl, _, rfl, (by show 3 ≤ sizeLine; decide), fun tc nc => ⟨(by show 3 ≤ sizeLine; decide), fun q nq => ?_⟩⟩⟩⟩
          have sa := Same.new (o := .tup [.str "windows", .int k, .int 20, v]) na
          have sb := Same.new (o := .tup [.str "windows", .int 20, .int k, v]) nb
          have sc := Same.new (o := .tup [.str "marks", .int k, v]) nc
          have sq := Same.new (o := .lst [.ref ta, .ref tb, .ref tc]) nq
          have oa := mk _ ta _ _ na (.cons (Rep.strI (s := "windows")) (.three (Rep.intI (i := k)) (Rep.intI (i := 20)) rv)) (m4 (okS _ (by decide +kernel) (by decide +kernel) (by decide +kernel)) (okI k hk) (okI 20 (by decide)) okD) (by simp)
          have ob := mk _ tb _ _ nb (.cons (Rep.strI (s := "windows")) (.three (Rep.intI (i := 20)) (Rep.intI (i := k)) (rv.same sa))) (m4 (okS _ (by decide +kernel) (by decide +kernel) (by decide +kernel)) (okI 20 (by decide)) (okI k hk) okD) (by simp)
          have oc := mk _ tc _ _ nc (.three (Rep.strI (s := "marks")) (Rep.intI (i := k)) ((rv.same sa).same sb)) (m3 (okS _ (by decide +kernel) (by decide +kernel) (by decide +kernel)) (okI k hk) okD) (by simp)
          have s4 := (sa.trans sb).trans sc
          refine cat_ok (m := 28 + i * 3) (n := 3) ((ol3.same s4).same sq) ⟨_, upd_same, Nat.le_refl _, fun u hu => ?_⟩ (by omega) (fun t H' s5 o5 => ?_)
          rotate_left
          · exact ⟨_, _, _, rfl, ((sG3.trans s4).trans sq).trans s5, (by rw [show 28 + (i + 1) * 3 = 28 + i * 3 + 3 by omega]; exact o5)⟩
          simp only [List.mem_cons, List.mem_nil_iff, or_false] at hu
          rcases hu with rfl | rfl | rfl
          · exact ((oa.same sb).same sc).same sq
          · exact (ob.same sc).same sq
          · exact oc.same sq
        · rintro σ G3 ⟨l, x, y, rfl, sG3, ol3⟩
          have sC := (sB.trans (Same.new n3)).trans sG3
          have rv : Rep G3 v d := rp.same sC
          refine ⟨_, rfl, (by show 2 ≤ sizeLine; decide), fun ta na => ⟨(by show 2 ≤ sizeLine; decide), fun tb nb => ⟨(by show 2 ≤ sizeLine; decide), fun tc nc => ⟨_, rfl, (by show 2 ≤ sizeLine; decide), fun td nd => ⟨_, rfl, (by show 4 ≤ sizeLine; decide), fun te ne => ⟨(by show 5 ≤ sizeLine; decide), fun q nq => ?_⟩⟩⟩⟩⟩⟩
          have sa := Same.new (o := .tup [.str "row", .int 59]) na
          have sb := Same.new (o := .tup [.str "row", .int 60]) nb
          have sc := Same.new (o := .tup [.str "row", .int 0]) nc
          have sd := Same.new (o := .tup [.str "row", .int (-1)]) nd
          have se := Same.new (o := .tup [.str "wanted", .int 1, .str "abcdefghi", v]) ne
          have sq := Same.new (o := .lst [.ref ta, .ref tb, .ref tc, .ref td, .ref te]) nq
          have oa := mk _ ta _ _ na (.two (Rep.strI (s := "row")) (Rep.intI (i := 59))) (m2 (okS _ (by decide +kernel) (by decide +kernel) (by decide +kernel)) (okI _ (by decide))) (by simp)
          have ob := mk _ tb _ _ nb (.two (Rep.strI (s := "row")) (Rep.intI (i := 60))) (m2 (okS _ (by decide +kernel) (by decide +kernel) (by decide +kernel)) (okI _ (by decide))) (by simp)
          have oc := mk _ tc _ _ nc (.two (Rep.strI (s := "row")) (Rep.intI (i := 0))) (m2 (okS _ (by decide +kernel) (by decide +kernel) (by decide +kernel)) (okI _ (by decide))) (by simp)
          have od := mk _ td _ _ nd (.two (Rep.strI (s := "row")) (Rep.intI (i := -1))) (m2 (okS _ (by decide +kernel) (by decide +kernel) (by decide +kernel)) (okI _ (by decide))) (by simp)
          have oe := mk _ te _ _ ne (.cons (Rep.strI (s := "wanted")) (.three (Rep.intI (i := 1)) (Rep.strI (s := "abcdefghi")) ((((rv.same sa).same sb).same sc).same sd))) (m4 (okS _ (by decide +kernel) (by decide +kernel) (by decide +kernel)) (okI 1 (by decide)) (okS _ (by decide +kernel) (by decide +kernel) (by decide +kernel)) okD) (by simp)
          have s4 := (((sa.trans sb).trans sc).trans sd).trans se
          refine cat_ok (m := 40) (n := 5) ((ol3.same s4).same sq) ⟨_, upd_same, Nat.le_refl _, fun u hu => ?_⟩ (by omega) (fun t H' s5 o5 => ?_)
          · simp only [List.mem_cons, List.mem_nil_iff, or_false] at hu
            rcases hu with rfl | rfl | rfl | rfl | rfl
            · exact ((((oa.same sb).same sc).same sd).same se).same sq
            · exact (((ob.same sc).same sd).same se).same sq
            · exact ((oc.same sd).same se).same sq
            · exact (od.same se).same sq
            · exact oe.same sq
          have sD := ((sC.trans s4).trans sq).trans s5
          have rv2 : Rep H' v d := rp.same sD
          refine ⟨_, rfl, _, rfl, (by show 4 ≤ sizeLine; decide), fun tf nf => ⟨(by show 0 ≤ sizeLine; decide), fun e1 f1 => ⟨(by show 3 ≤ sizeLine; decide), fun tg ng => ⟨(by show 0 ≤ sizeLine; decide), fun e2 f2 => ⟨(by show 3 ≤ sizeLine; decide), fun th nh => ⟨(by show 0 ≤ sizeLine; decide), fun e3 f3 => ⟨(by show 2 ≤ sizeLine; decide), fun ti ni => ⟨(by show 4 ≤ sizeLine; decide), fun q2 nq2 => ?_⟩⟩⟩⟩⟩⟩⟩⟩
          have u1 := Same.new (o := .tup [.str "wanted", .int 1, .str "", v]) nf
          have u2 := Same.new (o := .tup []) f1
          have u3 := Same.new (o := .tup [.str "broken", .ref e1, .str "z"]) ng
          have u4 := Same.new (o := .tup []) f2
          have u5 := Same.new (o := .tup [.str "broken", .ref e2, .str "Z"]) nh
          have u6 := Same.new (o := .tup []) f3
          have u7 := Same.new (o := .tup [.str "list", .ref e3]) ni
          have u8 := Same.new (o := .lst [.ref tf, .ref tg, .ref th, .ref ti]) nq2
          have p1 := mk _ tf _ _ nf (.cons (Rep.strI (s := "wanted")) (.three (Rep.intI (i := 1)) (Rep.strI (s := "")) rv2)) (m4 (okS _ (by decide +kernel) (by decide +kernel) (by decide +kernel)) (okI 1 (by decide)) (okS _ (by decide +kernel) (by decide +kernel) (by decide +kernel)) okD) (by simp)
          have p2 := mk _ tg _ _ ng (.three (Rep.strI (s := "broken")) (Rep.tupI upd_same .nil) (Rep.strI (s := "z"))) (m3 (okS _ (by decide +kernel) (by decide +kernel) (by decide +kernel)) okE (okS _ (by decide +kernel) (by decide +kernel) (by decide +kernel))) (by simp)
          have p3 := mk _ th _ _ nh (.three (Rep.strI (s := "broken")) (Rep.tupI upd_same .nil) (Rep.strI (s := "Z"))) (m3 (okS _ (by decide +kernel) (by decide +kernel) (by decide +kernel)) okE (okS _ (by decide +kernel) (by decide +kernel) (by decide +kernel))) (by simp)
          have p4 := mk _ ti _ _ ni (.two (Rep.strI (s := "list")) (Rep.tupI upd_same .nil)) (m2 (okS _ (by decide +kernel) (by decide +kernel) (by decide +kernel)) okE) (by simp)
          have w1 := (((((u1.trans u2).trans u3).trans u4).trans u5).trans u6).trans u7
          refine cat_ok (m := 45) (n := 4) ((o5.same w1).same u8) ⟨_, upd_same, Nat.le_refl _, fun u hu => ?_⟩ (by omega) (fun t2 H2 s6 o6 => ?_)
          · simp only [List.mem_cons, List.mem_nil_iff, or_false] at hu
            rcases hu with rfl | rfl | rfl | rfl
            · exact ((((((p1.same u2).same u3).same u4).same u5).same u6).same u7).same u8
            · exact ((((p2.same u4).same u5).same u6).same u7).same u8
            · exact ((p3.same u6).same u7).same u8
            · exact p4.same u8
          obtain ⟨us, h1, h2, h3⟩ := o6
          exact fin t2 H2 (((sD.trans w1).trans u8).trans s6) ⟨us, h1, by omega, h3⟩
end
end K82


set_option Elab.async false
set_option linter.all false
set_option maxRecDepth 100000
set_option maxHeartbeats 4000000
/-! A piece of the top by the kernel, as a run within whatever stands around it. -/
noncomputable section
namespace Hd
open PySem PySem.W PySem.Calls PyProof.Rows HandSHeadRun

def plainOp : Sem Fin → Bool
  | .rule .. | .at .. | .load .. | .update .. | .alloc .. | .loadIfAlive .. | .point .. | .fresh .. | .ask .. | .thread .. => true
  | _ => false
theorem lift_step {M : Model} {s s' : Shared} {cur cur' : Sem Fin} {code code' : Code} {pos pos' : Pos} {st0 : List Frame} (hp : plainOp cur = true)
    (h : step M.den M.prog M.w s ⟨cur, code, pos, []⟩ = .go s' ⟨cur', code', pos', st0⟩) (stk : List Frame) : M.step s ⟨cur, code, pos, stk⟩ = .go s' ⟨cur', code', pos', stk⟩ := by
  obtain ⟨heap, gens, drawn, toks, os⟩ := s
  cases cur with
  | rule t k => simp only [step, Step.go.injEq, Thread.mk.injEq] at h; obtain ⟨rfl, rfl, rfl, rfl, _⟩ := h; exact step_rule ..
  | «at» q k => simp only [step, Step.go.injEq, Thread.mk.injEq] at h; obtain ⟨rfl, rfl, rfl, rfl, _⟩ := h; exact step_at ..
  | load a q k =>
    cases e : heap.get? a with
    | none => simp only [step, e] at h; cases h
    | some o => simp only [step, e, Step.go.injEq, Thread.mk.injEq] at h; obtain ⟨rfl, rfl, rfl, rfl, _⟩ := h; exact step_load _ _ _ _ _ _ _ e
  | update a q f k =>
    cases e : (heap.get? a).isSome with
    | false => simp only [step, e] at h; cases h
    | true => simp only [step, e, if_true, Step.go.injEq, Thread.mk.injEq] at h; obtain ⟨rfl, rfl, rfl, rfl, _⟩ := h; exact step_update _ _ _ _ _ _ _ _ e
  | alloc o k => simp only [step, Step.go.injEq, Thread.mk.injEq] at h; obtain ⟨rfl, rfl, rfl, rfl, _⟩ := h; exact step_alloc ..
  | loadIfAlive a k => simp only [step, Step.go.injEq, Thread.mk.injEq] at h; obtain ⟨rfl, rfl, rfl, rfl, _⟩ := h; exact step_loadIfAlive ..
  | point l k => simp only [step, Step.go.injEq, Thread.mk.injEq] at h; obtain ⟨rfl, rfl, rfl, rfl, _⟩ := h; exact step_point ..
  | fresh k => simp only [step, Step.go.injEq, Thread.mk.injEq] at h; obtain ⟨rfl, rfl, rfl, rfl, _⟩ := h; exact step_fresh ..
  | ask k => simp only [step, Step.go.injEq, Thread.mk.injEq] at h; obtain ⟨rfl, rfl, rfl, rfl, _⟩ := h; exact step_ask ..
  | thread k => simp only [step, Step.go.injEq, Thread.mk.injEq] at h; obtain ⟨rfl, rfl, rfl, rfl, _⟩ := h; exact step_thread ..
  | _ => cases hp

/-- a piece, to its end: den, st: the table's and the machine's twins; base: what stands around it -/
def goR (den : Code → Sem Fin) (st : SharedT → Thread → Option (SharedT × Thread)) (base : List Frame) : Nat → SharedT → Sem Fin → Code → Pos → List Frame → Option (SharedT × Flow)
  | 0, _, _, _, _, _ => none
  | m + 1, s, cur, code, pos, pre => match cur with
    | .pure (.done f) => match pre with
      | [] => some (s, f)
      | .ret k _ _ _ c p _ :: r => goR den st base m s (k (.ok f)) c p r
      | .gen .. :: _ => none
    | .pure (.again c) => match c.quiet with
      | true => goR den st base m s (den c) c pos pre
      | false => none
    | .call c h g l k => goR den st base m s (den c) c pos (.ret k h g l code pos [] :: pre)
    | .stack k => goR den st base m s (k ((code, pos) :: (pre ++ base).map Frame.where_)) code pos pre
    | .handled own k => goR den st base m s (k (topHandled (if own then ownFrames (pre ++ base) else pre ++ base))) code pos pre
    | cur => match plainOp cur with
      | true => match st s ⟨cur, code, pos, []⟩ with
        | some (s', ⟨cur', code', pos', _⟩) => frS s' fun s' => goR den st base m s' cur' code' pos' pre
        | none => none
      | false => none

theorem goR_ok {p : Program} {w : World} {base : List Frame} : ∀ {m : Nat} {s s' : SharedT} {cur : Sem Fin} {code : Code} {pos : Pos} {pre : List Frame} {f : Flow},
    goR (denote table) (stepT (denote table) p w) base m s cur code pos pre = some (s', f) → Reach (model p w) base s.abs cur code pos pre s'.abs (.ret (.ok f))
  | 0, _, _, _, _, _, _, _, h => by cases h
  | m + 1, s, s', cur, code, pos, pre, f, h => by
    have other : ∀ c, cur = c → plainOp c = true → (match stepT (denote table) p w s ⟨c, code, pos, []⟩ with
        | some (s', ⟨cur', code', pos', _⟩) => frS s' fun s' => goR (denote table) (stepT (denote table) p w) base m s' cur' code' pos' pre
        | none => none) = some (s', f) → Reach (model p w) base s.abs cur code pos pre s'.abs (.ret (.ok f)) := by
      rintro c rfl hp h
      cases e : stepT (denote table) p w s ⟨cur, code, pos, []⟩ with
      | none =>
        rw [e] at h
        cases h
      | some y =>
        obtain ⟨s2, cur2, code2, pos2, st2⟩ := y
        rw [e] at h
        have h2 : (frS s2 fun s' => goR (denote table) (stepT (denote table) p w) base m s' cur2 code2 pos2 pre) = some (s', f) := h
        rw [frS_eq] at h2
        exact .step (lift_step (M := model p w) hp (stepT_spec e) (pre ++ base)) (goR_ok h2)
    cases cur with
    | pure x =>
      cases x with
      | done g =>
        cases pre with
        | nil =>
          have h2 : some (s, g) = some (s', f) := h
          cases h2
          exact .exit ⟨rfl, rfl⟩
        | cons F r =>
          cases F with
          | ret k hh g' l c q kp =>
            have h2 : goR (denote table) (stepT (denote table) p w) base m s (k (.ok g)) c q r = some (s', f) := h
            exact .step (step_leaf_ret (model p w) s.abs code pos (r ++ base) (.ok g) k hh g' l c q kp) (goR_ok h2)
          | gen => cases h
      | again c =>
        cases q : c.quiet with
        | false =>
          have h2 : (match c.quiet with
            | true => goR (denote table) (stepT (denote table) p w) base m s (denote table c) c pos pre
            | false => none) = some (s', f) := h
          rw [q] at h2
          cases h2
        | true =>
          have h2 : (match c.quiet with
            | true => goR (denote table) (stepT (denote table) p w) base m s (denote table c) c pos pre
            | false => none) = some (s', f) := h
          rw [q] at h2
          exact .step (step_again (model p w) s.abs code pos (pre ++ base) c q) (goR_ok h2)
    | call c hh g l k =>
      have h2 : goR (denote table) (stepT (denote table) p w) base m s (denote table c) c pos (.ret k hh g l code pos [] :: pre) = some (s', f) := h
      exact .step (pre₁ := .ret k hh g l code pos [] :: pre) (step_call (model p w) s.abs code pos (pre ++ base) c hh g l k) (goR_ok h2)
    | stack k =>
      have h2 : goR (denote table) (stepT (denote table) p w) base m s (k ((code, pos) :: (pre ++ base).map Frame.where_)) code pos pre = some (s', f) := h
      exact .step (step_stack (model p w) s.abs code pos (pre ++ base) k) (goR_ok h2)
    | handled own k =>
      have h2 : goR (denote table) (stepT (denote table) p w) base m s (k (topHandled (if own then ownFrames (pre ++ base) else pre ++ base))) code pos pre = some (s', f) := h
      exact .step (step_handled (model p w) s.abs code pos (pre ++ base) own k) (goR_ok h2)
    | rule t k => exact other _ rfl rfl h
    | «at» q k => exact other _ rfl rfl h
    | load a q k => exact other _ rfl rfl h
    | update a q g k => exact other _ rfl rfl h
    | alloc o k => exact other _ rfl rfl h
    | loadIfAlive a k => exact other _ rfl rfl h
    | point l k => exact other _ rfl rfl h
    | fresh k => exact other _ rfl rfl h
    | ask k => exact other _ rfl rfl h
    | thread k => exact other _ rfl rfl h
    | _ => cases h
/-- the piece's run, told by the logic -/
theorem goR_wp {p : Program} {w : World} {base : List Frame} {m : Nat} {s s' : SharedT} {cur : Sem Fin} {code : Code} {pos : Pos} {f : Flow} (h : goR (denote table) (stepT (denote table) p w) base m s cur code pos [] = some (s', f)) :
    Sem.wp (model p w) (Ctx.of code base) cur (Sem.finPost (model p w) (Ctx.of code base) fun r z => r = .ok f ∧ z = s'.abs) (fun e _ z => False) pos s.abs := by
  have r := reach_runs (goR_ok h)
  have q := (Sem.wp_iff_runs (model p w) (Ctx.of code base) cur (fun r z => r = .ok f ∧ z = s'.abs) pos s.abs).mpr ⟨_, _, r, rfl, rfl⟩
  exact Sem.wp_mono (model p w) (Ctx.of code base) cur (fun _ _ _ h => h) (fun _ _ _ h => by cases h.1) pos s.abs q
end Hd

end

set_option Elab.async false
set_option linter.all false
set_option maxRecDepth 100000
set_option maxHeartbeats 4000000
/-! A dict written at the top whose keys are tuples of texts: what it makes is what it makes without looking any key up. -/
noncomputable section
namespace Hd
open PySem PySem.W PySem.Calls PyProof.Rows HandSHeadRun
variable {prog : Program} {w : World} {A : Around} {α β : Type}

/-- ends so, in this state -/
def Ends (prog : Program) (w : World) (A : Around) (R : Sem α) (s : Shared) (v : α) (s' : Shared) : Prop := ∀ (Q : α → Shared → Prop) (E : Value → Shared → Prop), Q v s' → wpAny (model prog w) A R Q E s
theorem Ends.pure {s : Shared} {v : α} : Ends prog w A (Pure.pure v) s v s := fun _ _ h => wpAny_pure h
theorem Ends.bind {R : Sem α} {f : α → Sem β} {s s1 s' : Shared} {v : α} {u : β} (a : Ends prog w A R s v s1) (b : Ends prog w A (f v) s1 u s') : Ends prog w A (R >>= f) s u s' := fun Q E h => wpAny_bind (a _ _ (b _ _ h))
theorem Ends.hold {R : Sem α} {s s' : Shared} {v : α} {vs : List Value} (a : Ends prog w A R s v s') : Ends prog w A (holding vs R) s v s' := fun Q E h => wpAny_holding (a _ _ h)
theorem Ends.stand {s : Shared} {p : Pos} : Ends prog w A (standAt p) s () s := fun _ _ h => wpAny_standAt h
theorem Ends.rule {s : Shared} {t : String} : Ends prog w A (rule t) s () s := fun _ _ h => wpAny_rule h
theorem Ends.onRaise {R : Sem α} {k : Value → Sem Unit} {s s' : Shared} {v : α} (a : Ends prog w A R s v s') : Ends prog w A (R.onRaise k) s v s' := fun Q E h => wpAny_onRaise (a _ _ h)

/-! ### tuples of written things -/
def litVals : List Expr → Nat → Option (List Value × Nat)
  | [], t => some ([], t)
  | .Constant .none _ _ :: r, t => (litVals r t).map fun x => (.none :: x.1, x.2)
  | .Constant (.int i) _ _ :: r, t => (litVals r (t + 1)).map fun x => (.int i t :: x.1, x.2)
  | .Constant (.str z) _ _ :: r, t => (litVals r (t + 1)).map fun x => (.str z t :: x.1, x.2)
  | _, _ => none
def tupO (vs : List Value) : Obj := { cls := .type "tuple", data := .seq vs.toArray }
/-- a term that makes a new tuple of such -/
def Tups (prog : Program) (w : World) (A : Around) (R : Sem Value) (vals : Nat → List Value × Nat) : Prop :=
  ∀ s : Shared, Ends prog w A R s (.ref s.heap.objs.size) { s with heap := s.heap.push (tupO (vals s.toks).1), toks := (vals s.toks).2 }

theorem lit_spliced {env : Env} {pos : Pos} : ∀ {elts : List Expr} {s : Shared} {vs : List Value} {t : Nat}, litVals elts s.toks = some (vs, t) → Ends prog w A (spliced (backTo pos (starEach elts env))) s vs { s with toks := t }
  | [], s, vs, t, h => by
    have h2 : (some ([], s.toks) : Option (List Value × Nat)) = some (vs, t) := h
    cases h2
    exact .pure
  | e :: r, s, vs, t, h => by
    have key : ∀ (v : Value) (t1 : Nat) (ws : List Value), Ends prog w A (eval e env) s v { s with toks := t1 } → litVals r t1 = some (ws, t) → vs = v :: ws → starEach (e :: r) env = (false, eval e env) :: starEach r env →
        Ends prog w A (spliced (backTo pos (starEach (e :: r) env))) s vs { s with toks := t } := by
      rintro v t1 ws a b rfl e1
      rw [e1]
      refine Ends.bind a (Ends.bind (v := [v]) .pure (Ends.bind (.hold (lit_spliced (s := { s with toks := t1 }) b)) .pure))
    cases e with
    | Constant c k p =>
      cases c with
      | none =>
        have h2 : (litVals r s.toks).map (fun x => (Value.none :: x.1, x.2)) = some (vs, t) := h
        obtain ⟨⟨ws, t2⟩, h3, h4⟩ := Option.map_eq_some_iff.mp h2
        cases h4
        exact key .none s.toks ws (fun _ _ h => wpAny_pure h) h3 rfl rfl
      | int i =>
        have h2 : (litVals r (s.toks + 1)).map (fun x => (Value.int i s.toks :: x.1, x.2)) = some (vs, t) := h
        obtain ⟨⟨ws, t2⟩, h3, h4⟩ := Option.map_eq_some_iff.mp h2
        cases h4
        exact key (.int i s.toks) (s.toks + 1) ws (fun _ _ h => wpAny_mkInt h) h3 rfl rfl
      | str z =>
        have h2 : (litVals r (s.toks + 1)).map (fun x => (Value.str z s.toks :: x.1, x.2)) = some (vs, t) := h
        obtain ⟨⟨ws, t2⟩, h3, h4⟩ := Option.map_eq_some_iff.mp h2
        cases h4
        exact key (.str z s.toks) (s.toks + 1) ws (fun _ _ h => wpAny_mkText h) h3 rfl rfl
      | _ => cases h
    | _ => cases h
theorem litVals_len : ∀ {elts : List Expr} {t : Nat} {vs : List Value} {t' : Nat}, litVals elts t = some (vs, t') → vs.length = elts.length
  | [], t, vs, t', h => by cases h; rfl
  | e :: r, t, vs, t', h => by
    cases e with
    | Constant c k p =>
      cases c with
      | none =>
        obtain ⟨⟨ws, t2⟩, h3, h4⟩ := Option.map_eq_some_iff.mp (show (litVals r t).map (fun x => (Value.none :: x.1, x.2)) = some (vs, t') from h)
        cases h4
        simp [litVals_len h3]
      | int i =>
        obtain ⟨⟨ws, t2⟩, h3, h4⟩ := Option.map_eq_some_iff.mp (show (litVals r (t + 1)).map (fun x => (Value.int i t :: x.1, x.2)) = some (vs, t') from h)
        cases h4
        simp [litVals_len h3]
      | str z =>
        obtain ⟨⟨ws, t2⟩, h3, h4⟩ := Option.map_eq_some_iff.mp (show (litVals r (t + 1)).map (fun x => (Value.str z t :: x.1, x.2)) = some (vs, t') from h)
        cases h4
        simp [litVals_len h3]
      | _ => cases h
    | _ => cases h
theorem tups_of {elts : List Expr} {k : Nat} {pos : Pos} {env : Env} {vals : Nat → List Value × Nat} (hv : ∀ t, litVals elts t = some (vals t)) (hl : elts.length ≤ sizeLine := by decide) :
    Tups prog w A (eval (.Tuple elts k pos) env) vals := fun s Q E h => by
  refine Ends.bind (v := ()) .stand (Ends.bind (lit_spliced (s := s) (hv s.toks)) fun Q E h => wpAny_newTuple h ?_) Q E h
  rw [litVals_len (hv s.toks)]
  exact hl
end Hd

end

set_option Elab.async false
set_option linter.all false
set_option maxRecDepth 100000
set_option maxHeartbeats 4000000
noncomputable section
namespace Hd
open PySem PySem.W PySem.Calls PyProof.Rows HandSHeadRun
variable {prog : Program} {w : World} {A : Around} {α β : Type}
abbrev TK (prog : Program) (w : World) : HeapKind prog w (List Str) := tupleKind (strKind prog w)
theorem is_keep {h h' : Heap} {k : List Str} {a : Addr} (x : (TK prog w).is h k a) (kp : ∀ o, h.get? a = some o → h'.get? a = some o) : (TK prog w).is h' k a := by
  obtain ⟨o, its, n, h1, h2⟩ := x
  exact ⟨o, its, n, kp _ h1, h2⟩
theorem dict_keep {h h' : Heap} {d : Addr} {xs : List (List Str × Addr × Value)} (x : h.DictOfH (TK prog w) d xs) (kp : ∀ b o, h.get? b = some o → h'.get? b = some o) : h'.DictOfH (TK prog w) d xs := by
  obtain ⟨o, es, ep, ho, hc, hd, he, his, hn⟩ := x
  exact ⟨o, es, ep, kp _ _ ho, hc, hd, he, fun y hy => is_keep (his y hy) (kp _), hn⟩
/-- all but d stays -/
def Keep (d : Addr) (h h' : Heap) : Prop := ∀ b o, b ≠ d → h.get? b = some o → h'.get? b = some o
theorem Keep.refl {d : Addr} {h : Heap} : Keep d h h := fun _ _ _ e => e
theorem Keep.trans {d : Addr} {h h1 h2 : Heap} (a : Keep d h h1) (b : Keep d h1 h2) : Keep d h h2 := fun c o n e => b c o n (a c o n e)
theorem push_keep {h : Heap} {o' : Obj} : ∀ b o, h.get? b = some o → (h.push o').get? b = some o := fun b o e => by
  rw [Heap.get?_push_ne h b o' (Nat.ne_of_lt (Heap.lt_size e))]
  exact e
theorem dict_other {h h' : Heap} {d d2 : Addr} {xs ys : List (List Str × Addr × Value)} (x : h.DictOfH (TK prog w) d xs) (y : h.DictOfH (TK prog w) d2 ys) (n : d ≠ d2) (k : Keep d2 h h') : h'.DictOfH (TK prog w) d xs := by
  obtain ⟨o, es, ep, ho, hc, hd, he, his, hn⟩ := x
  obtain ⟨o2, _, _, ho2, hc2, _⟩ := y
  refine ⟨o, es, ep, k _ _ n ho, hc, hd, he, fun z hz => ?_, hn⟩
  obtain ⟨o3, its, m, h1, h2, h3⟩ := his z hz
  refine ⟨o3, its, m, k _ _ (fun e => ?_) h1, h2, h3⟩
  rw [e, ho2] at h1
  cases h1
  rw [hc2.1] at h2
  exact absurd (Value.type.inj h2) (by decide)

/-! ### one key -/
def setF (prog : Program) (w : World) (d : Addr) (k : Str × Str) (key v : Value) : Sem Unit := do
  let _ ← fresh
  let _ ← fresh
  let _ ← fresh
  updateDictKeys d (·.push ⟨(TK prog w).hash [k.1, k.2], key, v⟩) (keyPart key)
theorem put_dict {h : Heap} {d a : Addr} {xs : List (List Str × Addr × Value)} {k : List Str} {v : Value} (hkey : (TK prog w).is h k a) (hm : h.DictOfH (TK prog w) d xs) (hno : k ∉ xs.map (·.1)) :
    (h.update d (Obj.mapDictKeys (·.push ⟨(TK prog w).hash k, .ref a, v⟩))).DictOfH (TK prog w) d (xs ++ [(k, a, v)]) := by
  obtain ⟨o, es, ep, ho, hc, hd, he, his, hn⟩ := hm
  refine ⟨_, _, ep + 1, Heap.get?_update_self _ ho (Obj.isFreed_of_dict (Obj.data_mapDictKeys hd _)), hc.mapDictKeys _, Obj.data_mapDictKeys hd _, ?_, ?_, ?_⟩
  · simp [he, entryOfKey]
  · intro x hx
    rcases List.mem_append.mp hx with hx | hx
    · exact (TK prog w).keeps (his x hx) ho hd (Heap.SameBut.update ..)
    · simp only [List.mem_singleton] at hx
      subst hx
      exact (TK prog w).keeps hkey ho hd (Heap.SameBut.update ..)
  · rw [List.map_append, List.nodup_append]
    refine ⟨hn, by simp, ?_⟩
    intro x hx y hy
    simp only [List.map_cons, List.map_nil, List.mem_singleton] at hy
    subst hy
    exact fun e => hno (e ▸ hx)
theorem upd_keep {h : Heap} {d : Addr} {f : Obj → Obj} : Keep d h (h.update d f) := fun b o n e => by
  rw [Heap.get?_update_ne h b d f n]
  exact e
/-- behind a key put in -/
def putS (prog : Program) (w : World) (d a : Addr) (k : List Str) (v : Value) (s : Shared) : Shared := { s with heap := s.heap.update d (Obj.mapDictKeys (·.push ⟨(TK prog w).hash k, .ref a, v⟩)), toks := s.toks + (TK prog w).draws k }
theorem set_real {s : Shared} {d a : Addr} {xs : List (List Str × Addr × Value)} {k : List Str} {v : Value} (hu : (TK prog w).room A) (hkey : (TK prog w).is s.heap k a) (hm : s.heap.DictOfH (TK prog w) d xs) (hno : k ∉ xs.map (·.1)) (hsz : xs.length ≤ 1000) :
    Ends prog w A (dictSet d (.ref a) v) s () (putS prog w d a k v s) := fun Q E h => by
  obtain ⟨o, es, ep, ho, hc, hd, he, his, hn⟩ := hm
  have hes : es.size ≤ sizeLine := by
    have e := size_of_entries he
    rw [sizeLine_eq]
    omega
  unfold dictSet
  refine wpAny_holding ?_
  refine wpAny_bind ((TK prog w).pyHash hu hkey ?_)
  unfold dictSetHashed
  refine wpAny_holding ?_
  refine wpAny_bind (wpAny_dictFind_heap (s := { s with toks := s.toks + (TK prog w).draws k }) hu hkey ho hd he his hn (fun _ => ?_) ?_)
  · exact wpAny_bind (wpAny_rule (wpAny_updateDictKeys (hz := hes) (s := { s with toks := s.toks + (TK prog w).draws k }) ho hd h))
  · intro j p hj
    refine absurd ?_ hno
    exact List.mem_map.mpr ⟨(k, p), List.mem_of_getElem? hj, rfl⟩
theorem set_find {s : Shared} {d a : Addr} {xs : List (List Str × Addr × Value)} {k : Str × Str} {v : Value} (hm : s.heap.DictOfH (TK prog w) d xs) (hsz : xs.length ≤ 1000) :
    Ends prog w A (setF prog w d k (.ref a) v) s () (putS prog w d a [k.1, k.2] v s) := fun Q E h => by
  obtain ⟨o, es, ep, ho, hc, hd, he, his, hn⟩ := hm
  have hes : es.size ≤ sizeLine := by
    have e := size_of_entries he
    rw [sizeLine_eq]
    omega
  unfold setF
  refine wpAny_bind (wpAny_fresh (wpAny_bind (wpAny_fresh (wpAny_bind (wpAny_fresh ?_)))))
  exact wpAny_updateDictKeys (hz := hes) (s := { s with toks := s.toks + 1 + 1 + 1 }) ho hd h

/-! ### pairs -/
def keyT (a b : Str) : Nat → List Value × Nat := fun t => ([.str a t, .str b (t + 1)], t + 2)
structure PairOk (prog : Program) (w : World) (A : Around) (x : Sem Value × Sem Value) (k : Str × Str) : Prop where
  key : Tups prog w A x.1 (keyT k.1 k.2)
  val : ∃ vals, Tups prog w A x.2 vals
inductive Oks (prog : Program) (w : World) (A : Around) : List (Sem Value × Sem Value) → List (Str × Str) → Prop
  | nil : Oks prog w A [] []
  | cons {x : Sem Value × Sem Value} {k : Str × Str} {xs : List (Sem Value × Sem Value)} {ks : List (Str × Str)} : PairOk prog w A x k → Oks prog w A xs ks → Oks prog w A (x :: xs) (k :: ks)
abbrev kk (k : Str × Str) : List Str := [k.1, k.2]
theorem key_new {h : Heap} {k : Str × Str} {t : Nat} : (TK prog w).is (h.push (tupO (keyT k.1 k.2 t).1)) (kk k) h.objs.size :=
  ⟨_, _, _, Heap.get?_push_size _ rfl, rfl, rfl, .cons (strKind_is _ _ _ _) (.cons (strKind_is _ _ _ _) .nil)⟩
/-- key and value made -/
theorem pair_made {x : Sem Value × Sem Value} {k : Str × Str} (ok : PairOk prog w A x k) (s : Shared) : ∃ (v : Value) (s1 s2 : Shared), Ends prog w A x.1 s (.ref s.heap.objs.size) s1 ∧ Ends prog w A x.2 s1 v s2 ∧ (TK prog w).is s2.heap (kk k) s.heap.objs.size ∧ (∀ b o, s.heap.get? b = some o → s2.heap.get? b = some o) ∧ s.heap.objs.size < s2.heap.objs.size := by
  obtain ⟨vals, hv⟩ := ok.val
  refine ⟨_, _, _, ok.key s, hv _, is_keep key_new (push_keep _), fun b o e => push_keep _ _ (push_keep _ _ e), ?_⟩
  show _ < ((s.heap.push _).push _).objs.size
  simp only [Heap.objs_push, Array.size_push]
  omega

def loopR (d : Addr) (pairs : List (Sem Value × Sem Value)) : Sem PUnit := forIn pairs PUnit.unit fun (x : Sem Value × Sem Value) (_ : PUnit) =>
  (do let kv ← x.1; let vv ← holding [kv] x.2; holding [kv, vv] (dictSet d kv vv); pure (ForInStep.yield PUnit.unit) : Sem (ForInStep PUnit))
def loopF (prog : Program) (w : World) (d : Addr) : List (Sem Value × Sem Value) → List (Str × Str) → Sem PUnit
  | x :: xs, k :: ks => do
    let kv ← x.1
    let vv ← x.2
    setF prog w d k kv vv
    loopF prog w d xs ks
  | _, _ => pure PUnit.unit
theorem loop_two {d : Addr} (hu : (TK prog w).room A) : ∀ {pairs : List (Sem Value × Sem Value)} {kl : List (Str × Str)} {acc : List (List Str × Addr × Value)} {s : Shared}, Oks prog w A pairs kl → s.heap.DictOfH (TK prog w) d acc → (acc.map (·.1) ++ kl.map kk).Nodup → acc.length + kl.length ≤ 1000 →
    ∃ (s' : Shared) (acc' : List (List Str × Addr × Value)), Ends prog w A (loopR d pairs) s () s' ∧ Ends prog w A (loopF prog w d pairs kl) s () s' ∧ s'.heap.DictOfH (TK prog w) d acc' ∧ acc'.map (·.1) = acc.map (·.1) ++ kl.map kk ∧ Keep d s.heap s'.heap
  | [], [], acc, s, _, hm, _, _ => ⟨s, acc, .pure, .pure, hm, by simp, .refl⟩
  | x :: pairs, k :: kl, acc, s, .cons ok oks, hm, hn, hl => by
    obtain ⟨v, s1, s2, e1, e2, ik, kp, _⟩ := pair_made ok s
    have hm2 := dict_keep hm kp
    have hno : kk k ∉ acc.map (·.1) := fun q => by
      rw [List.nodup_append] at hn
      exact hn.2.2 _ q _ (by simp) rfl
    have hla : acc.length ≤ 1000 := by
      simp only [List.length_cons] at hl
      omega
    have r1 := set_real (v := v) hu ik hm2 hno hla
    have f1 := set_find (A := A) (a := s.heap.objs.size) (k := k) (v := v) hm2 hla
    have hm3 : (putS prog w d s.heap.objs.size (kk k) v s2).heap.DictOfH (TK prog w) d (acc ++ [(kk k, s.heap.objs.size, v)]) := put_dict ik hm2 hno
    obtain ⟨s', acc', r2, f2, hm4, hk, kp2⟩ := loop_two hu (s := putS prog w d s.heap.objs.size (kk k) v s2) oks hm3 (by simpa using hn) (by simp only [List.length_append, List.length_cons, List.length_nil] at hl ⊢; omega)
    refine ⟨s', acc', ?_, ?_, hm4, by rw [hk]; simp, fun b o n e => kp2 b o n (upd_keep b o n (kp b o e))⟩
    · show Ends prog w A (forIn (x :: pairs) PUnit.unit _) s () s'
      rw [List.forIn_cons]
      exact Ends.bind (Ends.bind e1 (Ends.bind (.hold e2) (Ends.bind (.hold r1) .pure))) r2
    · exact Ends.bind e1 (Ends.bind e2 (Ends.bind f1 f2))
end Hd

end

set_option Elab.async false
set_option linter.all false
set_option maxRecDepth 100000
set_option maxHeartbeats 4000000
noncomputable section
namespace Hd
open PySem PySem.W PySem.Calls PyProof.Rows HandSHeadRun
variable {prog : Program} {w : World} {A : Around} {α β : Type}
/-! ### some pairs, evaluated first -/
inductive KeysAt (prog : Program) (w : World) (h : Heap) : List (Value × Value) → List (Str × Str) → Prop
  | nil : KeysAt prog w h [] []
  | cons {a : Addr} {v : Value} {k : Str × Str} {vs : List (Value × Value)} {ks : List (Str × Str)} : (TK prog w).is h (kk k) a → KeysAt prog w h vs ks → KeysAt prog w h ((.ref a, v) :: vs) (k :: ks)
theorem KeysAt.keep {h h' : Heap} : ∀ {vs : List (Value × Value)} {ks : List (Str × Str)}, KeysAt prog w h vs ks → (∀ b o k, (TK prog w).is h k b → h.get? b = some o → h'.get? b = some o) → KeysAt prog w h' vs ks
  | _, _, .nil, _ => .nil
  | _, _, .cons a r, kp => .cons (is_keep a fun o e => kp _ o _ a e) (r.keep kp)
theorem pairs_ends : ∀ {pairs : List (Sem Value × Sem Value)} {kl : List (Str × Str)} (s : Shared), Oks prog w A pairs kl →
    ∃ (vs : List (Value × Value)) (s' : Shared), Ends prog w A (evalPairs pairs) s vs s' ∧ KeysAt prog w s'.heap vs kl ∧ (∀ b o, s.heap.get? b = some o → s'.heap.get? b = some o)
  | [], [], s, _ => ⟨[], s, .pure, .nil, fun _ _ e => e⟩
  | x :: pairs, k :: kl, s, .cons ok oks => by
    obtain ⟨v, s1, s2, e1, e2, ik, kp, _⟩ := pair_made ok s
    obtain ⟨vs, s3, e3, ks, kp3⟩ := pairs_ends s2 oks
    exact ⟨(.ref s.heap.objs.size, v) :: vs, s3, Ends.bind e1 (Ends.bind (.hold e2) (Ends.bind (.hold e3) .pure)), .cons (is_keep ik (kp3 _)) ks, fun b o e => kp3 _ _ (kp _ _ e)⟩
def storeR (d : Addr) (vs : List (Value × Value)) : Sem PUnit := forIn vs PUnit.unit fun (x : Value × Value) (_ : PUnit) => (do dictSet d x.1 x.2; pure (ForInStep.yield PUnit.unit) : Sem (ForInStep PUnit))
def storeF (prog : Program) (w : World) (d : Addr) : List (Value × Value) → List (Str × Str) → Sem PUnit
  | x :: xs, k :: ks => do
    setF prog w d k x.1 x.2
    storeF prog w d xs ks
  | _, _ => pure PUnit.unit
theorem store_two {d : Addr} (hu : (TK prog w).room A) : ∀ {vs : List (Value × Value)} {kl : List (Str × Str)} {acc : List (List Str × Addr × Value)} {s : Shared}, KeysAt prog w s.heap vs kl → s.heap.DictOfH (TK prog w) d acc → (acc.map (·.1) ++ kl.map kk).Nodup → acc.length + kl.length ≤ 1000 →
    ∃ (s' : Shared) (acc' : List (List Str × Addr × Value)), Ends prog w A (storeR d vs) s () s' ∧ Ends prog w A (storeF prog w d vs kl) s () s' ∧ s'.heap.DictOfH (TK prog w) d acc' ∧ acc'.map (·.1) = acc.map (·.1) ++ kl.map kk ∧ Keep d s.heap s'.heap
  | [], [], acc, s, _, hm, _, _ => ⟨s, acc, .pure, .pure, hm, by simp, .refl⟩
  | _ :: vs, k :: kl, acc, s, .cons (a := a) (v := v) ik ks, hm, hn, hl => by
    have hno : kk k ∉ acc.map (·.1) := fun q => by
      rw [List.nodup_append] at hn
      exact hn.2.2 _ q _ (by simp) rfl
    have hla : acc.length ≤ 1000 := by
      simp only [List.length_cons] at hl
      omega
    have r1 := set_real (v := v) hu ik hm hno hla
    have f1 := set_find (A := A) (a := a) (k := k) (v := v) hm hla
    have hm3 : (putS prog w d a (kk k) v s).heap.DictOfH (TK prog w) d (acc ++ [(kk k, a, v)]) := put_dict ik hm hno
    have kp1 : Keep d s.heap (putS prog w d a (kk k) v s).heap := upd_keep
    have ks2 : KeysAt prog w (putS prog w d a (kk k) v s).heap vs kl := ks.keep fun b o k' hk e => by
      refine kp1 b o (fun q => ?_) e
      obtain ⟨o2, es, ep, ho, hc, _⟩ := hm
      obtain ⟨o3, its, m, h1, h2, _⟩ := hk
      rw [q, ho] at h1
      cases h1
      rw [hc.1] at h2
      exact absurd (Value.type.inj h2) (by decide)
    obtain ⟨s', acc', r2, f2, hm4, hk, kp2⟩ := store_two hu ks2 hm3 (by simpa using hn) (by simp only [List.length_append, List.length_cons, List.length_nil] at hl ⊢; omega)
    refine ⟨s', acc', ?_, ?_, hm4, by rw [hk]; simp, kp1.trans kp2⟩
    · show Ends prog w A (forIn ((.ref a, v) :: vs) PUnit.unit _) s () s'
      rw [List.forIn_cons]
      exact Ends.bind (Ends.bind r1 .pure) r2
    · exact Ends.bind f1 f2

/-! ### the two dicts of a long display -/
def newD : Obj := { cls := .type "dict", data := .dict #[] }
def longF (prog : Program) (w : World) (pairs : List (Sem Value × Sem Value)) (kl : List (Str × Str)) : Sem Addr := do
  let d ← alloc newD
  loopF prog w d pairs kl
  pure d
def shortF (prog : Program) (w : World) (pairs : List (Sem Value × Sem Value)) (kl : List (Str × Str)) : Sem Addr := do
  let d ← alloc newD
  let vs ← evalPairs pairs
  storeF prog w d vs kl
  pure d
theorem Ends.alloc {s : Shared} {o : Obj} : Ends prog w A (PySem.alloc o) s s.heap.objs.size { s with heap := s.heap.push o } := fun _ _ h => wpAny_alloc h
theorem long_two (hu : (TK prog w).room A) {pairs : List (Sem Value × Sem Value)} {kl : List (Str × Str)} (s : Shared) (oks : Oks prog w A pairs kl) (hn : (kl.map kk).Nodup) (hl : kl.length ≤ 1000) (h15 : 15 < pairs.length) :
    ∃ (s' : Shared) (acc : List (List Str × Addr × Value)), Ends prog w A (subDict pairs) s s.heap.objs.size s' ∧ Ends prog w A (longF prog w pairs kl) s s.heap.objs.size s' ∧ s'.heap.DictOfH (TK prog w) s.heap.objs.size acc ∧ acc.map (·.1) = kl.map kk ∧ (∀ b o, s.heap.get? b = some o → s'.heap.get? b = some o) := by
  obtain ⟨s', acc, r, f, hm, hk, kp⟩ := loop_two hu (s := { s with heap := s.heap.push newD }) oks (Heap.DictOfH.new s.heap) (by simpa using hn) (by simp only [List.length_nil]; omega)
  refine ⟨s', acc, ?_, ?_, hm, by simpa using hk, fun b o e => kp b o (Nat.ne_of_lt (Heap.lt_size e)) (push_keep _ _ e)⟩
  · unfold subDict
    refine Ends.bind .alloc (Ends.bind (v := ()) (Ends.hold ?_) .pure)
    rw [if_neg (by omega)]
    exact Ends.bind .rule (Ends.bind r .pure)
  · exact Ends.bind .alloc (Ends.bind f .pure)
theorem short_two (hu : (TK prog w).room A) {pairs : List (Sem Value × Sem Value)} {kl : List (Str × Str)} (s : Shared) (oks : Oks prog w A pairs kl) (hn : (kl.map kk).Nodup) (hl : kl.length ≤ 1000) (h15 : pairs.length ≤ 15) :
    ∃ (s' : Shared) (acc : List (List Str × Addr × Value)), Ends prog w A (subDict pairs) s s.heap.objs.size s' ∧ Ends prog w A (shortF prog w pairs kl) s s.heap.objs.size s' ∧ s'.heap.DictOfH (TK prog w) s.heap.objs.size acc ∧ acc.map (·.1) = kl.map kk ∧ (∀ b o, s.heap.get? b = some o → s'.heap.get? b = some o) := by
  obtain ⟨vs, s1, e1, ks, kp1⟩ := pairs_ends (prog := prog) (w := w) (A := A) { s with heap := s.heap.push newD } oks
  have hm0 : s1.heap.DictOfH (TK prog w) s.heap.objs.size [] := dict_keep (Heap.DictOfH.new s.heap) kp1
  obtain ⟨s', acc, r, f, hm, hk, kp⟩ := store_two hu ks hm0 (by simpa using hn) (by simp only [List.length_nil]; omega)
  refine ⟨s', acc, ?_, ?_, hm, by simpa using hk, fun b o e => kp b o (Nat.ne_of_lt (Heap.lt_size e)) (kp1 _ _ (push_keep _ _ e))⟩
  · unfold subDict
    refine Ends.bind .alloc (Ends.bind (v := ()) (Ends.hold ?_) .pure)
    rw [if_pos h15]
    exact Ends.bind e1 (Ends.hold (Ends.bind r .pure))
  · exact Ends.bind .alloc (Ends.bind e1 (Ends.bind f .pure))
end Hd

end

set_option Elab.async false
set_option linter.all false
set_option maxRecDepth 100000
set_option maxHeartbeats 4000000
noncomputable section
namespace Hd
open PySem PySem.W PySem.Calls PyProof.Rows HandSHeadRun
variable {prog : Program} {w : World} {A : Around} {α β : Type}
/-- behind an entry put in -/
def putE (d : Addr) (e : DictEntry) (s : Shared) : Shared := { s with heap := s.heap.update d (Obj.mapDictKeys (·.push ⟨e.hash, e.key, e.val⟩)) }
abbrev entK (prog : Program) (w : World) (y : List Str × Addr × Value) : DictEntry := entryOfKey (TK prog w) y
theorem put_ends {s : Shared} {d : Addr} {xs : List (List Str × Addr × Value)} {y : List Str × Addr × Value} (hu : (TK prog w).room A) (hkey : (TK prog w).is s.heap y.1 y.2.1) (hm : s.heap.DictOfH (TK prog w) d xs) (hno : y.1 ∉ xs.map (·.1)) (hsz : xs.length ≤ 1000) :
    Ends prog w A (dictPut d (entK prog w y).hash (entK prog w y).key (entK prog w y).val) s () (putE d (entK prog w y) s) := fun Q E h => by
  obtain ⟨o, es, ep, ho, hc, hd, he, his, hn⟩ := hm
  have hes : es.size ≤ sizeLine := by
    have e := size_of_entries he
    rw [sizeLine_eq]
    omega
  unfold dictPut
  refine wpAny_bind (wpAny_dictFind_heap hu hkey ho hd he his hn (fun _ => ?_) ?_)
  · exact wpAny_updateDictKeys (hz := hes) ho hd h
  · intro j p hj
    refine absurd ?_ hno
    exact List.mem_map.mpr ⟨(y.1, p), List.mem_of_getElem? hj, rfl⟩
theorem put_find {s : Shared} {d : Addr} {xs : List (List Str × Addr × Value)} {e : DictEntry} (hm : s.heap.DictOfH (TK prog w) d xs) (hsz : xs.length ≤ 1000) :
    Ends prog w A (updateDictKeys d (·.push ⟨e.hash, e.key, e.val⟩)) s () (putE d e s) := fun Q E h => by
  obtain ⟨o, es, ep, ho, hc, hd, he, his, hn⟩ := hm
  have hes : es.size ≤ sizeLine := by
    have e := size_of_entries he
    rw [sizeLine_eq]
    omega
  exact wpAny_updateDictKeys (hz := hes) ho hd h
theorem put_made {h : Heap} {d : Addr} {xs : List (List Str × Addr × Value)} {y : List Str × Addr × Value} (hkey : (TK prog w).is h y.1 y.2.1) (hm : h.DictOfH (TK prog w) d xs) (hno : y.1 ∉ xs.map (·.1)) :
    (h.update d (Obj.mapDictKeys (·.push ⟨(entK prog w y).hash, (entK prog w y).key, (entK prog w y).val⟩))).DictOfH (TK prog w) d (xs ++ [y]) := put_dict (a := y.2.1) (v := y.2.2) (k := y.1) hkey hm hno

def mergeF (d sub : Addr) : Sem PUnit := do
  let es ← dictEntries sub
  forIn es.toList PUnit.unit fun (e : DictEntry) (_ : PUnit) => (do updateDictKeys d (·.push ⟨e.hash, e.key, e.val⟩); pure (ForInStep.yield PUnit.unit) : Sem (ForInStep PUnit))
theorem is_at {h : Heap} {d : Addr} {xs : List (List Str × Addr × Value)} (hm : h.DictOfH (TK prog w) d xs) : ∀ x ∈ xs, (TK prog w).is h x.1 x.2.1 := by
  obtain ⟨o, es, ep, ho, hc, hd, he, his, hn⟩ := hm
  exact his
theorem merge_loop {d sub : Addr} (hu : (TK prog w).room A) (nd : d ≠ sub) {epoch : Nat} {es : Array DictEntry} {ys : List (List Str × Addr × Value)} {body : Nat → PUnit → Sem (ForInStep PUnit)}
    (hbody : ∀ (i : Nat) (s s1 : Shared) (e : DictEntry), es[i]? = some e → (∃ o, s.heap.get? sub = some o ∧ o.data = .dict es epoch) → (∃ o, s1.heap.get? sub = some o ∧ o.data = .dict es epoch) → Ends prog w A (dictPut d e.hash e.key e.val) s () s1 → Ends prog w A (body i PUnit.unit) s (ForInStep.yield PUnit.unit) s1)
    (he : es.toList = ys.map (entryOfKey (TK prog w))) : ∀ (zs pre : List (List Str × Addr × Value)) (acc : List (List Str × Addr × Value)) (s : Shared), ys = pre ++ zs → (∃ o, s.heap.get? sub = some o ∧ o.data = .dict es epoch) → s.heap.DictOfH (TK prog w) sub ys → s.heap.DictOfH (TK prog w) d acc →
      (acc.map (·.1) ++ zs.map (·.1)).Nodup → acc.length + zs.length ≤ 1000 →
      ∃ s' : Shared, Ends prog w A (forIn (List.range' pre.length zs.length) PUnit.unit body) s () s' ∧
        Ends prog w A (forIn (zs.map (entK prog w)) PUnit.unit fun (e : DictEntry) (_ : PUnit) => (do updateDictKeys d (·.push ⟨e.hash, e.key, e.val⟩); pure (ForInStep.yield PUnit.unit) : Sem (ForInStep PUnit))) s () s' ∧
        s'.heap.DictOfH (TK prog w) d (acc ++ zs) ∧ Keep d s.heap s'.heap
  | [], pre, acc, s, hy, ho, hs, hm, hn, hl => ⟨s, .pure, .pure, by simpa using hm, .refl⟩
  | z :: zs, pre, acc, s, hy, ho, hs, hm, hn, hl => by
    have hno : z.1 ∉ acc.map (·.1) := fun q => by
      rw [List.nodup_append] at hn
      exact hn.2.2 _ q _ (by simp) rfl
    have hla : acc.length ≤ 1000 := by
      simp only [List.length_cons] at hl
      omega
    have iz : (TK prog w).is s.heap z.1 z.2.1 := is_at hs z (by rw [hy]; simp)
    have ee : es[pre.length]? = some (entK prog w z) := by
      rw [entry_at he, hy]
      simp
    have kp1 : Keep d s.heap (putE d (entK prog w z) s).heap := upd_keep
    obtain ⟨o, ho1, ho2⟩ := ho
    have ho' : ∃ o, (putE d (entK prog w z) s).heap.get? sub = some o ∧ o.data = .dict es epoch := ⟨o, kp1 _ _ (Ne.symm nd) ho1, ho2⟩
    have r1 := hbody pre.length s _ _ ee ⟨o, ho1, ho2⟩ ho' (put_ends (prog := prog) (w := w) hu iz hm hno hla)
    have f1 := put_find (A := A) (e := entK prog w z) hm hla
    have hm2 : (putE d (entK prog w z) s).heap.DictOfH (TK prog w) d (acc ++ [z]) := put_made iz hm hno
    have hs2 : (putE d (entK prog w z) s).heap.DictOfH (TK prog w) sub ys := dict_other hs hm (Ne.symm nd) kp1
    obtain ⟨s', r2, f2, hm3, kp2⟩ := merge_loop hu nd hbody he zs (pre ++ [z]) (acc ++ [z]) (putE d (entK prog w z) s) (by rw [hy]; simp) ho' hs2 hm2 (by simpa using hn) (by simp only [List.length_append, List.length_cons, List.length_nil] at hl ⊢; omega)
    refine ⟨s', ?_, ?_, by simpa using hm3, kp1.trans kp2⟩
    · rw [List.length_cons, List.range'_succ, List.forIn_cons]
      have e : pre.length + 1 = (pre ++ [z]).length := by simp
      rw [e]
      exact Ends.bind r1 r2
    · rw [List.map_cons, List.forIn_cons]
      exact Ends.bind (Ends.bind f1 .pure) f2
theorem merge_two {d sub : Addr} {xs ys : List (List Str × Addr × Value)} {s : Shared} (hu : (TK prog w).room A) (nd : d ≠ sub) (hs0 : (sub == sysModules) = false) (hx : s.heap.DictOfH (TK prog w) d xs) (hy : s.heap.DictOfH (TK prog w) sub ys) (h0 : xs ≠ []) (hn : (xs.map (·.1) ++ ys.map (·.1)).Nodup) (hl : xs.length + ys.length ≤ 1000) :
    ∃ s' : Shared, Ends prog w A (mergeMapping d (.ref sub) false) s () s' ∧ Ends prog w A (mergeF d sub) s () s' ∧ s'.heap.DictOfH (TK prog w) d (xs ++ ys) ∧ Keep d s.heap s'.heap := by
  have hy' := hy
  have hx' := hx
  obtain ⟨o, es, ep, ho, hc, hd, he, his, _⟩ := hy'
  obtain ⟨o1, es1, ep1, ho1, hc1, hd1, he1, his1, _⟩ := hx'
  have esz : es.size = ys.length := size_of_entries he
  have es0 : es1.isEmpty = false := by
    have e := size_of_entries he1
    have : xs.length ≠ 0 := fun q => h0 (List.length_eq_zero_iff.mp q)
    rw [Array.isEmpty_eq_false_iff]
    intro q
    rw [q] at e
    simp at e
    omega
  have hT : s.TypeIs (.ref sub) "dict" := hy.typeIs
  have en : ∀ {s : Shared} {a : Addr} {o : Obj} {es : Array DictEntry} {ep : Nat}, s.heap.get? a = some o → o.data = .dict es ep → Ends prog w A (dictEntries a) s es s := fun ho hd Q E h => wpAny_dictEntries ho hd h
  have eo : ∀ {s : Shared} {a : Addr} {o : Obj} {es : Array DictEntry} {ep : Nat}, s.heap.get? a = some o → o.data = .dict es ep → Ends prog w A (dictEpoch a) s ep s := fun ho hd Q E h => wpAny_dictEpoch ho hd h
  have inst : Ends prog w A (isInstance (.ref sub) (.type "dict")) s true s := fun Q E h => wpAny_isInstance hT isSubtype_dict_dict h
  have spec : Ends prog w A (specialOf (.ref sub) "__iter__") s (some (.builtin "dict.__iter__")) s := fun Q E h => wpAny_specialOf hT F.slot_dict_iter.lookup h
  have main : ∀ (body : Nat → PUnit → Sem (ForInStep PUnit)), (∀ (i : Nat) (s s1 : Shared) (e : DictEntry), es[i]? = some e → (∃ o, s.heap.get? sub = some o ∧ o.data = .dict es ep) → (∃ o, s1.heap.get? sub = some o ∧ o.data = .dict es ep) → Ends prog w A (dictPut d e.hash e.key e.val) s () s1 → Ends prog w A (body i PUnit.unit) s (ForInStep.yield PUnit.unit) s1) →
      ∃ s' : Shared, Ends prog w A (forIn (List.range es.size) PUnit.unit body) s () s' ∧ Ends prog w A (mergeF d sub) s () s' ∧ s'.heap.DictOfH (TK prog w) d (xs ++ ys) ∧ Keep d s.heap s'.heap := fun body hbody => by
    obtain ⟨s', r, f, hm, kp⟩ := merge_loop hu nd hbody he ys [] xs s rfl ⟨o, ho, hd⟩ hy hx hn hl
    refine ⟨s', ?_, ?_, hm, kp⟩
    · rw [List.range_eq_range', esz]
      exact r
    · refine Ends.bind (en ho hd) ?_
      rw [he]
      exact f
  obtain ⟨body, hb, k⟩ : ∃ body : Nat → PUnit → Sem (ForInStep PUnit), (∀ (i : Nat) (s s1 : Shared) (e : DictEntry), es[i]? = some e → (∃ o, s.heap.get? sub = some o ∧ o.data = .dict es ep) → (∃ o, s1.heap.get? sub = some o ∧ o.data = .dict es ep) → Ends prog w A (dictPut d e.hash e.key e.val) s () s1 → Ends prog w A (body i PUnit.unit) s (ForInStep.yield PUnit.unit) s1) ∧
      ∀ s' : Shared, Ends prog w A (forIn (List.range es.size) PUnit.unit body) s () s' → Ends prog w A (mergeMapping d (.ref sub) false) s () s' := by
    apply Exists.intro
    refine And.intro ?spec ?k
    case k =>
      intro s' r
      unfold mergeMapping
      dsimp only
      refine Ends.bind inst ?_
      rw [if_pos rfl]
      refine Ends.bind spec (Ends.bind .pure ?_)
      rw [beq_self_eq_true]
      dsimp only
      rw [if_neg (by rw [hs0]; exact Bool.false_ne_true)]
      refine Ends.bind (en ho1 hd1) ?_
      rw [es0, if_neg Bool.false_ne_true]
      exact Ends.bind (en ho hd) (Ends.bind (eo ho hd) (Ends.bind r .pure))
    case spec =>
      intro i s s1 e hi ⟨o, h1, h2⟩ ⟨o', h3, h4⟩ hp
      refine Ends.bind (en h1 h2) ?_
      rw [hi]
      dsimp only
      refine Ends.bind (v := ()) (Ends.hold ?_) (Ends.bind (eo h3 h4) ?_)
      · rw [if_neg Bool.false_ne_true]
        exact hp
      · rw [bne_self_eq_false, if_neg Bool.false_ne_true]
        exact .pure
  obtain ⟨s', r, f, hm, kp⟩ := main body hb
  exact ⟨s', k s' r, f, hm, kp⟩
end Hd

end

set_option Elab.async false
set_option linter.all false
set_option maxRecDepth 100000
set_option maxHeartbeats 4000000
noncomputable section
namespace Hd
open PySem PySem.W PySem.Calls PyProof.Rows HandSHeadRun
variable {prog : Program} {w : World} {A : Around} {α β : Type}
def dispF (prog : Program) (w : World) (p1 p2 : List (Sem Value × Sem Value)) (k1 k2 : List (Str × Str)) : Sem Value := do
  let d ← longF prog w p1 k1
  let sub ← shortF prog w p2 k2
  mergeF d sub
  pure (.ref d)
abbrev It : Type := Option (Sem Value) × Sem Value
abbrev DS : Type := Option Addr × List (Sem Value × Sem Value)
def itOf (p : Sem Value × Sem Value) : It := (some p.1, p.2)
section
variable {body : It → DS → Sem (ForInStep DS)}
  (c1 : ∀ (p : Sem Value × Sem Value) (m : Option Addr) (run : List (Sem Value × Sem Value)) (s : Shared), (run ++ [p]).length ≠ 17 → Ends prog w A (body (itOf p) (m, run)) s (ForInStep.yield (m, run ++ [p])) s)
  (c2 : ∀ (p : Sem Value × Sem Value) (run : List (Sem Value × Sem Value)) (s s1 : Shared) (d : Addr), (run ++ [p]).length = 17 → Ends prog w A (subDict (run ++ [p])) s d s1 → Ends prog w A (body (itOf p) (none, run)) s (ForInStep.yield (some d, [])) s1)
include c1
theorem disp_plain {rest : List It} {m : Option Addr} {v : DS} {s s' : Shared} : ∀ (ps run : List (Sem Value × Sem Value)), run.length + ps.length < 17 → Ends prog w A (forIn rest (m, run ++ ps) body) s v s' → Ends prog w A (forIn (ps.map itOf ++ rest) (m, run) body) s v s'
  | [], run, _, h => by
    rw [List.append_nil] at h
    exact h
  | p :: ps, run, hl, h => by
    simp only [List.length_cons] at hl
    rw [List.map_cons, List.cons_append, List.forIn_cons]
    refine Ends.bind (c1 p m run s (by simp only [List.length_append, List.length_cons, List.length_nil]; omega)) ?_
    refine disp_plain ps (run ++ [p]) (by simp only [List.length_append, List.length_cons, List.length_nil]; omega) ?_
    rw [List.append_assoc]
    exact h
include c2
theorem disp_loop {q p2 : List (Sem Value × Sem Value)} {x : Sem Value × Sem Value} {s s1 : Shared} {d : Addr} (h1 : q.length = 16) (h2 : p2.length < 17) (r : Ends prog w A (subDict (q ++ [x])) s d s1) : Ends prog w A (forIn ((q ++ [x] ++ p2).map itOf) (none, []) body) s (some d, p2) s1 := by
  have e : (q ++ [x] ++ p2).map itOf = q.map itOf ++ (itOf x :: (p2.map itOf ++ [])) := by simp
  rw [e]
  refine disp_plain c1 q [] (by simp only [List.length_nil]; omega) ?_
  rw [List.nil_append, List.forIn_cons]
  refine Ends.bind (c2 x q s s1 d (by simp only [List.length_append, List.length_cons, List.length_nil]; omega) r) ?_
  refine disp_plain c1 p2 [] (by simp only [List.length_nil]; omega) ?_
  rw [List.nil_append, List.forIn_nil]
  exact .pure
end
theorem disp_real {q p2 : List (Sem Value × Sem Value)} {x : Sem Value × Sem Value} {s s1 s2 s3 : Shared} {d sub : Addr} (h1 : q.length = 16) (h2 : p2.length < 17) (h0 : p2 ≠ []) (r1 : Ends prog w A (subDict (q ++ [x])) s d s1) (r2 : Ends prog w A (subDict p2) s1 sub s2) (r3 : Ends prog w A (mergeMapping d (.ref sub) false) s2 () s3) :
    Ends prog w A (dictDisplay ((q ++ [x] ++ p2).map itOf)) s (.ref d) s3 := by
  unfold dictDisplay
  dsimp only
  refine Ends.bind (disp_loop ?_ ?_ h1 h2 r1) ?_
  · intro p m run s hl
    dsimp only [itOf]
    rw [if_neg (by rw [beq_iff_eq]; exact hl)]
    exact .pure
  · intro p run s s1 d hl r
    dsimp only [itOf]
    rw [if_pos (by rw [beq_iff_eq]; exact hl), if_neg (by simp)]
    exact Ends.bind (Ends.bind r .pure) .pure
  · dsimp only
    have e : p2.isEmpty = false := by
      cases p2 with
      | nil => exact absurd rfl h0
      | cons => rfl
    rw [e, if_neg Bool.false_ne_true]
    exact Ends.bind (Ends.bind (.hold r2) (Ends.bind (.onRaise (.hold r3)) .pure)) .pure
theorem disp_two (hu : (TK prog w).room A) {q p2 : List (Sem Value × Sem Value)} {x : Sem Value × Sem Value} {k1 k2 : List (Str × Str)} {s : Shared} (o1 : Oks prog w A (q ++ [x]) k1) (o2 : Oks prog w A p2 k2) (hn : ((k1 ++ k2).map kk).Nodup) (h1 : q.length = 16) (h2 : p2.length ≤ 15) (h3 : p2 ≠ []) (hl : k1.length + k2.length ≤ 1000) (h0 : k1 ≠ []) (hlow : sysModules < s.heap.objs.size) :
    ∃ s' : Shared, Ends prog w A (dictDisplay ((q ++ [x] ++ p2).map itOf)) s (.ref s.heap.objs.size) s' ∧ Ends prog w A (dispF prog w (q ++ [x]) p2 k1 k2) s (.ref s.heap.objs.size) s' := by
  have h15 : 15 < (q ++ [x]).length := by
    simp only [List.length_append, List.length_cons, List.length_nil]
    omega
  rw [List.map_append, List.nodup_append] at hn
  obtain ⟨s1, x1, r1, f1, m1, e1, kp1⟩ := long_two hu s o1 hn.1 (by omega) h15
  obtain ⟨s2, x2, r2, f2, m2, e2, kp2⟩ := short_two hu s1 o2 hn.2.1 (by omega) h2
  have m1' := dict_keep m1 kp2
  have lt1 : s.heap.objs.size < s1.heap.objs.size := by
    obtain ⟨o, _, _, ho, _⟩ := m1
    exact Heap.lt_size ho
  have l1 : x1.length = k1.length := by
    have := congrArg List.length e1
    simpa using this
  have l2 : x2.length = k2.length := by
    have := congrArg List.length e2
    simpa using this
  obtain ⟨s3, r3, f3, _, _⟩ := merge_two (A := A) hu (Nat.ne_of_lt lt1) (beq_eq_false_iff_ne.mpr (Nat.ne_of_gt (Nat.lt_trans hlow lt1))) m1' m2 (fun q => h0 (List.length_eq_zero_iff.mp (by rw [← l1, q]; rfl))) (by rw [e1, e2, List.nodup_append]; exact hn) (by omega)
  exact ⟨s3, disp_real h1 (by omega) h3 r1 r2 r3, Ends.bind f1 (Ends.bind f2 (Ends.bind f3 .pure))⟩
end Hd

end

set_option Elab.async false
set_option linter.all false
set_option maxRecDepth 100000
set_option maxHeartbeats 4000000
noncomputable section
namespace Hd
open PySem PySem.W PySem.Calls PyProof.Rows HandSHeadRun
variable {prog : Program} {w : World} {A : Around} {α β : Type}
def keyOfE : Option Expr → Option (Str × Str)
  | some (.Tuple [.Constant (.str a) _ _, .Constant (.str b) _ _] _ _) => some (a, b)
  | _ => none
def litOk : List Expr → Bool
  | [] => true
  | .Constant .none _ _ :: r => litOk r
  | .Constant (.int _) _ _ :: r => litOk r
  | .Constant (.str _) _ _ :: r => litOk r
  | _ => false
def valOk : Expr → Bool
  | .Tuple elts _ _ => litOk elts && decide (elts.length ≤ 1000)
  | _ => false
def keysOf : List (Option Expr) → List Expr → Option (List (Str × Str))
  | [], [] => some []
  | k :: ks, v :: vs => match keyOfE k, valOk v, keysOf ks vs with
    | some k, true, some r => some (k :: r)
    | _, _, _ => none
  | _, _ => none
theorem lit_some : ∀ {elts : List Expr} (t : Nat), litOk elts = true → ∃ x, litVals elts t = some x
  | [], t, _ => ⟨_, rfl⟩
  | e :: r, t, h => by
    cases e with
    | Constant c k p =>
      cases c with
      | none =>
        obtain ⟨x, hx⟩ := lit_some t (show litOk r = true from h)
        exact ⟨_, by show (litVals r t).map _ = _; rw [hx]; rfl⟩
      | int i =>
        obtain ⟨x, hx⟩ := lit_some (t + 1) (show litOk r = true from h)
        exact ⟨_, by show (litVals r (t + 1)).map _ = _; rw [hx]; rfl⟩
      | str z =>
        obtain ⟨x, hx⟩ := lit_some (t + 1) (show litOk r = true from h)
        exact ⟨_, by show (litVals r (t + 1)).map _ = _; rw [hx]; rfl⟩
      | _ => cases h
    | _ => cases h
theorem key_tups {k : Option Expr} {a b : Str} (h : keyOfE k = some (a, b)) : ∃ e, k = some e ∧ ∀ env : Env, Tups prog w A (eval e env) (keyT a b) := by
  unfold keyOfE at h
  split at h
  · cases h
    exact ⟨_, rfl, fun env => tups_of (fun t => rfl) (by rw [sizeLine_eq]; simp only [List.length_cons, List.length_nil]; omega)⟩
  · cases h
theorem val_tups {v : Expr} (h : valOk v = true) : ∃ vals, ∀ (env : Env) (pos : Pos), Tups prog w A (do let x ← eval v env; standAt pos; pure x) vals := by
  unfold valOk at h
  split at h
  · rename_i elts k p
    obtain ⟨h1, h2⟩ := Bool.and_eq_true_iff.mp h
    have h2 := of_decide_eq_true h2
    refine ⟨fun t => (litVals elts t).getD ([], 0), fun env pos s => ?_⟩
    have t := tups_of (prog := prog) (w := w) (A := A) (elts := elts) (k := k) (pos := p) (env := env) (vals := fun t => (litVals elts t).getD ([], 0)) (fun t => by
      obtain ⟨x, hx⟩ := lit_some t h1
      rw [hx]
      rfl) (by rw [sizeLine_eq]; omega)
    exact Ends.bind (t s) (Ends.bind .stand .pure)
  · cases h
theorem oks_of {env : Env} {pos : Pos} : ∀ {keys : List (Option Expr)} {values : List Expr} {kl : List (Str × Str)}, keysOf keys values = some kl → Oks prog w A (pairTrees keys values env pos) kl ∧ keys.all (·.isSome) = true ∧ keys.length = values.length
  | [], [], kl, h => by
    cases h
    exact ⟨.nil, rfl, rfl⟩
  | [], _ :: _, _, h => by cases h
  | _ :: _, [], _, h => by cases h
  | k :: ks, v :: vs, kl, h => by
    have h2 : (match keyOfE k, valOk v, keysOf ks vs with
      | some k, true, some r => some (k :: r)
      | _, _, _ => none) = some kl := h
    cases e1 : keyOfE k with
    | none => rw [e1] at h2; cases h2
    | some ab =>
      obtain ⟨a, b⟩ := ab
      cases e2 : valOk v with
      | false => rw [e1, e2] at h2; cases h2
      | true =>
        cases e3 : keysOf ks vs with
        | none => rw [e1, e2, e3] at h2; cases h2
        | some r =>
          rw [e1, e2, e3] at h2
          cases h2
          obtain ⟨e, rfl, hk⟩ := key_tups (prog := prog) (w := w) (A := A) e1
          obtain ⟨vals, hv⟩ := val_tups (prog := prog) (w := w) (A := A) e2
          obtain ⟨o, q1, q2⟩ := oks_of (env := env) (pos := pos) e3
          refine ⟨.cons ⟨hk env, vals, hv env pos⟩ o, ?_, ?_⟩
          · simpa using q1
          · simp [q2]
theorem Oks.len : ∀ {ps : List (Sem Value × Sem Value)} {kl : List (Str × Str)}, Oks prog w A ps kl → ps.length = kl.length
  | _, _, .nil => rfl
  | _, _, .cons _ r => by simp [r.len]
theorem Oks.take : ∀ {ps : List (Sem Value × Sem Value)} {kl : List (Str × Str)} (n : Nat), Oks prog w A ps kl → Oks prog w A (ps.take n) (kl.take n)
  | _, _, 0, _ => by simpa using Oks.nil
  | _, _, _ + 1, .nil => .nil
  | _, _, n + 1, .cons a r => .cons a (r.take n)
theorem Oks.drop : ∀ {ps : List (Sem Value × Sem Value)} {kl : List (Str × Str)} (n : Nat), Oks prog w A ps kl → Oks prog w A (ps.drop n) (kl.drop n)
  | _, _, 0, h => h
  | _, _, _ + 1, .nil => .nil
  | _, _, n + 1, .cons a r => r.drop n
/-- the display, without a look -/
def dictF (prog : Program) (w : World) (kl : List (Str × Str)) (keys : List (Option Expr)) (values : List Expr) (pos : Pos) (env : Env) : Sem Value := dispF prog w ((pairTrees keys values env pos).take 17) ((pairTrees keys values env pos).drop 17) (kl.take 17) (kl.drop 17)
theorem dict_two (hu : (TK prog w).room A) {keys : List (Option Expr)} {values : List Expr} {kl : List (Str × Str)} {pos : Pos} {env : Env} {s : Shared} (hk : keysOf keys values = some kl) (hn : (kl.map kk).Nodup) (h1 : 17 < kl.length) (h2 : kl.length ≤ 32) (hlow : sysModules < s.heap.objs.size) :
    ∃ (v : Value) (s' : Shared), Ends prog w A (eval (.Dict keys values pos) env) s v s' ∧ Ends prog w A (dictF prog w kl keys values pos env) s v s' := by
  obtain ⟨o, q1, q2⟩ := oks_of (prog := prog) (w := w) (A := A) (env := env) (pos := pos) hk
  have hl := o.len
  generalize hP : pairTrees keys values env pos = ps at o hl
  have h16 : 16 < ps.length := by omega
  have e17 : ps.take 17 = ps.take 16 ++ [ps[16]] := by rw [List.take_succ_eq_append_getElem h16]
  obtain ⟨s', a, b⟩ := disp_two (A := A) (q := ps.take 16) (x := ps[16]) (p2 := ps.drop 17) (k1 := kl.take 17) (k2 := kl.drop 17) (s := s) hu (by rw [← e17]; exact o.take 17) (o.drop 17) (by rw [List.take_append_drop]; exact hn) (by rw [List.length_take]; omega) (by rw [List.length_drop]; omega)
    (fun q => by have := congrArg List.length q; rw [List.length_drop, List.length_nil] at this; omega) (by rw [List.length_take, List.length_drop]; omega) (fun q => by have := congrArg List.length q; rw [List.length_take, List.length_nil] at this; omega) hlow
  refine ⟨.ref s.heap.objs.size, s', ?_, ?_⟩
  · rw [arm_eval_Dict, zip_pairTrees keys values env pos q1 q2, hP]
    rw [← e17, List.take_append_drop] at a
    exact Ends.bind .stand a
  · unfold dictF
    rw [hP, e17]
    exact b
end Hd

end

set_option Elab.async false
set_option linter.all false
set_option maxRecDepth 100000
set_option maxHeartbeats 4000000
noncomputable section
namespace Hd
open PySem PySem.W PySem.Calls PyProof.Rows HandSHeadRun
variable {p : Program} {w : World}
/-- where the top is cut: the statements ahead of the dict, the dict's own, those behind it -/
structure Cut where
  pre : List Stmt
  targets : List Expr
  keys : List (Option Expr)
  values : List Expr
  dpos : Pos
  pos : Pos
  rest : List Stmt
  kl : List (Str × Str)
def Cut.val (c : Cut) : Expr := .Dict c.keys c.values c.dpos
def Cut.stmts (c : Cut) : List Stmt := c.pre ++ .Assign c.targets c.val c.pos :: c.rest
def bodyEnv (p : Program) (code : Value) (frame : Addr) : Env := { scope := p.main.scope, locals := mainNs, globals := mainNs, cells := [], code, frame := some frame }
def encA (code : Value) (frame : Addr) : Sem Fin := match code with
  | .ref c => pure (.done (.ret (.str ⟨#[c, frame]⟩ 0)))
  | _ => unsupported ""
def pieceA (p : Program) : Sem Fin := do
  let code ← moduleCode p.main
  let frame ← newBodyFrame code mainNs mainNs
  encA code frame
def swapB (c : Cut) (env : Env) : Sem Fin := do
  standAt c.pos
  let b ← swapsWithSole c.targets c.val c.pos.line env
  match b with
  | true => unsupported ""
  | false => pure (.done .next)
def pieceB (c : Cut) (env : Env) : Sem Fin := do
  blockStart c.stmts env
  let f ← execs c.pre env
  match f with
  | .next => swapB c env
  | _ => unsupported ""
def pieceP (p : Program) (w : World) (c : Cut) (env : Env) : Sem Fin := do
  let v ← dictF p w c.kl c.keys c.values c.dpos env
  pure (.done (.ret v))
def storeC (c : Cut) (env : Env) (v : Value) : Sem Flow := do
  assignStores env v (← swappedStores c.targets c.val env) ((assignEach c.targets env).map (·.2))
def pieceC (c : Cut) (env : Env) (v : Value) : Sem Fin := do
  let f ← storeC c env v
  let g ← (match f with
    | .next => execs c.rest env
    | f => pure f)
  pure (.done g)
abbrev callC : Code := .builtin "claim.caller" {}
def baseB (q : Pos) : List Frame := [.ret (fun _ => .pure (.done .next)) none false [] callC q []]
def topC (den : Code → Sem Fin) (st : SharedT → Thread → Option (SharedT × Thread)) (p : Program) (w : World) (c : Cut) (M : Nat) (env : Env) (q1 q3 : Pos) (s : SharedT) : Option SharedT :=
  match goR den st (baseB q1) M s (pieceB c env) (.body c.stmts env) q1 [] with
  | some (sB, .next) => match Nat.blt 1 sB.n with
    | true => match goR den st (baseB q1) M sB (pieceP p w c env) (.body c.stmts env) q1 [] with
      | some (sP, .ret v) => match goR den st (baseB q1) M sP (pieceC c env v) (.body c.stmts env) q3 [] with
        | some (sC, .next) => some sC
        | _ => none
      | _ => none
    | false => none
  | _ => none
def topG (den : Code → Sem Fin) (st : SharedT → Thread → Option (SharedT × Thread)) (p : Program) (w : World) (c : Cut) (M : Nat) (q1 q3 : Pos) (s : SharedT) : Option SharedT :=
  match goR den st [] M s (pieceA p) callC default [] with
  | some (sA, .ret (.str ⟨⟨[co, fr]⟩⟩ _)) => topC den st p w c M (bodyEnv p (.ref co) fr) q1 q3 sA
  | _ => none

theorem runs_det {M : Model} {c : Code} {base : List Frame} {q : Pos} {t : Sem Fin} {s s1 s2 : Shared} {e1 e2 : End} (a : Runs M (Ctx.of c base) q t [] s e1 s1) (b : Runs M (Ctx.of c base) q t [] s e2 s2) : s1 = s2 ∧ e1 = e2 :=
  Reach.det (runs_iff_reach.mp a) (runs_iff_reach.mp b)
theorem wp_execs_app {M : Model} {Γ : Ctx} {env : Env} {r : List Stmt} {Q : Flow → Pos → Shared → Prop} {E : Value → Pos → Shared → Prop} : ∀ {l : List Stmt} {q : Pos} {s : Shared},
    Sem.wp M Γ (execs l env) (fun f q' s' => match f with
      | .next => Sem.wp M Γ (execs r env) Q E q' s'
      | f => Q f q' s') E q s → Sem.wp M Γ (execs (l ++ r) env) Q E q s
  | [], q, s, h => h
  | x :: l, q, s, h => by
    have h1 : Sem.wp M Γ (exec x env >>= fun f => match f with
      | .next => execs l env
      | f => pure f) (fun f q' s' => match f with
      | .next => Sem.wp M Γ (execs r env) Q E q' s'
      | f => Q f q' s') E q s := h
    show Sem.wp M Γ (exec x env >>= fun f => match f with
      | .next => execs (l ++ r) env
      | f => pure f) Q E q s
    rw [Sem.wp_bind'] at h1 ⊢
    refine Sem.wp_mono M Γ _ (fun f q' s' h2 => ?_) (fun _ _ _ h => h) q s h1
    cases f with
    | next => exact wp_execs_app h2
    | brk => exact h2
    | cont => exact h2
    | ret v => exact h2
end Hd

end

set_option Elab.async false
set_option linter.all false
set_option maxRecDepth 100000
set_option maxHeartbeats 4000000
noncomputable section
namespace Hd
open PySem PySem.W PySem.Calls PyProof.Rows HandSHeadRun
variable {p : Program} {w : World}
abbrev Γ0 : Ctx := ⟨callC, none, none, [], none⟩
theorem ctx0 : Ctx.of callC [] = Γ0 := rfl
theorem ctx1 (c : Code) (q : Pos) : Ctx.of c (baseB q) = Γ0.enter c none q := rfl
/-- what stands around the body -/
abbrev bodyA (c : Code) : Around := (callerA.mark none).under c
theorem body_in (c : Code) (q : Pos) : (Γ0.enter c none q).In (bodyA c) := (Ctx.In.enter caller_in c none q (by intro x; cases x)).in
theorem end_of {M : Model} {Γ : Ctx} {R : Result → Shared → Prop} {f : Flow} {q : Pos} {s : Shared} {E : Value → Pos → Shared → Prop} (h : Sem.wp M Γ (pure (.done f) : Sem Fin) (Sem.finPost M Γ R) E q s) : R (.ok f) s := by
  rw [Sem.wp_pure'] at h
  exact h
theorem of_end {M : Model} {Γ : Ctx} {R : Result → Shared → Prop} {f : Flow} {q : Pos} {s : Shared} {E : Value → Pos → Shared → Prop} (h : R (.ok f) s) : Sem.wp M Γ (pure (.done f) : Sem Fin) (Sem.finPost M Γ R) E q s := by
  rw [Sem.wp_pure']
  exact h
theorem no_uns {M : Model} {Γ : Ctx} {α : Type} {Q : α → Pos → Shared → Prop} {E : Value → Pos → Shared → Prop} {x : String} {q : Pos} {s : Shared} (h : Sem.wp M Γ (unsupported x : Sem α) Q E q s) : False := by
  have h2 : Sem.wp M Γ (.unsupported x : Sem α) Q E q s := h
  rw [Sem.wp_unsupported] at h2
  exact h2
abbrev Bad : Value → Pos → Shared → Prop := fun _ _ _ => False

theorem body_wp {c : Cut} {M : Nat} {env : Env} {q : Pos} {s : SharedT} {R : Shared → Prop} (hk : keysOf c.keys c.values = some c.kl) (hn : (c.kl.map kk).Nodup) (h1 : 17 < c.kl.length) (h2 : c.kl.length ≤ 32)
    (hu : (bodyA (.body c.stmts env)).units < cLine) (run : ∀ q3, ∃ sC, topC (denote table) (stepT (denote table) p w) p w c M env q q3 s = some sC ∧ R sC.abs) :
    Sem.wp (model p w) (Γ0.enter (.body c.stmts env) none q) (denote table (.body c.stmts env)) (Sem.finPost (model p w) (Γ0.enter (.body c.stmts env) none q) fun r z => r = .ok .next ∧ R z) Bad q s.abs := by
  -- the pieces
  obtain ⟨sB, sP, v, eB, lB, eP, eC⟩ : ∃ (sB sP : SharedT) (v : Value), goR (denote table) (stepT (denote table) p w) (baseB q) M s (pieceB c env) (.body c.stmts env) q [] = some (sB, .next) ∧ Nat.blt 1 sB.n = true ∧
      goR (denote table) (stepT (denote table) p w) (baseB q) M sB (pieceP p w c env) (.body c.stmts env) q [] = some (sP, .ret v) ∧
      ∀ q3, ∃ sC, goR (denote table) (stepT (denote table) p w) (baseB q) M sP (pieceC c env v) (.body c.stmts env) q3 [] = some (sC, .next) ∧ R sC.abs := by
    obtain ⟨sC0, h0, _⟩ := run q
    unfold topC at h0 run
    split at h0
    · rename_i sB eB
      rw [eB] at run
      dsimp only at run
      split at h0
      · rename_i lB
        rw [lB] at run
        dsimp only at run
        split at h0
        · rename_i sP v eP
          rw [eP] at run
          dsimp only at run
          refine ⟨sB, sP, v, eB, lB, eP, fun q3 => ?_⟩
          obtain ⟨sC, h3, hR⟩ := run q3
          split at h3
          · rename_i sC' eC
            cases h3
            exact ⟨_, eC, hR⟩
          · cases h3
        · cases h0
      · cases h0
    · cases h0
  have wB := goR_wp eB
  have wP := goR_wp eP
  rw [ctx1] at wB wP
  -- the dict
  have hlow : sysModules < sB.abs.heap.objs.size := by
    show 1 < (absHeap sB.tree sB.n sB.life).objs.size
    rw [absHeap_size]
    exact Nat.le_of_ble_eq_true lB
  obtain ⟨v0, sD, dR, dF⟩ := dict_two (prog := p) (w := w) (A := bodyA (.body c.stmts env)) (keys := c.keys) (values := c.values) (pos := c.dpos) (env := env) (s := sB.abs) hu hk hn h1 h2 hlow
  have wF : Sem.wp (model p w) (Γ0.enter (.body c.stmts env) none q) (pieceP p w c env) (Sem.finPost (model p w) (Γ0.enter (.body c.stmts env) none q) fun r z => r = Except.ok (Flow.ret v0) ∧ z = sD) (fun e _ z => (Except.error e : Result) = Except.ok (Flow.ret v0) ∧ z = sD) q sB.abs := by
    unfold pieceP
    rw [Sem.wp_bind']
    refine Sem.wp_mono _ _ _ (fun x p' z h => ?_) (fun _ _ _ h => h.elim) q _ (dF (fun x z => x = v0 ∧ z = sD) (fun _ _ => False) ⟨rfl, rfl⟩ _ q (body_in _ _))
    obtain ⟨rfl, rfl⟩ := h
    exact of_end ⟨rfl, rfl⟩
  have ed : v0 = v ∧ sD = sP.abs := by
    obtain ⟨r1, z1, x1, y1, y2⟩ := (Sem.wp_iff_runs (model p w) (Ctx.of (.body c.stmts env) (baseB q)) (pieceP p w c env) (fun r z => r = Except.ok (Flow.ret v0) ∧ z = sD) q sB.abs).mp wF
    have x2 := reach_runs (goR_ok eP)
    obtain ⟨a, b⟩ := runs_det x1 x2
    subst y1 y2
    cases b
    exact ⟨rfl, a⟩
  obtain ⟨rfl, rfl⟩ := ed
  -- the body
  show Sem.wp _ _ (blockStart c.stmts env >>= fun _ => ((execs c.stmts env).onRaise (leaving env)) >>= fun f => (pure (PySem.Fin.done f) : Sem PySem.Fin)) _ _ _ _
  have wB2 : Sem.wp (model p w) (Γ0.enter (.body c.stmts env) none q) (blockStart c.stmts env >>= fun _ => execs c.pre env >>= fun f => match f with
    | .next => swapB c env
    | _ => unsupported "") (Sem.finPost (model p w) (Γ0.enter (.body c.stmts env) none q) fun r z => r = .ok .next ∧ z = sB.abs) Bad q s.abs := wB
  rw [Sem.wp_bind'] at wB2 ⊢
  refine Sem.wp_mono _ _ _ (fun _ q1 s1 h3 => ?_) (fun _ _ _ h => h.elim) q s.abs wB2
  rw [Sem.wp_bind'] at h3
  rw [Sem.wp_bind', Sem.wp_onRaise]
  refine wp_execs_app ?_
  refine Sem.wp_mono _ _ _ (fun f q2 s2 h4 => ?_) (fun _ _ _ h => h.elim) q1 s1 h3
  cases f with
  | brk => exact (no_uns h4).elim
  | cont => exact (no_uns h4).elim
  | ret v => exact (no_uns h4).elim
  | next =>
    have h5 : Sem.wp (model p w) (Γ0.enter (.body c.stmts env) none q) (standAt c.pos >>= fun _ => swapsWithSole c.targets c.val c.pos.line env >>= fun b => match b with
      | true => unsupported ""
      | false => pure (.done .next)) (Sem.finPost (model p w) (Γ0.enter (.body c.stmts env) none q) fun r z => r = .ok .next ∧ z = sB.abs) Bad q2 s2 := h4
    show Sem.wp _ _ (exec (.Assign c.targets c.val c.pos) env >>= fun f => match f with
      | .next => execs c.rest env
      | f => pure f) _ _ _ _
    rw [Sem.wp_bind', arm_exec_Assign]
    rw [Sem.wp_bind'] at h5 ⊢
    refine Sem.wp_mono _ _ _ (fun _ q3 s3 h6 => ?_) (fun _ _ _ h => h.elim) q2 s2 h5
    rw [Sem.wp_bind'] at h6 ⊢
    refine Sem.wp_mono _ _ _ (fun b q4 s4 h7 => ?_) (fun _ _ _ h => h.elim) q3 s3 h6
    cases b with
    | true => exact (no_uns h7).elim
    | false =>
      obtain ⟨_, rfl⟩ := end_of h7
      rw [if_neg Bool.false_ne_true, Sem.wp_bind']
      refine Sem.wp_mono _ _ _ (fun x q5 s5 h8 => ?_) (fun _ _ _ h => h.elim) q4 sB.abs (dR (fun x z => x = v0 ∧ z = sP.abs) (fun _ _ => False) ⟨rfl, rfl⟩ _ q4 (body_in _ _))
      obtain ⟨rfl, rfl⟩ := h8
      obtain ⟨sC, eC5, hR⟩ := eC q5
      have wC := goR_wp eC5
      rw [ctx1] at wC
      have wC2 : Sem.wp (model p w) (Γ0.enter (.body c.stmts env) none q) (storeC c env x >>= fun f => (match f with
        | .next => execs c.rest env
        | f => pure f) >>= fun g => pure (.done g)) (Sem.finPost (model p w) (Γ0.enter (.body c.stmts env) none q) fun r z => r = .ok .next ∧ z = sC.abs) Bad q5 sP.abs := wC
      rw [Sem.wp_bind'] at wC2
      refine Sem.wp_mono _ _ _ (fun f q6 s6 h9 => ?_) (fun _ _ _ h => h.elim) q5 sP.abs wC2
      rw [Sem.wp_bind'] at h9
      refine Sem.wp_mono _ _ _ (fun g q7 s7 h10 => ?_) (fun _ _ _ h => h.elim) q6 s6 h9
      obtain ⟨e1, e2⟩ := end_of h10
      cases e1
      subst e2
      exact of_end ⟨rfl, hR⟩
end Hd

end

set_option Elab.async false
set_option linter.all false
set_option maxRecDepth 100000
set_option maxHeartbeats 4000000
noncomputable section
namespace Hd
open PySem PySem.W PySem.Calls PyProof.Rows HandSHeadRun
variable {p : Program} {w : World}
theorem top_wp {c : Cut} {M : Nat} {s : SharedT} {R : Shared → Prop} (hb : behindTheImports p = c.stmts) (hk : keysOf c.keys c.values = some c.kl) (hn : (c.kl.map kk).Nodup) (h1 : 17 < c.kl.length) (h2 : c.kl.length ≤ 32)
    (hu : ∀ env, (bodyA (.body c.stmts env)).units < cLine) (run : ∀ q1 q3, ∃ sC, topG (denote table) (stepT (denote table) p w) p w c M q1 q3 s = some sC ∧ R sC.abs) :
    Sem.wp (model p w) Γ0 (topStub p).cur (Sem.finPost (model p w) Γ0 fun r z => r = .ok (.ret .none) ∧ R z) Bad default s.abs := by
  obtain ⟨sA, co, fr, tk, eA, run2⟩ : ∃ (sA : SharedT) (co fr : Nat) (tk : Tok), goR (denote table) (stepT (denote table) p w) [] M s (pieceA p) callC default [] = some (sA, .ret (.str ⟨#[co, fr]⟩ tk)) ∧
      ∀ q1 q3, ∃ sC, topC (denote table) (stepT (denote table) p w) p w c M (bodyEnv p (.ref co) fr) q1 q3 sA = some sC ∧ R sC.abs := by
    obtain ⟨sC0, h0, _⟩ := run default default
    unfold topG at h0 run
    split at h0
    · rename_i sA co fr tk eA
      refine ⟨sA, co, fr, tk, eA, fun q1 q3 => ?_⟩
      obtain ⟨sC, h3, hR⟩ := run q1 q3
      rw [eA] at h3
      exact ⟨sC, h3, hR⟩
    · cases h0
  have wA := goR_wp eA
  rw [ctx0] at wA
  have wA2 : Sem.wp (model p w) Γ0 (moduleCode p.main >>= fun code => newBodyFrame code mainNs mainNs >>= fun frame => encA code frame) (Sem.finPost (model p w) Γ0 fun r z => r = .ok (.ret (.str ⟨#[co, fr]⟩ tk)) ∧ z = sA.abs) Bad default s.abs := wA
  show Sem.wp (model p w) Γ0 (moduleCode p.main >>= fun code => newBodyFrame code mainNs mainNs >>= fun frame => PySem.run (.body (behindTheImports p) (bodyEnv p code frame)) >>= fun _ => ret .none) _ _ _ _
  rw [Sem.wp_bind'] at wA2 ⊢
  refine Sem.wp_mono _ _ _ (fun code q1 s1 h3 => ?_) (fun _ _ _ h => h.elim) default s.abs wA2
  rw [Sem.wp_bind'] at h3 ⊢
  refine Sem.wp_mono _ _ _ (fun frame q2 s2 h4 => ?_) (fun _ _ _ h => h.elim) q1 s1 h3
  cases code with
  | ref a =>
    have h5 := end_of (show Sem.wp (model p w) Γ0 (pure (.done (.ret (.str ⟨#[a, frame]⟩ 0))) : Sem PySem.Fin) (Sem.finPost (model p w) Γ0 fun r z => r = .ok (.ret (.str ⟨#[co, fr]⟩ tk)) ∧ z = sA.abs) Bad q2 s2 from h4)
    obtain ⟨h6, rfl⟩ := h5
    obtain ⟨rfl, rfl⟩ : a = co ∧ frame = fr := by
      have e := Flow.ret.inj (Except.ok.inj h6)
      have e2 := (Value.str.inj e).1
      simp only [Str.mk.injEq, Array.mk.injEq, List.cons.injEq, and_true] at e2
      exact e2
    rw [hb, Sem.wp_bind', Sem.wp_run]
    have bw := body_wp (p := p) (w := w) (R := R) (q := q2) hk hn h1 h2 (hu _) (fun q3 => run2 q2 q3)
    obtain ⟨r, z, hr, rfl, hR⟩ := (Sem.wp_iff_runs (model p w) (Γ0.enter (.body c.stmts (bodyEnv p (.ref a) frame)) none q2) (denote table (.body c.stmts (bodyEnv p (.ref a) frame))) (fun r z => r = .ok .next ∧ R z) q2 sA.abs).mp
      (Sem.wp_mono _ _ _ (fun _ _ _ h => h) (fun _ _ _ h => h.elim) q2 sA.abs bw)
    exact ⟨_, z, hr, of_end ⟨rfl, hR⟩⟩
  | _ => exact (no_uns h4).elim
/-! ### the machine's run -/
theorem halt_through {den : Code → Sem Fin} {s s' : Shared} {t : Thread} {f : Flow} (h : step den p w s t = .halt (.done f) s') : through t = true ∧ s' = s := by
  refine ⟨?_, step_halt_same den p w s s' t _ h⟩
  obtain ⟨heap, gens, drawn, toks, os⟩ := s
  obtain ⟨cur, code, pos, stack⟩ := t
  cases cur with
  | pure x =>
    cases x with
    | done g =>
      cases stack with
      | nil => rfl
      | cons F r => cases F <;> (simp only [step] at h; cases h)
    | again c => simp only [step] at h; cases h
  | raise e =>
    cases stack with
    | nil =>
      simp only [step, finish] at h
      split at h <;> cases h
    | cons F r => cases F <;> (simp only [step] at h; cases h)
  | _ =>
    simp only [step, finish] at h
    first
      | cases h
      | ((repeat' split at h) <;> cases h)
theorem sched_through {den : Code → Sem Fin} {f : Flow} {s' : Shared} : ∀ {n : Nat} {s : Shared} {t : Thread}, runN den p w n s t = .halted (.done f) s' → (∀ k s₁ t₁, runN den p w k s t = .running s₁ t₁ → t₁.calm = true) → s.asleep →
    ∃ m t₁, schedN den p w m (.single s t) = .running (.single s' t₁) ∧ through t₁ = true
  | 0, _, _, h, _, _ => by cases h
  | n + 1, s, t, h, hc, hz => by
    simp only [runN] at h
    cases hs : step den p w s t with
    | halt o s2 =>
      rw [hs] at h
      cases h
      obtain ⟨a, rfl⟩ := halt_through hs
      exact ⟨0, t, rfl, a⟩
    | go s2 t2 =>
      rw [hs] at h
      obtain ⟨m, t1, q1, q2⟩ := sched_through h (fun k s₁ t₁ q => hc (k + 1) s₁ t₁ (by simp only [runN, hs]; exact q)) (Shared.asleep_of_life (step_life den p w s s2 t t2 hs) hz)
      refine ⟨m + 1, t1, ?_, q2⟩
      rcases sstep_single den p w s t (hc 0 s t rfl) hz with e | e
      · simp only [schedN, e, hs, Step.lift]
        exact q1
      · rw [hs] at e
        cases e
end Hd

end

set_option Elab.async false
set_option linter.all false
set_option maxRecDepth 100000
set_option maxHeartbeats 4000000
noncomputable section
namespace Hd
open PySem PySem.W PySem.Calls PyProof.Rows HandSHeadRun
variable {p q : Program} {w : World} {loose : List PySem.Str}
/-- what stands ahead of the top and stays -/
def oldAt (w : World) : List Addr := (List.range (boot_heap w.params).objs.size).filter fun b => !(b == mainNs || b == cStatics || globalOf (boot_heap w.params) "__annotations__" == some (.ref b))
def endC (den : Code → Sem Fin) (st : SharedT → Thread → Option (SharedT × Thread)) (p : Program) (c : Cut) (M : Nat) (w : World) (os : OsState) (q1 q3 : Pos) : Option SharedT := match putAll (boot_heap w.params).objs.toList .nil 0 with
  | some (t, n) => frNat n fun n0 => topG den st p w c M q1 q3 (bootT w os (t, n0))
  | none => none
/-- the run's equation: looks, what is seen of the top, what the Hook tells, what stood there, the system's state -/
def CutEq (r : OpenRow) (q : Program) (H : Hook) (ob : SharedT → H.α) (c : Cut) (M : Nat) (loose : List PySem.Str) (w : World) : Prop :=
  ∀ (os : OsState) (q1 q3 : Pos), (endC (denQ tabQ) (stepQ (denQ tabQ) r.prog w) r.prog c M w os q1 q3).map (fun s => (looksF r.prog (boot_heap w.params) s.abs, seenQ q loose (importedModules r.prog.main.body) (fun s => xlAt q [] s && recOk r.toRowW.records s) s.abs, ob s, (oldAt w).map (getT s), s.os)) =
    some (true, openGood q loose, H.val w, (oldAt w).map (boot_heap w.params).get?, os)
/-- what stands behind the top -/
def Behind (p q : Program) (loose : List PySem.Str) (XP : (PySem.Str → Option Value) → Heap → Prop) (YP : World → Heap → Prop) (w : World) : Prop :=
  (∃ s, AfterRun (opening p) w s) ∧ ∀ s, AfterRun (opening p) w s → ∃ s₀, fenceModules? p s = some s₀ ∧ s₀.gens = #[] ∧ ∃ s₁, TopRan p w s₀ s₁ ∧ s₁.asleep ∧ s₁.gens = #[] ∧ s₁.heap.isNs mainGlobals = true ∧
    Ground q loose [] XP w s₁ (s₁.heap.nsMap mainGlobals) (s₁.heap.nsMap builtinsNs) s₁.heap ∧ YP w s₁.heap
theorem behind_cut {r : OpenRow} {H : Hook} {ob : SharedT → H.α} {c : Cut} {M : Nat} (ho : ∀ s : SharedT, ob s = H.obs s.abs)
    (e : opening r.prog = plainProg r.prog.main.scope.names) (f : ∀ s, fenceModules? r.prog s = some s) (hch : chainsOk q = true) (hrec : r.toRowW.records = [])
    (hb : behindTheImports r.prog = c.stmts) (hk : keysOf c.keys c.values = some c.kl) (hn : (c.kl.map kk).Nodup) (h1 : 17 < c.kl.length) (h2 : c.kl.length ≤ 32) (hu : ∀ env, (bodyA (.body c.stmts env)).units < cLine)
    (run : CutEq r q H ob c M loose w) : Behind r.prog q loose (XL q []) H.says w := by
  have hboot := boot_open (N := 600) e rfl f w
  obtain ⟨s00, h00, hv⟩ := Option.map_eq_some_iff.mp hboot
  have h00' := h00
  unfold fencedOpening at h00'
  obtain ⟨sI, hI, hF⟩ := Option.bind_eq_some_iff.mp h00'
  rw [← table_eq_tree] at hI
  have AI : AfterRun (opening r.prog) w sI := AfterImport.of_importEnds hI
  refine ⟨⟨sI, AI⟩, fun s hs => ?_⟩
  obtain rfl : s = sI := AfterImport.unique hs AI
  have z0 : s00.asleep := Shared.asleep_of_life (fence_lifeW hF) (AfterImport.life AI)
  obtain ⟨h0, g0, d0, k0, os⟩ := s00
  obtain ⟨rfl, rfl, rfl, rfl⟩ : h0 = boot_heap w.params ∧ g0 = Array.mk [] ∧ d0 = boot_drawn ∧ k0 = boot_toks := by simpa using hv
  -- the start as a tree
  cases ep : putAll (boot_heap w.params).objs.toList .nil 0 with
  | none =>
    have r0 := run os default default
    unfold endC at r0
    rw [ep] at r0
    cases r0
  | some tn =>
    obtain ⟨t, n⟩ := tn
    have eb : (bootT w os (t, n)).abs = ⟨boot_heap w.params, #[], boot_drawn, boot_toks, os⟩ := by
      show (⟨absHeap t n (boot_heap w.params).life, #[], boot_drawn, boot_toks, os⟩ : Shared) = _
      rw [putAll_heap ep]
    let Rr : Shared → Prop := fun z => looksF r.prog (boot_heap w.params) z = true ∧ openSeen q loose (importedModules r.prog.main.body) (fun s => xlAt q [] s && recOk r.toRowW.records s) true z = openGood q loose ∧ H.obs z = H.val w ∧
      (oldAt w).map z.heap.get? = (oldAt w).map (boot_heap w.params).get? ∧ z.os = os
    have runs : ∀ q1 q3, ∃ sC, topG (denote table) (stepT (denote table) r.prog w) r.prog w c M q1 q3 (bootT w os (t, n)) = some sC ∧ Rr sC.abs := fun q1 q3 => by
      have r1 := run os q1 q3
      unfold endC at r1
      rw [ep] at r1
      have r2 : (frNat n fun n0 => topG (denQ tabQ) (stepQ (denQ tabQ) r.prog w) r.prog w c M q1 q3 (bootT w os (t, n0))).map _ = _ := r1
      rw [frNat_eq, ← stepQ_eq, ← denQ_eq, ← tabQ_eq, ← table_eq_tree] at r2
      obtain ⟨sC, e1, e2⟩ := Option.map_eq_some_iff.mp r2
      simp only [Prod.mk.injEq] at e2
      obtain ⟨a1, a2, a3, a4, a5⟩ := e2
      refine ⟨sC, e1, a1, ?_, ?_, ?_, a5⟩
      · rw [seenQ_eq]
        exact a2
      · rw [← ho]
        exact a3
      · have : getT sC = sC.abs.heap.get? := funext (getT_eq sC)
        rw [← this]
        exact a4
    have tw := top_wp (p := r.prog) (w := w) hb hk hn h1 h2 hu runs
    rw [eb] at tw
    have gens_of : ∀ z, Rr z → z.gens = #[] := fun z hz => by
      obtain ⟨_, g0, _⟩ := ground_of_open (w := w) (XP := XL q []) (fun s e => xl_of s (Bool.and_eq_true_iff.mp e).1) hch hz.2.1
      exact Array.eq_empty_of_size_eq_zero (beq_iff_eq.mp g0)
    obtain ⟨k, rr, s1, hrun, hrr, hR⟩ := (wp_iff_halts (M := model r.prog w) (topStub r.prog).cur (fun rs z => rs = .ok (.ret .none) ∧ Rr z) default ⟨boot_heap w.params, #[], boot_drawn, boot_toks, os⟩).mp
      (Sem.wp_mono _ _ _ (fun x q' z h => by
        cases x with
        | done g =>
          have h2 : _ ∧ _ := h
          exact ⟨h2, by rw [gens_of z h2.2]; simp [leftWithCleanup]⟩
        | again c =>
          obtain ⟨u1, rs, z2, u2, u3, u4⟩ := h
          exact ⟨u1, rs, z2, u2, ⟨u3, u4⟩, by rw [gens_of z2 u4]; simp [leftWithCleanup]⟩) (fun _ _ _ h => h.elim) default _ tw)
    subst hrr
    obtain ⟨s2, hr2, hf2, hc2⟩ := runNI_real _ _ _ hrun rfl
    obtain rfl : s2 = s1 := Shared.eq_of_forget_eq hf2 (gens_of _ hR)
    obtain ⟨m, t1, hsch, hth⟩ := sched_through hr2 hc2 z0
    have hlife := runN_life _ _ _ hr2
    obtain ⟨hlk, hop, hobs, hold, hos⟩ := hR
    obtain ⟨G, _, g1, g2, g3, g4, g5⟩ := ground_of_open (w := w) (XP := XL q []) (fun s e => xl_of s (Bool.and_eq_true_iff.mp e).1) hch hop
    unfold looksF at hlk
    obtain ⟨hlk, hlaid⟩ := Bool.and_eq_true_iff.mp hlk
    obtain ⟨hlk, hgd⟩ := Bool.and_eq_true_iff.mp hlk
    obtain ⟨hst, hnb⟩ := Bool.and_eq_true_iff.mp hlk
    refine ⟨_, hF, rfl, s2, ⟨⟨m, t1, hsch, hth⟩, hlife, Shared.rest_eq hos, fun b o hb hn => ?_, g2, statics_of_ok hst, g3, g4, g5, gens_of_done hgd, names_of_bound hnb, laid_of_kept hlaid⟩, Shared.asleep_of_life hlife z0, gens_of _ ⟨by unfold looksF; simp [hst, hnb, hgd, hlaid], hop, hobs, hold, hos⟩, g1, G, H.of w s2 hobs⟩
    have hb' : (boot_heap w.params).get? b = some o := hb
    have hin : b ∈ oldAt w := by
      unfold oldAt
      rw [List.mem_filter]
      refine ⟨List.mem_range.mpr (Heap.lt_size hb'), ?_⟩
      rw [Bool.not_eq_true', Bool.or_eq_false_iff, Bool.or_eq_false_iff]
      refine ⟨⟨?_, ?_⟩, ?_⟩
      · exact beq_eq_false_iff_ne.mpr fun q => hn (.inl q)
      · exact beq_eq_false_iff_ne.mpr fun q => hn (.inr (.inl q))
      · exact beq_eq_false_iff_ne.mpr fun q => hn (.inr (.inr q))
    have := List.map_inj_left.mp hold b hin
    rw [this]
    exact hb'
end Hd

end

set_option Elab.async false
set_option linter.all false
set_option maxRecDepth 100000
set_option maxHeartbeats 4000000
noncomputable section
namespace Hd
open PySem PySem.W PySem.Calls PyProof.Rows HandSHeadRun
variable {q : Program} {loose : List PySem.Str}
/-- a law over a top that is known world by world -/
theorem holds_cut {rw_ : OpenRow} {XP : (PySem.Str → Option Value) → Heap → Prop} {YP : World → Heap → Prop} {df : DefRec} {kws : List (PySem.Str × PySem.Expr)}
    (top : ∀ wd, Behind rw_.prog q loose XP YP wd) (keepX : ∀ g h1 h2, XP g h1 → (∀ b o, h1.get? b = some o → h2.get? b = some o) → XP g h2) (keepY : ∀ wd h1 h2, YP wd h1 → (∀ b o, h1.get? b = some o → h2.get? b = some o) → YP wd h2)
    (itsDef : defOf q rw_.name = some (df, kws)) (theDef : rw_.prog.theDef rw_.name = some (df.params, df.body, df.scope)) (kwd : kwWritten? df.params.kwonlyargs df.params.kw_defaults = some kws)
    (norec : rw_.toRowW.records = []) (said : rw_.wellSaid = true) (looks : (chainsOk q && opensWell rw_.prog && (frees rw_.toRowW && rw_.within.isEmpty)) = true) (bare : rw_.prog.bare) (wit : rw_.toRowW.promised)
    (walk : WalkO q loose XP YP rw_.toRowW df kws fun f vs => PySem.call f vs) : rw_.Holds := by
  obtain ⟨looks, fr⟩ := Bool.and_eq_true_iff.mp looks
  obtain ⟨_, opens⟩ := Bool.and_eq_true_iff.mp looks
  obtain ⟨fr, win⟩ := Bool.and_eq_true_iff.mp fr
  obtain ⟨noSame, under, after, apart, noMakers⟩ := frees_parts fr
  have noWithin : rw_.toRowW.claim.within = [] := List.isEmpty_iff.mp win
  refine ⟨said, wit, ⟨⟨bare, opens, ?_⟩, wit.witness, fun wd => ⟨(top wd).1, fun sI hI => ?_⟩⟩⟩
  · show rw_.toRowW.makers.map _ = []
    rw [noMakers]
    rfl
  obtain ⟨s₀, fence, g0, s, ran, sleeps, nogens, isns, ground, says⟩ := (top wd).2 sI hI
  have facts : RecFacts rw_.toRowW.records s.heap := recFacts_nil norec
  have gr : Ground q loose rw_.toRowW.records XP wd s (s.heap.nsMap mainGlobals) (s.heap.nsMap builtinsNs) s.heap := facts.ground ground
  refine ⟨s₀, fence, g0, s, ran, fun n hn => ?_, facts.1, facts.2.1, ?_⟩
  · have en : n = rw_.name := by
      split at hn <;> simp_all
    rw [en]
    exact pinned_of_view isns ground itsDef theDef kwd
  refine ClaimW.callFrom_of_specG (c := rw_.toRowW.claim) sleeps nogens fun args pre lay ord perm => ?_
  obtain ⟨⟨vs, s₁⟩, laid⟩ := Option.isSome_iff_exists.mp (layAllW_isSome (P := wd.params) (ord := ord) gr.has args rw_.toRowW.args s (pre_splitW pre).1)
  have stays := layAllW_keeps _ _ _ laid
  have rest := layAllW_rest _ _ _ laid
  obtain ⟨as, reads, inside, old⟩ := reads_layAllW perm _ _ _ laid lay s₁.heap (fun _ _ e => e)
  have L : Laid rw_.toRowW.records wd s s₁ args vs as := ⟨⟨ord, perm, laid⟩, reads, inside, old, stays, rest.1.trans nogens, rest.2.2.1⟩
  have gr₁ := gr.keeps keepX stays
  obtain ⟨a, o, pm, cd, doc, dV, kV, f1, f2, f3, f4, f5⟩ := gr₁.fn itsDef
  have w := walk wd s s₁ _ _ gr₁ (keepY _ _ _ says stays) a o pm cd doc dV kV f2 f3 f4 f5 (defOf_name itsDef ▸ f1) L.gens args vs as pre lay L.reads L.well (L.low gr.low)
  have free := ident_freeW under after apart
  have fin : ∀ (rs : Result) (z : Shared), GoodWG rw_.toRowW.claim (classAt s.heap) (ExcName.means s.heap) args s₁ rs z → rw_.toRowW.claim.Ends s args vs s₁ rs z ∧ z.os = s.os ∧ AllBare z.gens ∧
      (rw_.writes = true → namesKept rw_.prog rw_.keeps s.heap z.heap ∧ ∀ x ∈ rw_.toRowW.records, ∀ b, classAt s.heap x.1 = some b → recordClass z.heap b x.1 (x.2.map (·.1)) = true) := fun rs z g => by
    obtain ⟨y1, y2, y3⟩ := g.laid (c := rw_.toRowW.claim) noSame noWithin free L
    refine ⟨y1, y2, y3, fun _ => ⟨namesKept_of ran isns rw_.keeps stays g.2.1.old, fun x hx => ?_⟩⟩
    rw [norec] at hx
    cases hx
  refine ⟨vs, s₁, laid, ?_⟩
  show wpAny (model rw_.prog wd) callerA (nsGet mainNs rw_.name >>= fun x => match x with
    | some f => (do ret (← PySem.call f vs))
    | none => unsupported "claim.caller:no-such-global") _ _ s₁
  refine wpAny_bind (wpAny_nsGet gr₁.T.g ?_)
  rw [f1]
  exact wpAny_bind (wpAny_mono w (fun v z g => wpAny_pure ⟨_, rfl, fin _ z g⟩) fun e z g => fin _ z g)
end Hd

end

set_option Elab.async false
set_option linter.all false
set_option maxRecDepth 100000
set_option maxHeartbeats 4000000
/-! Dicts that the top has written, read: keys that are texts, keys that are two texts. -/
namespace Hm
open PySem PySem.Spec PyProof.Rows L2
/-- the written dict at a, its keys texts: x is in it or isn't -/
def KHas (K : PySem.W.Frag) (w : World) (a : Addr) (x : Str) (b : Bool) : Prop :=
  (a == sysModules) = false ∧ ∃ es n r, K.lookup a = some ⟨.type "dict", none, .dict es n, #[]⟩ ∧ PySem.W.KeysLit w.params es.toList ∧ PySem.W.nsIn K a x = some r ∧ r.isSome = b
def rInK (K : PySem.W.Frag) (w : World) : R2 := fun x y H Q => ∃ p z b, x = .str z ∧ y = .ref p ∧ KHas K w p z b ∧ Q (.bl b) H
/-- .. its keys two texts each -/
def KTup (P : Program) (K : PySem.W.Frag) (w : World) (a : Addr) (es : List ((Str × Str) × Addr)) : Prop :=
  (a == sysModules) = false ∧ ∃ ents n, ∃ xs : List (List Str × Addr × Value), K.lookup a = some ⟨.type "dict", none, .dict ents n, #[]⟩ ∧ ents.toList = xs.map (entryOfKey (Hd.TK P w)) ∧ (xs.map (·.1)).Nodup ∧
    (∀ x ∈ xs, ∃ o its n, K.lookup x.2.1 = some o ∧ o.cls = .type "tuple" ∧ o.data = .seq its n ∧ ItemsAre (strKind P w) x.1 its.toList) ∧ xs.map (fun x => (x.1, x.2.2)) = es.map fun e => ([e.1.1, e.1.2], Value.ref e.2)
def gotT (es : List ((Str × Str) × Addr)) (k : Str × Str) : V := match es.find? fun e => decide (e.1 = k) with
  | some e => .ref e.2
  | none => .non
def tKGet (P : Program) (K : PySem.W.Frag) (w : World) (td ty : TE) : TE := fun σ H Q => td σ H fun x H1 => ∃ a es, x = .ref a ∧ KTup P K w a es ∧ ty σ H1 fun y H2 => ∃ b z1 z2, y = .ref b ∧ H2 b = some (.tup [.str z1, .str z2]) ∧ Q (gotT es (z1, z2)) H2
section
variable {X : Cx} {o e : Expr} {apos cpos : Pos} {td ty : TE}
theorem op_inK : OpR X (compareOp .In) (rInK X.K X.w) := by
  intro pins s σ H x y v u Q I rx ry h
  obtain ⟨p, z, b, rfl, rfl, ⟨low, es, n, r, hl, hk, e, eb⟩, q⟩ := h
  obtain rfl : u = Value.ref p := ry
  obtain ⟨t, rfl⟩ := rx
  have hm := PySem.W.mapOf_K (prog := X.prog) (w := X.w) I.kIn hl hk
  refine wpAny_in_of (strKind_is X.prog X.w z t) low hm ?_
  rw [PySem.W.find_K hl e, eb]
  exact ⟨.bl b, H, I.tok _, rfl, q⟩
theorem dict_of {P : Program} {w : World} {K : PySem.W.Frag} {h : Heap} {a : Addr} {es : List ((Str × Str) × Addr)} (X : K.In h) (t : KTup P K w a es) : ∃ xs : List (List Str × Addr × Value), h.DictOfH (Hd.TK P w) a xs ∧ xs.map (fun x => (x.1, x.2.2)) = es.map fun e => ([e.1.1, e.1.2], Value.ref e.2) := by
  obtain ⟨_, ents, n, xs, hl, he, hn, hi, hx⟩ := t
  refine ⟨xs, ⟨_, ents, n, X _ _ hl, ⟨rfl, rfl, rfl⟩, rfl, he, fun x hx => ?_, hn⟩, hx⟩
  obtain ⟨o, its, m, h1, h2, h3, h4⟩ := hi x hx
  exact ⟨o, its, m, X _ _ h1, h2, h3, h4⟩
theorem got_at : ∀ {xs : List (List Str × Addr × Value)} {es : List ((Str × Str) × Addr)} (k : Str × Str), xs.map (fun x => (x.1, x.2.2)) = es.map (fun e => ([e.1.1, e.1.2], Value.ref e.2)) → RelV (gotT es k) (((atKey xs [k.1, k.2]).map (·.2)).getD .none)
  | [], [], k, _ => rfl
  | [], _ :: _, _, h => by simp at h
  | _ :: _, [], _, h => by simp at h
  | (ks, a, v) :: xs, e :: es, k, h => by
    simp only [List.map_cons, List.cons.injEq, Prod.mk.injEq] at h
    obtain ⟨⟨h1, h2⟩, h3⟩ := h
    subst h1 h2
    by_cases q : e.1 = k
    · have e1 : gotT (e :: es) k = .ref e.2 := by
        unfold gotT
        rw [List.find?_cons_of_pos (by simpa using q)]
      have e2 : atKey (([e.1.1, e.1.2], a, Value.ref e.2) :: xs) [k.1, k.2] = some (a, .ref e.2) := by
        unfold atKey
        rw [List.find?_cons_of_pos (by simp [q])]
        rfl
      rw [e1, e2]
      rfl
    · have e1 : gotT (e :: es) k = gotT es k := by
        unfold gotT
        rw [List.find?_cons_of_neg (by simpa using q)]
      have e2 : atKey (([e.1.1, e.1.2], a, Value.ref e.2) :: xs) [k.1, k.2] = atKey xs [k.1, k.2] := by
        unfold atKey
        rw [List.find?_cons_of_neg]
        simp only [List.cons.injEq, and_true, decide_eq_true_eq]
        exact fun z => q (Prod.ext z.1 z.2)
      rw [e1, e2]
      exact got_at k h3
theorem pe_kget (hu : X.A.units + 1 < cLine) (ho : PE X o td) (he : PE X e ty) (m : M1 X o "get" apos e cpos) : PE X (.Call (.Attribute o "get" apos) [e] [] cpos) (tKGet X.prog X.K X.w td ty) := by
  refine ⟨fun pins s σ H Q I h => ?_⟩
  refine wpAny_Call_method m.base m.few m.line PySem.F.plainAttrs_dict PySem.F.slot_dict_get PySem.F.type_dict_get (thn (ho.run pins s σ H _ I h) fun u s1 ⟨x, H1, I1, rx, a, es, ex, kt, q1⟩ => ?_)
  subst ex
  obtain rfl : u = Value.ref a := rx
  obtain ⟨xs, dd, hx⟩ := dict_of I1.kIn kt
  refine ⟨dd.typeIs, fun b q => ?_, ?_⟩
  · cases q
    obtain ⟨ob, _, _, h1, h2, _⟩ := dd
    exact ⟨ob, h1, h2.2.1⟩
  rw [m.trees]
  refine Calls.callWith_builtin rfl (Calls.evalArgs_plain (Calls.spliced_cons (thn (he.run pins s1 σ H1 _ I1 q1) fun iv s2 ⟨y, H2, I2, ry, b, z1, z2, ey, hb, q2⟩ => Calls.spliced_nil ?_)))
  subst ey
  obtain rfl : iv = Value.ref b := ry
  obtain ⟨xs2, dd2, hx2⟩ := dict_of (P := X.prog) (w := X.w) I2.kIn kt
  have ks : (Hd.TK X.prog X.w).is s2.heap [z1, z2] b := by
    obtain ⟨_, its, r, ob, h1, h2, n, h3⟩ := (show ObjOk X.prog X.w H2 s2.heap b (.tup [.str z1, .str z2]) from I2.hok b _ hb)
    refine ⟨ob, _, n, h1, h2, h3, ?_⟩
    cases r with
    | cons a r =>
      cases r with
      | cons b r =>
        cases r
        obtain ⟨t1, rfl⟩ := a
        obtain ⟨t2, rfl⟩ := b
        exact .cons (strKind_is _ _ _ _) (.cons (strKind_is _ _ _ _) .nil)
  refine call_meetsIn PySem.F.slot_dict_get dd2.typeIs PySem.F.entry_dict_get (PySem.F.args_dict_get_2 _ _) (meetsH_dict_get (Hd.TK X.prog X.w) a b kt.1) ⟨tupleKind_room_in1 hu, [z1, z2], xs2, ks, dd2, ?_⟩
  exact ⟨_, H2, I2.tok _, got_at (z1, z2) hx2, q2⟩
end
end Hm


set_option Elab.async false
set_option linter.all false
set_option maxRecDepth 100000
set_option maxHeartbeats 4000000
/-! What the head tells of the defs and of the written tables. -/
namespace Hm
open PySem PySem.Spec PyProof.Rows L2
def tupB (K : PySem.W.Frag) (v : Value) (vs : List V) : Bool := match v with
  | .ref b => (match K.lookup b with
    | some ⟨.type t, _, .seq its _, _⟩ => decide (t = "tuple") && (decide (its.size ≤ 1000) && He.relAll vs its.toList)
    | _ => false)
  | _ => false
theorem tupB_ok {K : PySem.W.Frag} {v : Value} {vs : List V} (h : tupB K v vs = true) : ∃ b o its n, v = .ref b ∧ K.lookup b = some o ∧ o.cls = .type "tuple" ∧ o.data = .seq its n ∧ its.size ≤ sizeLine ∧ Vals vs its.toList := by
  unfold tupB at h
  split at h
  · rename_i b
    split at h
    · rename_i t od its n osl e
      obtain ⟨h1, h2⟩ := Bool.and_eq_true_iff.mp h
      obtain ⟨h2, h3⟩ := Bool.and_eq_true_iff.mp h2
      have h1 := of_decide_eq_true h1
      have h2 := of_decide_eq_true h2
      subst h1
      exact ⟨b, _, its, n, rfl, e, rfl, rfl, by rw [sizeLine_eq]; omega, He.relAll_ok h3⟩
    · cases h
  · cases h
theorem tupB_sq {K : PySem.W.Frag} {v : Value} {vs : List V} (h : tupB K v vs = true) : ∃ b, v = .ref b ∧ ∀ H, SqT K H b vs := by
  obtain ⟨b, o, its, n, e, h1, h2, h3, h4, h5⟩ := tupB_ok h
  exact ⟨b, e, fun H => .inr ⟨o, its, n, h1, h2, h3, h4, h5⟩⟩
def textL (K : PySem.W.Frag) : List DictEntry → List (Str × List V) → Bool
  | [], [] => true
  | e :: es, x :: r => (match e.key with
    | .str z _ => decide (z = x.1)
    | _ => false) && (tupB K e.val x.2 && textL K es r)
  | _, _ => false
def pairL (K : PySem.W.Frag) : List DictEntry → List ((Str × Str) × List V) → Bool
  | [], [] => true
  | e :: es, x :: r => tupB K e.key [.str x.1.1, .str x.1.2] && (tupB K e.val x.2 && pairL K es r)
  | _, _ => false
def tabObs (f : List DictEntry → Bool) (K : PySem.W.Frag) (x : Str) : Bool × List Int := match PySem.W.nsIn K mainGlobals x with
  | some (some (.ref a)) => (match K.lookup a with
    | some ⟨.type t, none, .dict es _, ⟨[]⟩⟩ => (decide (t = "dict") && (decide (a ≠ sysModules) && f es.toList), es.toList.map (·.hash))
    | _ => (false, []))
  | _ => (false, [])
theorem tab_ok {f : List DictEntry → Bool} {K : PySem.W.Frag} {x : Str} {hs : List Int} (h : tabObs f K x = (true, hs)) : ∃ a es n, PySem.W.nsIn K mainGlobals x = some (some (.ref a)) ∧ K.lookup a = some ⟨.type "dict", none, .dict es n, #[]⟩ ∧ (a == sysModules) = false ∧ f es.toList = true ∧ es.toList.map (·.hash) = hs := by
  unfold tabObs at h
  split at h
  · rename_i a e1
    split at h
    · rename_i t es n e2
      simp only [Prod.mk.injEq] at h
      obtain ⟨h1, h2⟩ := h
      obtain ⟨h1, h3⟩ := Bool.and_eq_true_iff.mp h1
      obtain ⟨h3, h4⟩ := Bool.and_eq_true_iff.mp h3
      have h1 := of_decide_eq_true h1
      subst h1
      exact ⟨a, es, n, e1, e2, beq_eq_false_iff_ne.mpr (of_decide_eq_true h3), h4, h2⟩
    · cases h
  · cases h
/-- a dict of texts that the top has written: what stands at each key -/
def Text (K : PySem.W.Frag) (w : World) (x : Str) (ents : List (Str × List V)) : Prop := ∃ a, PySem.W.nsIn K mainGlobals x = some (some (.ref a)) ∧
  (∀ y ∈ ents, KHas K w a y.1 true ∧ ∃ b, KDct K w a y.1 (.ref b) ∧ ∀ H, SqT K H b y.2) ∧ ∀ z, z ∉ ents.map (·.1) → KHas K w a z false
theorem textL_lit {K : PySem.W.Frag} {P : Params} : ∀ {es : List DictEntry} {ents : List (Str × List V)}, textL K es ents = true → es.map (·.hash) = ents.map (fun y => PyData.keyHash P y.1) → PySem.W.KeysLit P es
  | [], [], _, _ => trivial
  | [], _ :: _, h, _ => by cases h
  | _ :: _, [], h, _ => by cases h
  | e :: es, y :: r, h, q => by
    obtain ⟨h1, h2⟩ := Bool.and_eq_true_iff.mp (show ((match e.key with
      | .str z _ => decide (z = y.1)
      | _ => false) && (tupB K e.val y.2 && textL K es r)) = true from h)
    obtain ⟨_, h3⟩ := Bool.and_eq_true_iff.mp h2
    simp only [List.map_cons, List.cons.injEq] at q
    refine ⟨?_, textL_lit h3 q.2⟩
    split at h1
    · rename_i z t e1
      have h1 := of_decide_eq_true h1
      subst h1
      exact ⟨y.1, t, e1, q.1⟩
    · cases h1
theorem textL_find {K : PySem.W.Frag} (z : Str) : ∀ {es : List DictEntry} {ents : List (Str × List V)}, textL K es ents = true → (z ∉ ents.map (·.1) → es.find? (·.key.isStr z) = none) ∧ (es.any (·.refKey) = false) ∧ ((ents.map (·.1)).Nodup → ∀ y ∈ ents, y.1 = z → ∃ e, es.find? (·.key.isStr z) = some e ∧ tupB K e.val y.2 = true)
  | [], [], _ => ⟨fun _ => rfl, rfl, fun _ y hy => by cases hy⟩
  | [], _ :: _, h => by cases h
  | _ :: _, [], h => by cases h
  | e :: es, y :: r, h => by
    obtain ⟨h1, h2⟩ := Bool.and_eq_true_iff.mp (show ((match e.key with
      | .str z _ => decide (z = y.1)
      | _ => false) && (tupB K e.val y.2 && textL K es r)) = true from h)
    obtain ⟨h4, h3⟩ := Bool.and_eq_true_iff.mp h2
    obtain ⟨i1, i2, i3⟩ := textL_find z h3
    split at h1
    · rename_i k t e1
      have h1 := of_decide_eq_true h1
      subst h1
      have ek : e.key.isStr z = (y.1 == z) := by rw [e1]; rfl
      refine ⟨fun q => ?_, ?_, fun nd x hx ez => ?_⟩
      · simp only [List.map_cons, List.mem_cons, not_or] at q
        rw [List.find?_cons_of_neg (by rw [ek]; simp; exact fun w => q.1 w.symm)]
        exact i1 q.2
      · rw [List.any_cons, i2]
        simp [DictEntry.refKey, e1]
      · simp only [List.map_cons, List.nodup_cons] at nd
        rcases List.mem_cons.mp hx with rfl | hx
        · exact ⟨e, by rw [List.find?_cons_of_pos (by rw [ek, ez]; simp)], h4⟩
        · have ne : y.1 ≠ z := fun w => nd.1 (by rw [w, ← ez]; exact List.mem_map.mpr ⟨x, hx, rfl⟩)
          rw [List.find?_cons_of_neg (by rw [ek]; simpa using ne)]
          exact i3 nd.2 x hx ez
    · cases h1
theorem text_ok {K : PySem.W.Frag} {w : World} {x : Str} {ents : List (Str × List V)} (nd : (ents.map (·.1)).Nodup) (h : tabObs (textL K · ents) K x = (true, ents.map fun y => PyData.keyHash w.params y.1)) : Text K w x ents := by
  obtain ⟨a, es, n, h1, h2, h3, h4, h5⟩ := tab_ok h
  have lit := textL_lit h4 h5
  have ns : ∀ z, PySem.W.nsIn K a z = match es.toList.find? (·.key.isStr z) with
      | some e => some (some e.val)
      | none => if es.toList.any (·.refKey) then none else some none := fun z => by
    unfold PySem.W.nsIn
    rw [h2]
    rfl
  refine ⟨a, h1, fun y hy => ?_, fun z hz => ?_⟩
  · obtain ⟨_, _, i3⟩ := textL_find y.1 h4
    obtain ⟨e, e1, e2⟩ := i3 nd y hy rfl
    obtain ⟨b, e3, e4⟩ := tupB_sq e2
    have en : PySem.W.nsIn K a y.1 = some (some e.val) := by
      rw [ns, e1]
    exact ⟨⟨h3, es, n, _, h2, lit, en, rfl⟩, b, ⟨es, n, _, h2, lit, en, by rw [e3]; rfl⟩, e4⟩
  · obtain ⟨i1, i2, _⟩ := textL_find z h4
    have en : PySem.W.nsIn K a z = some none := by
      rw [ns, i1 hz]
      dsimp only
      rw [i2, if_neg Bool.false_ne_true]
    exact ⟨h3, es, n, _, h2, lit, en, rfl⟩
/-- .. its keys two texts each -/
def Pairs (P : Program) (K : PySem.W.Frag) (w : World) (x : Str) (ents : List ((Str × Str) × List V)) : Prop := ∃ (a : Addr) (es : List ((Str × Str) × Addr)), PySem.W.nsIn K mainGlobals x = some (some (.ref a)) ∧ KTup P K w a es ∧
  es.map (·.1) = ents.map (·.1) ∧ ∀ k vs, (k, vs) ∈ ents → ∃ b, gotT es k = .ref b ∧ ∀ H, SqT K H b vs
theorem pairL_ok {P : Program} {w : World} {K : PySem.W.Frag} : ∀ {es : List DictEntry} {ents : List ((Str × Str) × List V)}, pairL K es ents = true → es.map (·.hash) = ents.map (fun y => (Hd.TK P w).hash [y.1.1, y.1.2]) →
    ∃ (xs : List (List Str × Addr × Value)) (zs : List ((Str × Str) × Addr)), es = xs.map (entryOfKey (Hd.TK P w)) ∧ xs.map (·.1) = ents.map (fun y => [y.1.1, y.1.2]) ∧ (∀ x ∈ xs, ∃ o its n, K.lookup x.2.1 = some o ∧ o.cls = .type "tuple" ∧ o.data = .seq its n ∧ ItemsAre (strKind P w) x.1 its.toList) ∧
      xs.map (fun x => (x.1, x.2.2)) = zs.map (fun e => ([e.1.1, e.1.2], Value.ref e.2)) ∧ zs.map (·.1) = ents.map (·.1) ∧ ((ents.map (·.1)).Nodup → ∀ k vs, (k, vs) ∈ ents → ∃ b, gotT zs k = .ref b ∧ ∀ H, SqT K H b vs)
  | [], [], _, _ => ⟨[], [], rfl, rfl, fun _ h => (by cases h), rfl, rfl, fun _ _ _ h => (by cases h)⟩
  | [], _ :: _, h, _ => by cases h
  | _ :: _, [], h, _ => by cases h
  | e :: es, y :: r, h, q => by
    obtain ⟨h1, h2⟩ := Bool.and_eq_true_iff.mp (show (tupB K e.key [.str y.1.1, .str y.1.2] && (tupB K e.val y.2 && pairL K es r)) = true from h)
    obtain ⟨h4, h3⟩ := Bool.and_eq_true_iff.mp h2
    simp only [List.map_cons, List.cons.injEq] at q
    obtain ⟨xs, zs, a1, a2, a3, a4, a5, a6⟩ := pairL_ok (P := P) (w := w) h3 q.2
    obtain ⟨ka, o, its, n, k1, k2, k3, k4, _, k5⟩ := tupB_ok h1
    obtain ⟨b, b1, b2⟩ := tupB_sq h4
    refine ⟨([y.1.1, y.1.2], ka, .ref b) :: xs, (y.1, b) :: zs, ?_, by simp [a2], fun x hx => ?_, by simp [a4], by simp [a5], fun nd k vs hk => ?_⟩
    · rw [List.map_cons, ← a1]
      refine congrArg (· :: es) ?_
      obtain ⟨eh, ek, ev⟩ := e
      show DictEntry.mk eh ek ev = ⟨_, _, _⟩
      have z1 : eh = (Hd.TK P w).hash [y.1.1, y.1.2] := q.1
      have z2 : ek = .ref ka := k1
      have z3 : ev = .ref b := b1
      rw [z1, z2, z3]
    · rcases List.mem_cons.mp hx with rfl | hx
      · refine ⟨o, its, n, k2, k3, k4, ?_⟩
        generalize its.toList = us at k5
        cases k5 with
        | cons a r =>
          cases r with
          | cons b r =>
            cases r
            obtain ⟨t1, rfl⟩ := a
            obtain ⟨t2, rfl⟩ := b
            exact .cons (strKind_is _ _ _ _) (.cons (strKind_is _ _ _ _) .nil)
      · exact a3 x hx
    · simp only [List.map_cons, List.nodup_cons] at nd
      rcases List.mem_cons.mp hk with e | hk
      · subst e
        refine ⟨b, ?_, b2⟩
        unfold gotT
        rw [List.find?_cons_of_pos (by simp)]
      · obtain ⟨b', c1, c2⟩ := a6 nd.2 k vs hk
        refine ⟨b', ?_, c2⟩
        have ne : y.1 ≠ k := fun w => nd.1 (by rw [w]; exact List.mem_map.mpr ⟨(k, vs), hk, rfl⟩)
        unfold gotT at c1 ⊢
        rw [List.find?_cons_of_neg (by simpa using ne)]
        exact c1
theorem pairs_ok {P : Program} {K : PySem.W.Frag} {w : World} {x : Str} {ents : List ((Str × Str) × List V)} (nd : (ents.map (·.1)).Nodup) (h : tabObs (pairL K · ents) K x = (true, ents.map fun y => (Hd.TK P w).hash [y.1.1, y.1.2])) : Pairs P K w x ents := by
  obtain ⟨a, es, n, h1, h2, h3, h4, h5⟩ := tab_ok h
  obtain ⟨xs, zs, a1, a2, a3, a4, a5, a6⟩ := pairL_ok (P := P) (w := w) h4 h5
  refine ⟨a, zs, h1, ⟨h3, es, n, xs, h2, a1, ?_, a3, a4⟩, a5, a6 nd⟩
  rw [a2]
  have e : ents.map (fun y => [y.1.1, y.1.2]) = (ents.map (·.1)).map fun k => [k.1, k.2] := by rw [List.map_map]; rfl
  rw [e]
  refine List.Pairwise.map _ (fun a b n => ?_) nd
  simp only [ne_eq, List.cons.injEq, and_true]
  exact fun z => n (Prod.ext z.1 z.2)
end Hm


set_option Elab.async false
set_option linter.all false
set_option maxRecDepth 100000
set_option maxHeartbeats 4000000
/-! The hook: defs and tables of a top with NUMBERS, TUPLES, PARTS. -/
namespace Hm
open PySem PySem.Spec PyProof.Rows L2
def tNUMBERS : List (Str × List V) := [("number", [V.non, V.non]), ("divisor", [V.int 1, V.non]), ("many", [V.int 0, V.int 200]), ("size", [V.int 1, V.int 20]), ("place", [V.int 0, V.int 59])]
def tTUPLES : List (Str × List V) := [("numbers", [V.str "number", V.int 0, V.non]), ("rule", [V.str "rule part", V.int 0, V.non]), ("test", [V.str "test part", V.int 0, V.non]), ("plans", [V.str "plan", V.int 0, V.int 6]), ("some plans", [V.str "plan", V.int 1, V.int 6])]
def tPARTS : List ((Str × Str) × List V) := [(("rule part", "add"), [V.str "number"]), (("rule part", "times"), [V.str "number"]), (("rule part", "rest"), [V.str "divisor"]), (("rule part", "one"), []), (("rule part", "sum"), []), (("test part", "rest"), [V.str "divisor", V.str "number"]), (("test part", "below"), [V.str "number"]), (("test part", "after"), [V.str "rule", V.str "test"]), (("plan", "list"), [V.str "numbers"]), (("plan", "broken"), [V.str "numbers", V.str "word"]), (("plan", "count"), [V.str "number", V.str "number", V.str "many"]), (("plan", "row"), [V.str "place"]), (("plan", "turn"), [V.str "rule", V.str "plan"]), (("plan", "sieve"), [V.str "test", V.str "plan"]), (("plan", "upto"), [V.str "test", V.str "plan"]), (("plan", "cut"), [V.str "many", V.str "plan"]), (("plan", "left"), [V.str "many", V.str "plan"]), (("plan", "chain"), [V.str "plans"]), (("plan", "beside"), [V.str "some plans"]), (("plan", "ahead"), [V.str "plan"]), (("plan", "windows"), [V.str "size", V.str "size", V.str "plan"]), (("plan", "marks"), [V.str "divisor", V.str "plan"]), (("plan", "spare"), [V.str "plan", V.str "plan"]), (("plan", "wanted"), [V.str "many", V.str "word", V.str "plan"])]
def klist : List (Str × Str) := tPARTS.map (·.1)
theorem nd_NUM : (tNUMBERS.map (·.1)).Nodup := by decide +kernel
theorem nd_TUP : (tTUPLES.map (·.1)).Nodup := by decide +kernel
theorem nd_PAR : (tPARTS.map (·.1)).Nodup := by decide +kernel
def keyRefs (g : Addr → Option Obj) (x : Str) : List Addr := match PySem.W.nsIn (He.frG g [mainGlobals]) mainGlobals x with
  | some (some (.ref a)) => (match g a with
    | some ⟨_, _, .dict es _, _⟩ => es.toList.flatMap fun e => He.refV e.key
    | _ => [])
  | _ => []
def frX (g : Addr → Option Obj) : PySem.W.Frag := He.frG g (He.asG g 4 ++ keyRefs g "PARTS")
abbrev AlT : Type := He.Al × (Bool × List Int) × (Bool × List Int) × (Bool × List Int)
def obsK (fa : List He.Fa) (fn : List He.FnD) (K : PySem.W.Frag) : AlT := (He.obsE fa fn K, tabObs (textL K · tNUMBERS) K "NUMBERS", tabObs (textL K · tTUPLES) K "TUPLES", tabObs (pairL K · tPARTS) K "PARTS")
def valK (P : Program) (fn : List He.FnD) (w : World) : AlT := (He.valE fn, (true, tNUMBERS.map fun y => PyData.keyHash w.params y.1), (true, tTUPLES.map fun y => PyData.keyHash w.params y.1), (true, tPARTS.map fun y => (Hd.TK P w).hash [y.1.1, y.1.2]))
/-- what the top is known by -/
structure Top (P : Program) (fa : List He.Fa) (fn : List He.FnD) (w : World) (K : PySem.W.Frag) : Prop where
  says : He.SaysE fa fn K
  num : Text K w "NUMBERS" tNUMBERS
  tup : Text K w "TUPLES" tTUPLES
  par : Pairs P K w "PARTS" tPARTS
theorem top_of {P : Program} {fa : List He.Fa} {fn : List He.FnD} {w : World} {K : PySem.W.Frag} (e : obsK fa fn K = valK P fn w) : Top P fa fn w K := by
  unfold obsK valK at e
  simp only [Prod.mk.injEq] at e
  obtain ⟨e1, e2, e3, e4⟩ := e
  exact ⟨e1, text_ok nd_NUM e2, text_ok nd_TUP e3, pairs_ok nd_PAR e4⟩
def hookT (P : Program) (fa : List He.Fa) (fn : List He.FnD) : PySem.W.Hook where
  α := AlT
  obs := fun s => obsK fa fn (frX s.heap.get?)
  val := fun w => valK P fn w
  says := fun w h => ∃ K : PySem.W.Frag, K.In h ∧ Top P fa fn w K
  of := fun _ _ e => ⟨_, He.frG_in, top_of e⟩
  keeps := fun _ _ _ ⟨K, hK, c⟩ k => ⟨K, PySem.W.Frag.In.keeps hK k, c⟩
def obT (fa : List He.Fa) (fn : List He.FnD) (s : PySem.W.SharedT) : AlT := obsK fa fn (frX (HandSHeadRun.getT s))
theorem obT_eq {P : Program} {fa : List He.Fa} {fn : List He.FnD} (s : PySem.W.SharedT) : obT fa fn s = (hookT P fa fn).obs s.abs := by
  have e : HandSHeadRun.getT s = s.abs.heap.get? := funext (HandSHeadRun.getT_eq s)
  unfold obT
  rw [e]
  rfl
/-- a def of the top by its place -/
def fnd (body : List Stmt) (i : Nat) : He.FnD := match body[i]? with
  | some (.FunctionDef n a b _ _ _ sc _ _ _) => ⟨(n, none), n, n, a, b, sc⟩
  | _ => ⟨("", none), "", "", ⟨[], [], none, [], [], none, []⟩, [], ⟨.function, [], false, false, []⟩⟩
def cutOf (p : Program) (i : Nat) : Hd.Cut := match p.main.body[i]? with
  | some (.Assign ts (.Dict ks vs dp) ps) => ⟨p.main.body.take i, ts, ks, vs, dp, ps, p.main.body.drop (i + 1), klist⟩
  | _ => ⟨[], [], [], [], default, default, [], []⟩
/-- the facts of the defs: each by its name -/
def faOf (fn : List He.FnD) (free : List Str) : List He.Fa := fn.map (fun d => .glo d.name) ++ fn.map (fun d => .keep d.name) ++ free.map .free
section
variable {fn : List He.FnD} {free : List Str} {K : PySem.W.Frag} {h : Heap} {mg : Str → Option Value}
theorem def_at (c : He.SaysE (faOf fn free) fn K) (X : K.In h) (G : h.Ns mainGlobals mg) (i : Nat) {d : He.FnD} (e : fn[i]? = some d) : ∃ fd : FuncData, mg d.name = some (.ref (He.ga K d.name)) ∧ PySem.W.keepIn K (.ref (He.ga K d.name)) = true := by
  have l : i < fn.length := (List.getElem?_eq_some_iff.mp e).1
  have f1 : (faOf fn free)[i]? = some (.glo d.name) := by
    unfold faOf
    rw [List.append_assoc, List.getElem?_append_left (by simpa using l), List.getElem?_map, e]
    rfl
  have f2 : (faOf fn free)[fn.length + i]? = some (.keep d.name) := by
    unfold faOf
    rw [List.append_assoc, List.getElem?_append_right (by simp), List.getElem?_append_left (by simp; omega)]
    simp [e]
  exact ⟨default, He.glo_ok X G (c.fact i f1), He.keep_ok (c.fact (fn.length + i) f2)⟩
theorem free_at (c : He.SaysE (faOf fn free) fn K) (X : K.In h) (G : h.Ns mainGlobals mg) {x : Str} (e : x ∈ free) : mg x = none := by
  have m : He.Fa.free x ∈ faOf fn free := by
    unfold faOf
    exact List.mem_append_right _ (List.mem_map.mpr ⟨x, e, rfl⟩)
  obtain ⟨i, hi⟩ := List.getElem?_of_mem m
  exact He.free_ok X G (c.fact i hi)
end
end Hm


set_option Elab.async false
set_option linter.all false
set_option maxRecDepth 100000
set_option maxHeartbeats 4000000
/-! list(zip(t, u)) of two tuples. -/
namespace Lz
open PySem PySem.Spec PyProof.Rows PySem.W RZ
section
variable {prog : Program} {w : World} {A : Around} {E : Value → Shared → Prop} {s : Shared} {z TI TO i1 i2 l1 l2 : Addr} {k1 k2 : Nat} {xs ys : Array Value}
/-- the zip, its two iterators at their places; out: whether its own tuple was handed out (and lives on) -/
structure At (h : Heap) (z TI TO i1 i2 l1 l2 : Addr) (S : Addr) (k1 k2 : Nat) (xs ys : Array Value) : Prop where
  it : (IsZip h z TI TO .none ∧ ∃ a b, IsPair h TO a b) ∨ ∃ T f oT, IsZipHeld h z TI TO T f ∧ h.get? T = some oT ∧ T ≠ z ∧ T ≠ S ∧ T ≠ i1 ∧ T ≠ i2
  two : IsPair h TI (.ref i1) (.ref i2)
  fst : h.IsTupleIter i1 l1 k1
  snd : h.IsTupleIter i2 l2 k2
  tx : h.IsTuple l1 xs
  ty : h.IsTuple l2 ys
theorem held_item {T : Addr} {f : Bool} {oT : Obj} {x y : Value} {Q : Value → Shared → Prop} (D : ZipApart z TI TO i1 i2 l1 l2) (zh : IsZipHeld s.heap z TI TO T f) (th : s.heap.get? T = some oT) (tw : IsPair s.heap TI (.ref i1) (.ref i2))
    (a1 : s.heap.IsTupleIter i1 l1 k1) (a2 : s.heap.IsTupleIter i2 l2 k2) (b1 : s.heap.IsTuple l1 xs) (b2 : s.heap.IsTuple l2 ys) (c1 : xs[k1]? = some x) (c2 : ys[k2]? = some y)
    (go : ∀ g, IsZipHeld g z TI TO T true → g.IsTupleIter i1 l1 (k1 + 1) → g.IsTupleIter i2 l2 (k2 + 1) → IsPair g s.heap.objs.size x y → g.objs.size = s.heap.objs.size + 1 → (∀ c o, c ≠ z → c ≠ i1 → c ≠ i2 → s.heap.get? c = some o → g.get? c = some o) → Q (.ref s.heap.objs.size) { s with heap := g }) :
    wpAny (model prog w) A (Builtin.«zip.__next__» ⟨[.ref z], []⟩) (fun r t => ∃ v, r = .done (.ret v) ∧ Q v t) E s := by
  show wpAny _ _ (field (.ref z) 2 >>= _) _ _ _; refine wpAny_bind (wpAny_field zh rfl (x := .bool false) rfl ?_)
  show wpAny _ _ (field (.ref z) 3 >>= _) _ _ _; refine wpAny_bind (wpAny_field zh rfl (x := .ref TI) rfl (wpAny_bind (wpAny_seqItems tw rfl ?_)))
  show wpAny _ _ (Builtin.SmallTypes.ownedTupleIsFree (.ref z) >>= _) _ _ _; refine wpAny_bind (wpAny_tupleHeld_zip zh th fun g1 z1 e1 => ?_)
  simp only [Bool.false_eq_true, if_false]; refine wpAny_bind ?_; rw [← Array.forIn_toList]; simp only [List.forIn_cons, List.forIn_nil]
  refine wpAny_bind (wpAny_bind (wpAny_holding ?_)); show wpAny _ _ (Builtin.SmallTypes.nextOf (.ref i1) >>= _) _ _ _
  refine wpAny_bind (nextOf_tuple_item (s := { s with heap := g1 }) (a1.extBut e1.extBut D.i1z) (b1.extBut e1.extBut D.l1z) c1 fun g2 p1 e2 => wpAny_pure (wpAny_pure ?_))
  refine wpAny_bind (wpAny_bind (wpAny_holding ?_)); show wpAny _ _ (Builtin.SmallTypes.nextOf (.ref i2) >>= _) _ _ _
  refine wpAny_bind (nextOf_tuple_item (s := { s with heap := g2 }) ((a2.extBut e1.extBut D.i2z).extBut e2.extBut D.i12.symm) ((b2.extBut e1.extBut D.l2z).extBut e2.extBut D.l2i1) c2 fun g3 p2 e3 => wpAny_pure (wpAny_pure (wpAny_pure ?_)))
  show wpAny _ _ (newTuple [x, y] >>= _) _ _ _; refine wpAny_bind (wpAny_newTuple ?_)
  have z3 : IsZipHeld g3 z TI TO T true := e3.extBut _ _ D.i2z.symm (e2.extBut _ _ D.i1z.symm z1)
  have q1 : g3.IsTupleIter i1 l1 (k1 + 1) := p1.extBut e3.extBut D.i12
  have n3 : g3.objs.size = s.heap.objs.size := by rw [e3.1, e2.1, e1.1]
  refine wpAny_pure ⟨_, rfl, ?_⟩; show Q (.ref g3.objs.size) _
  have pr : IsPair (g3.push { cls := .type "tuple", data := .seq #[x, y] }) g3.objs.size x y := Heap.get?_push_size _ rfl
  have sz : (g3.push { cls := .type "tuple", data := .seq #[x, y] }).objs.size = g3.objs.size + 1 := Heap.size_push ..
  rw [n3] at pr sz ⊢
  exact go _ (Heap.get?_push_of_some _ z3) (q1.at fun o e => Heap.get?_push_of_some _ e) (p2.at fun o e => Heap.get?_push_of_some _ e) pr sz fun c o d1 d2 d3 e => Heap.get?_push_of_some _ (e3.extBut _ _ d3 (e2.extBut _ _ d2 (e1.extBut _ _ d1 e)))
theorem held_end {T : Addr} {f : Bool} {oT : Obj} {Q : PySem.Fin → Shared → Prop} (hh : A.handled = none) (D : ZipApart z TI TO i1 i2 l1 l2) (zh : IsZipHeld s.heap z TI TO T f) (th : s.heap.get? T = some oT) (tw : IsPair s.heap TI (.ref i1) (.ref i2))
    (a1 : s.heap.IsTupleIter i1 l1 k1) (b1 : s.heap.IsTuple l1 xs) (c1 : xs[k1]? = none)
    (go : ∀ g e, (∀ c o, c ≠ z → c ≠ i1 → c ≠ i2 → s.heap.get? c = some o → g.get? c = some o) → (∃ o, g.get? e = some o ∧ o.cls = .type "StopIteration") → E (.ref e) { s with heap := g }) :
    wpAny (model prog w) A (Builtin.«zip.__next__» ⟨[.ref z], []⟩) Q E s := by
  show wpAny _ _ (field (.ref z) 2 >>= _) _ _ _; refine wpAny_bind (wpAny_field zh rfl (x := .bool false) rfl ?_)
  show wpAny _ _ (field (.ref z) 3 >>= _) _ _ _; refine wpAny_bind (wpAny_field zh rfl (x := .ref TI) rfl (wpAny_bind (wpAny_seqItems tw rfl ?_)))
  show wpAny _ _ (Builtin.SmallTypes.ownedTupleIsFree (.ref z) >>= _) _ _ _; refine wpAny_bind (wpAny_tupleHeld_zip zh th fun g1 z1 e1 => ?_)
  simp only [Bool.false_eq_true, if_false]; refine wpAny_bind ?_; rw [← Array.forIn_toList]; simp only [List.forIn_cons, List.forIn_nil]
  refine wpAny_bind (wpAny_bind (wpAny_holding ?_)); show wpAny _ _ (Builtin.SmallTypes.nextOf (.ref i1) >>= _) _ _ _
  exact wpAny_bind (nextOf_tuple_end (s := { s with heap := g1 }) hh (a1.extBut e1.extBut D.i1z) (b1.extBut e1.extBut D.l1z) c1 fun g2 e e2 he => go g2 e (fun c o d1 d2 _ x => e2 _ _ d2 (e1.extBut _ _ d1 x)) he)
/-- the next pair -/
theorem next_item {S : Addr} {x y : Value} {Q : Option Value → Shared → Prop} (D : ZipApart z TI TO i1 i2 l1 l2) (apS : S ≠ z ∧ S ≠ TI ∧ S ≠ TO ∧ S ≠ i1 ∧ S ≠ i2 ∧ S ≠ l1 ∧ S ≠ l2) (lS : S < s.heap.objs.size) (at_ : At s.heap z TI TO i1 i2 l1 l2 S k1 k2 xs ys) (c1 : xs[k1]? = some x) (c2 : ys[k2]? = some y)
    (go : ∀ g, At g z TI TO i1 i2 l1 l2 S (k1 + 1) (k2 + 1) xs ys → IsPair g s.heap.objs.size x y → g.objs.size = s.heap.objs.size + 1 → (∀ c o, c ≠ z → c ≠ TO → c ≠ i1 → c ≠ i2 → s.heap.get? c = some o → g.get? c = some o) → Q (some (.ref s.heap.objs.size)) { s with heap := g }) :
    wpAny (model prog w) A (pyNext (.ref z)) Q E s := by
  obtain ⟨it, two, fst, snd, tx, ty⟩ := at_
  have stay : ∀ g : Heap, (∀ c o, c ≠ z → c ≠ TO → c ≠ i1 → c ≠ i2 → s.heap.get? c = some o → g.get? c = some o) → IsPair g TI (.ref i1) (.ref i2) ∧ g.IsTuple l1 xs ∧ g.IsTuple l2 ys := fun g k =>
    ⟨k _ _ D.TIz D.TITO D.TIi1 D.TIi2 two, tx.at fun o e => k _ o D.l1z D.l1TO D.l1i1 D.l1i2 e, ty.at fun o e => k _ o D.l2z D.l2TO D.l2i1 D.l2i2 e⟩
  rcases it with ⟨hz, a, b, hTO⟩ | ⟨T, f, oT, hz, hT, n1, n2, n3, n4⟩
  · refine pyNext_zipT_item D hz two hTO fst snd tx ty c1 c2 fun g e1 e2 e3 e4 e5 e6 e7 => ?_
    obtain ⟨u1, u2, u3⟩ := stay g e7
    have low : ∀ {c : Addr} {o : Obj}, s.heap.get? c = some o → s.heap.objs.size ≠ c := fun e => Nat.ne_of_gt (Heap.lt_size e)
    refine go g ⟨.inr ⟨s.heap.objs.size, false, _, e1, e5, low hz, Nat.ne_of_gt lS, ?_, ?_⟩, u1, e3, e4, u2, u3⟩ e5 e6 e7
    · obtain ⟨o, e, _⟩ := fst
      exact low e
    · obtain ⟨o, e, _⟩ := snd
      exact low e
  · have tyz : s.TypeIs (.ref z) "zip" := ⟨_, hz, rfl⟩
    unfold pyNext
    refine wpAny_bind (wpAny_attempt (wpAny_callSpecial?_slot (name := Str.ofString "__next__") tyz F.slot_zip_next (wpAny_call_entry F.slot_zip_next tyz F.entry_zip_next (held_item D hz hT two fst snd tx ty c1 c2 fun g e1 e3 e4 e5 e6 e7 => wpAny_pure ?_) (F.args_zip_next_1 _))))
    obtain ⟨u1, u2, u3⟩ := stay g fun c o d1 _ d3 d4 e => e7 c o d1 d3 d4 e
    exact go g ⟨.inr ⟨T, true, oT, e1, e7 _ _ n1 n3 n4 hT, n1, n2, n3, n4⟩, u1, e3, e4, u2, u3⟩ e5 e6 fun c o d1 _ d3 d4 e => e7 c o d1 d3 d4 e
/-- no more -/
theorem next_end {S : Addr} {Q : Option Value → Shared → Prop} (hh : A.handled = none) (D : ZipApart z TI TO i1 i2 l1 l2) (at_ : At s.heap z TI TO i1 i2 l1 l2 S k1 k2 xs ys) (c1 : xs[k1]? = none)
    (go : ∀ g, (∀ c o, c ≠ z → c ≠ TO → c ≠ i1 → c ≠ i2 → s.heap.get? c = some o → g.get? c = some o) → Q none { s with heap := g }) : wpAny (model prog w) A (pyNext (.ref z)) Q E s := by
  obtain ⟨it, two, fst, snd, tx, ty⟩ := at_
  rcases it with ⟨hz, a, b, hTO⟩ | ⟨T, f, oT, hz, hT, n1, n2, n3, n4⟩
  · exact pyNext_zipT_end hh D hz two hTO fst snd tx ty (.inl c1) go
  · have tyz : s.TypeIs (.ref z) "zip" := ⟨_, hz, rfl⟩
    unfold pyNext
    refine wpAny_bind (wpAny_attempt (wpAny_callSpecial?_slot (name := Str.ofString "__next__") tyz F.slot_zip_next (wpAny_call_entry F.slot_zip_next tyz F.entry_zip_next (held_end hh D hz hT two fst tx c1 fun g e e7 he => ?_) (F.args_zip_next_1 _))))
    obtain ⟨oe, h1, h2⟩ := he
    refine wpAny_bind (wpAny_isInstance (T := "StopIteration") (b := true) ⟨oe, h1, h2⟩ isSubtype_stop ?_)
    exact wpAny_pure (go g fun c o d1 _ d3 d4 e => e7 c o d1 d3 d4 e)
end
end Lz


set_option Elab.async false
set_option linter.all false
set_option maxRecDepth 100000
set_option maxHeartbeats 4000000
/-! list(zip(t, u)) of two tuples: the list, the expression. -/
namespace Lz
open PySem PySem.Spec PyProof.Rows PySem.W RZ
/-- the pairs, each at its place -/
structure Ps (xs ys : Array Value) (lo : Addr) (h : Heap) (ts : List Addr) : Prop where
  rise : ts.Pairwise (· < ·)
  above : ∀ t ∈ ts, lo ≤ t
  pairs : ∀ (j : Nat) (t : Addr), ts[j]? = some t → ∃ x y, xs[j]? = some x ∧ ys[j]? = some y ∧ IsPair h t x y
theorem Ps.there {xs ys : Array Value} {lo : Addr} {h : Heap} {ts : List Addr} (g : Ps xs ys lo h ts) {t : Addr} (ht : t ∈ ts) : t < h.objs.size := by
  obtain ⟨j, hj⟩ := List.mem_iff_getElem?.mp ht
  obtain ⟨_, _, _, _, e⟩ := g.pairs j t hj
  exact Heap.lt_size e
theorem At.keep {h h' : Heap} {z TI TO i1 i2 l1 l2 S : Addr} {k1 k2 : Nat} {xs ys : Array Value} (x : At h z TI TO i1 i2 l1 l2 S k1 k2 xs ys) (ap : S ≠ z ∧ S ≠ TI ∧ S ≠ TO ∧ S ≠ i1 ∧ S ≠ i2 ∧ S ≠ l1 ∧ S ≠ l2) (kp : ∀ b o, b ≠ S → h.get? b = some o → h'.get? b = some o) : At h' z TI TO i1 i2 l1 l2 S k1 k2 xs ys := by
  obtain ⟨it, two, fst, snd, tx, ty⟩ := x
  obtain ⟨a1, a2, a3, a4, a5, a6, a7⟩ := ap
  refine ⟨?_, kp _ _ a2.symm two, fst.at fun o e => kp _ o a4.symm e, snd.at fun o e => kp _ o a5.symm e, tx.at fun o e => kp _ o a6.symm e, ty.at fun o e => kp _ o a7.symm e⟩
  rcases it with ⟨hz, a, b, hT⟩ | ⟨T, f, oT, hz, hT, n1, n2, n3, n4⟩
  · exact .inl ⟨kp _ _ a1.symm hz, a, b, kp _ _ a3.symm hT⟩
  · exact .inr ⟨T, f, oT, kp _ _ a1.symm hz, kp _ _ n2 hT, n1, n2, n3, n4⟩
abbrev lst (acc : Array Value) (c : Nat) : Obj := { cls := .type "list", dict := none, data := .seq acc c, slots := #[] }
section
variable {prog : Program} {w : World} {A : Around} {s : Shared} {R : Result → Shared → Prop} {z TI TO i1 i2 l1 l2 S lo : Addr} {xs ys : Array Value}
theorem loop (hh : A.handled = none) (D : ZipApart z TI TO i1 i2 l1 l2) (ap : S ≠ z ∧ S ≠ TI ∧ S ≠ TO ∧ S ≠ i1 ∧ S ≠ i2 ∧ S ≠ l1 ∧ S ≠ l2) (low : z < lo ∧ TO < lo ∧ i1 < lo ∧ i2 < lo ∧ S < lo) (hl : xs.size = ys.size) (hn : xs.size ≤ sizeLine) (res : Value) {h1 : Heap}
    (hR : ∀ h' tk acc c ts, (∀ b o, b ≠ S → b ≠ z → b ≠ TO → b ≠ i1 → b ≠ i2 → h1.get? b = some o → h'.get? b = some o) → h'.get? S = some (lst acc c) → ts.length = xs.size → Ps xs ys lo h' ts → acc.toList = ts.map Value.ref → R (.ok (.ret res)) { s with heap := h', toks := tk }) :
    ∀ (k i : Nat) (h : Heap) (tk c : Nat) (acc : Array Value) (ts : List Addr), xs.size - i = k → i ≤ xs.size → At h z TI TO i1 i2 l1 l2 S i i xs ys → (∀ b o, b ≠ S → b ≠ z → b ≠ TO → b ≠ i1 → b ≠ i2 → h1.get? b = some o → h.get? b = some o) →
      h.get? S = some (lst acc c) → acc.toList = ts.map Value.ref → ts.length = i → Ps xs ys lo h ts → lo ≤ h.objs.size →
      codeAny (model prog w) A (.builtin "list.extend.loop" ⟨[.ref S, .ref z, res], []⟩) R { s with heap := h, toks := tk } := by
  obtain ⟨lw1, lw2, lw3, lw4, lw5⟩ := id low
  intro k
  induction k with
  | zero =>
    intro i h tk c acc ts hk hi hat keep hS hacc hts hP hlo
    refine codeAny_builtin PySem.F.entry_extend_loop ?_; rw [Around.under_plainId PySem.F.plain_extend_loop _]
    show wpAny _ A.in1 (pyNext (.ref z) >>= _) _ _ _
    have ends : xs[i]? = none := by simp only [Array.getElem?_eq_none_iff]; omega
    refine wpAny_bind (next_end (s := { s with heap := h, toks := tk }) (A := A.in1) hh D hat ends fun g kp => ?_)
    refine wpAny_pure (hR g tk acc c ts (fun b o n1 n2 n3 n4 n5 e => kp b o n2 n3 n4 n5 (keep b o n1 n2 n3 n4 n5 e)) (kp _ _ ap.1 ap.2.2.1 ap.2.2.2.1 ap.2.2.2.2.1 hS) (by omega) ⟨hP.rise, hP.above, fun j t hj => ?_⟩ hacc)
    obtain ⟨x, y, e1, e2, e3⟩ := hP.pairs j t hj
    have := hP.above t (List.mem_of_getElem? hj)
    exact ⟨x, y, e1, e2, kp t _ (Nat.ne_of_gt (Nat.lt_of_lt_of_le lw1 this)) (Nat.ne_of_gt (Nat.lt_of_lt_of_le lw2 this)) (Nat.ne_of_gt (Nat.lt_of_lt_of_le lw3 this)) (Nat.ne_of_gt (Nat.lt_of_lt_of_le lw4 this)) e3⟩
  | succ k ih =>
    intro i h tk c acc ts hk hi hat keep hS hacc hts hP hlo
    have lt : i < xs.size := by omega
    obtain ⟨x, hx⟩ : ∃ x, xs[i]? = some x := ⟨_, Array.getElem?_eq_getElem lt⟩
    obtain ⟨y, hy⟩ : ∃ y, ys[i]? = some y := ⟨_, Array.getElem?_eq_getElem (by omega)⟩
    have sz : acc.size = i := by rw [← Array.length_toList, hacc, List.length_map, hts]
    refine codeAny_builtin PySem.F.entry_extend_loop ?_; rw [Around.under_plainId PySem.F.plain_extend_loop _]
    show wpAny _ A.in1 (pyNext (.ref z) >>= _) _ _ _
    refine wpAny_bind (next_item (s := { s with heap := h, toks := tk }) D ap (Heap.lt_size hS) hat hx hy fun g at2 pr gs kp => ?_)
    dsimp only at pr gs kp ⊢
    have hS2 := kp _ _ ap.1 ap.2.2.1 ap.2.2.2.1 ap.2.2.2.2.1 hS
    have up : ∀ b o, b ≠ S → g.get? b = some o → (g.update S (Obj.mapSeq (·.push (Value.ref h.objs.size)))).get? b = some o := fun b o n e => (Heap.get?_update_other _ _ (Ne.symm n)).trans e
    have ne : h.objs.size ≠ S := Nat.ne_of_gt (Heap.lt_size hS)
    show wpAny _ A.in1 (updateSeq S (·.push (Value.ref h.objs.size)) >>= _) _ _ _
    refine wpAny_bind ?_
    refine wpAny_updateSeq hS2 rfl (wpAny_pure ⟨plainId_quiet PySem.F.plain_extend_loop _, ih (i + 1) _ tk _ (acc.push (Value.ref h.objs.size)) (ts ++ [h.objs.size]) (by omega) lt (at2.keep ap up) (fun b o n1 n2 n3 n4 n5 e => up b o n1 (kp b o n2 n3 n4 n5 (keep b o n1 n2 n3 n4 n5 e))) (Heap.get?_update_self _ hS2 rfl) (by rw [Array.toList_push, hacc, List.map_append]; rfl) (by rw [List.length_append, hts]; rfl) ⟨?_, ?_, ?_⟩ ?_⟩) (by rw [sz]; omega) (by show (acc.push (Value.ref h.objs.size)).size ≤ sizeLine + 1; rw [Array.size_push, sz]; omega)
    · refine List.pairwise_append.mpr ⟨hP.rise, List.pairwise_singleton _ _, fun a ha b hb => ?_⟩; rw [List.mem_singleton.mp hb]; exact hP.there ha
    · intro a ha
      rcases List.mem_append.mp ha with ha | ha
      · exact hP.above a ha
      · rw [List.mem_singleton.mp ha]; exact hlo
    · intro j b hj
      by_cases q1 : j < ts.length
      · rw [List.getElem?_append_left q1] at hj
        obtain ⟨x', y', e1, e2, e3⟩ := hP.pairs j b hj
        have := hP.above b (List.mem_of_getElem? hj)
        exact ⟨x', y', e1, e2, up b _ (Nat.ne_of_gt (Nat.lt_of_lt_of_le lw5 this)) (kp b _ (Nat.ne_of_gt (Nat.lt_of_lt_of_le lw1 this)) (Nat.ne_of_gt (Nat.lt_of_lt_of_le lw2 this)) (Nat.ne_of_gt (Nat.lt_of_lt_of_le lw3 this)) (Nat.ne_of_gt (Nat.lt_of_lt_of_le lw4 this)) e3)⟩
      · by_cases q2 : j = ts.length
        · subst q2
          have e : h.objs.size = b := by simpa using hj
          rw [← e, hts]; exact ⟨x, y, hx, hy, up _ _ ne pr⟩
        · have no : (ts ++ [h.objs.size])[j]? = none := List.getElem?_eq_none (by rw [List.length_append, List.length_singleton]; omega)
          rw [no] at hj; cases hj
    · have e : (g.update S (Obj.mapSeq (·.push (Value.ref h.objs.size)))).get? h.objs.size = _ := up _ _ ne pr
      exact Nat.le_of_lt (Nat.lt_of_le_of_lt hlo (Heap.lt_size e))
end
theorem zip_no_len : typeLookup (.type "zip") "__len__" = pure none := by rw [typeLookup_type, builtinLookup_eq_fast]; kernel_rfl
theorem zip_no_hint : typeLookup (.type "zip") "__length_hint__" = pure none := by rw [typeLookup_type, builtinLookup_eq_fast]; kernel_rfl
section
variable {prog : Program} {w : World} {A : Around} {E : Value → Shared → Prop} {s : Shared} {z TI TO i1 i2 l1 l2 : Addr} {xs ys : Array Value}
/-- list(z) of a zip that has not begun -/
theorem call_list {Q : Value → Shared → Prop} (hh : A.handled = none) (D : ZipApart z TI TO i1 i2 l1 l2) (hz : IsZip s.heap z TI TO .none) (hTI : IsPair s.heap TI (.ref i1) (.ref i2)) (hTO : IsPair s.heap TO .none .none) (h1 : s.heap.IsTupleIter i1 l1 0) (h2 : s.heap.IsTupleIter i2 l2 0) (t1 : s.heap.IsTuple l1 xs) (t2 : s.heap.IsTuple l2 ys) (hl : xs.size = ys.size) (hn : xs.size ≤ sizeLine)
    (hQ : ∀ h' tk acc c ts, (∀ b o, b ≠ z → b ≠ TO → b ≠ i1 → b ≠ i2 → s.heap.get? b = some o → h'.get? b = some o) → h'.get? s.heap.objs.size = some (lst acc c) → ts.length = xs.size → Ps xs ys (s.heap.objs.size + 1) h' ts → acc.toList = ts.map Value.ref → Q (.ref s.heap.objs.size) { s with heap := h', toks := tk }) :
    wpAny (model prog w) A (call (.type "list") [.ref z]) Q E s := by
  have low : ∀ {c : Addr} {o : Obj}, s.heap.get? c = some o → c < s.heap.objs.size := fun e => Heap.lt_size e
  have m1 := low hz; have m2 := low hTI; have m3 := low hTO
  have m4 : i1 < s.heap.objs.size := by obtain ⟨_, e, _⟩ := h1; exact low e
  have m5 : i2 < s.heap.objs.size := by obtain ⟨_, e, _⟩ := h2; exact low e
  have m6 : l1 < s.heap.objs.size := by obtain ⟨_, e, _⟩ := t1; exact low e
  have m7 : l2 < s.heap.objs.size := by obtain ⟨_, e, _⟩ := t2; exact low e
  have ap : s.heap.objs.size ≠ z ∧ s.heap.objs.size ≠ TI ∧ s.heap.objs.size ≠ TO ∧ s.heap.objs.size ≠ i1 ∧ s.heap.objs.size ≠ i2 ∧ s.heap.objs.size ≠ l1 ∧ s.heap.objs.size ≠ l2 := ⟨Nat.ne_of_gt m1, Nat.ne_of_gt m2, Nat.ne_of_gt m3, Nat.ne_of_gt m4, Nat.ne_of_gt m5, Nat.ne_of_gt m6, Nat.ne_of_gt m7⟩
  have at0 : At s.heap z TI TO i1 i2 l1 l2 s.heap.objs.size 0 0 xs ys := ⟨.inl ⟨hz, _, _, hTO⟩, hTI, h1, h2, t1, t2⟩
  refine callType_codes (Q₁ := fun obj s1 => obj = .ref s.heap.objs.size ∧ s1 = { s with heap := s.heap.push { cls := .type "list", data := .seq #[] } }) PySem.F.called_list (PySem.F.typeCall_list_1 _) PySem.F.entry_list_init (code_list_new _ ⟨rfl, rfl⟩) fun obj s1 e1 => ?_
  obtain ⟨rfl, rfl⟩ := e1
  have S0 : (s.heap.push { cls := .type "list", data := .seq #[] }).get? s.heap.objs.size = some { cls := .type "list", data := .seq #[] } := Heap.get?_push_size _ rfl
  refine ⟨⟨_, S0, rfl⟩, PySem.F.args_list_init_2 _ _, ?_⟩
  show wpAny _ A.in1.in1 (do let old ← Builtin.List.listItems (.ref s.heap.objs.size); Builtin.List.listUpdate (.ref s.heap.objs.size) (fun _ => #[]); letGo old.toList.reverse; Builtin.List.listExtendWith (.ref s.heap.objs.size) (.ref z) .none) _ _ _
  refine wpAny_bind ?_; unfold Builtin.List.listItems; refine wpAny_bind (wpAny_seqItems S0 rfl (wpAny_pure ?_))
  show wpAny _ A.in1.in1 (updateSeq s.heap.objs.size (fun _ => #[]) >>= fun _ => letGo (#[] : Array Value).toList.reverse >>= fun _ => Builtin.List.listExtendWith (.ref s.heap.objs.size) (.ref z) .none) _ _ _
  refine wpAny_bind (wpAny_updateSeq S0 rfl ?_); have S2 := Heap.get?_update_self (Obj.mapSeq (fun _ => (#[] : Array Value))) S0 rfl
  have p0 : ∀ b o, s.heap.get? b = some o → (s.heap.push { cls := .type "list", data := .seq #[] }).get? b = some o := fun b o e => Heap.get?_push_of_some _ e
  have up : ∀ (h : Heap) (f : Obj → Obj), (∀ b o, s.heap.get? b = some o → h.get? b = some o) → ∀ b o, s.heap.get? b = some o → (h.update s.heap.objs.size f).get? b = some o := fun h f q b o e => (Heap.get?_update_other _ _ (Ne.symm (Nat.ne_of_lt (Heap.lt_size e)))).trans (q b o e)
  have p2 := up _ (Obj.mapSeq (fun _ => (#[] : Array Value))) p0
  refine wpAny_bind (wpAny_letGo ?_); unfold Builtin.List.listExtendWith
  have ty : ∀ {h : Heap}, (∀ b o, s.heap.get? b = some o → h.get? b = some o) → ({ s with heap := h } : Shared).TypeIs (.ref z) "zip" := fun {h} q => ⟨_, q _ _ hz, rfl⟩
  refine wpAny_bind (wpAny_typeOf (ty p2) ?_)
  have e1 : Builtin.List.listSameRef (.ref s.heap.objs.size) (.ref z) = false := by simp [Builtin.List.listSameRef, ap.1]
  have e2 : (Value.type "zip" == Value.type "list") = false := by decide
  have e3 : (Value.type "zip" == Value.type "tuple") = false := by decide
  simp only [e1, e2, e3, Bool.or_false, Bool.false_eq_true, if_false]
  refine wpAny_bind (wpAny_pyIter_zip (s := { s with heap := _ }) (p2 _ _ hz) ?_); refine wpAny_bind (wpAny_holding ?_)
  unfold Builtin.List.listLengthHint
  refine wpAny_bind (wpAny_specialOf (ty p2) zip_no_len ?_)
  show wpAny _ A.in1.in1 (specialOf (Value.ref z) (Str.ofString "__length_hint__") >>= _) _ _ _
  refine wpAny_bind (wpAny_specialOf (ty p2) zip_no_hint ?_); refine wpAny_pure ?_
  show wpAny _ A.in1.in1 (rule "list.extend.makes-room" >>= fun _ => Builtin.List.listTouch (.ref s.heap.objs.size) >>= fun _ => again (.builtin "list.extend.loop" ⟨[.ref s.heap.objs.size, .ref z, .none], []⟩)) _ _ _
  refine wpAny_bind (wpAny_rule ?_); refine wpAny_bind ?_
  show wpAny _ A.in1.in1 (updateSeq s.heap.objs.size (·.push .none) >>= fun _ => updateSeq s.heap.objs.size (·.pop)) _ _ _
  refine wpAny_bind (wpAny_updateSeq S2 rfl ?_); have S3 := Heap.get?_update_self (Obj.mapSeq (·.push Value.none)) S2 rfl
  refine wpAny_updateSeq (hz := by seq_fits) S3 rfl ?_; have S4 := Heap.get?_update_self (Obj.mapSeq (·.pop)) S3 rfl
  have p4 := up _ (Obj.mapSeq (·.pop)) (up _ (Obj.mapSeq (·.push Value.none)) p2)
  refine wpAny_pure ⟨plainId_quiet PySem.F.plain_extend_loop _, ?_⟩
  refine loop (prog := prog) (w := w) (A := A.in1) (R := wants (fun r s2 => r = Value.none ∧ Q (Value.ref s.heap.objs.size) s2) E) (s := s) (lo := s.heap.objs.size + 1) (h1 := s.heap) hh D ap ⟨Nat.lt_succ_of_lt m1, Nat.lt_succ_of_lt m3, Nat.lt_succ_of_lt m4, Nat.lt_succ_of_lt m5, Nat.lt_succ_self _⟩ hl hn .none (fun h' tk acc c ts k1 k2 k3 k4 k5 => ⟨rfl, hQ h' tk acc c ts (fun b o n1 n2 n3 n4 e => k1 b o (Nat.ne_of_lt (Heap.lt_size e)) n1 n2 n3 n4 e) k2 k3 k4 k5⟩) xs.size 0 _ s.toks _ #[] [] (Nat.sub_zero _) (Nat.zero_le _) (at0.keep ap fun b o _ e => p4 b o e) (fun b o _ _ _ _ _ e => p4 b o e) S4 rfl rfl ⟨List.Pairwise.nil, (fun _ q => nomatch q), (fun j a hj => by simp at hj)⟩ ?_
  exact Heap.lt_size S4
end
/-! ### tracked -/
open L2
/-- the tuples tracked at their places -/
def put : Hp → List Addr → List (V × V) → Hp
  | H, a :: as, p :: ps => put (upd H a (.tup [p.1, p.2])) as ps
  | H, _, _ => H
theorem put_off {b : Addr} : ∀ (as : List Addr) (ps : List (V × V)) (H : Hp), b ∉ as → put H as ps b = H b
  | [], _, _, _ => rfl
  | _ :: _, [], _, _ => rfl
  | a :: as, p :: ps, H, h => by
    show put (upd H a (.tup [p.1, p.2])) as ps b = H b
    rw [put_off as ps _ fun z => h (.tail _ z), upd_ne fun z => h (by rw [z]; exact .head _)]
theorem put_at : ∀ {as : List Addr} {ps : List (V × V)} {H : Hp} {j : Nat} {t : Addr} {p : V × V}, as.Nodup → as[j]? = some t → ps[j]? = some p → put H as ps t = some (.tup [p.1, p.2])
  | [], _, _, j, _, _, _, h, _ => by simp at h
  | _ :: _, [], _, j, _, _, _, _, h => by simp at h
  | a :: as, q :: ps, H, 0, t, p, nd, h1, h2 => by
    simp at h1 h2
    subst h1 h2
    show put (upd H a (.tup [q.1, q.2])) as ps a = _
    rw [put_off as ps _ (List.nodup_cons.mp nd).1, upd_same]
  | a :: as, q :: ps, H, j + 1, t, p, nd, h1, h2 => by
    show put (upd H a (.tup [q.1, q.2])) as ps t = _
    exact put_at (List.nodup_cons.mp nd).2 (by simpa using h1) (by simpa using h2)
theorem refs_vals : ∀ ts : List Addr, Vals (ts.map V.ref) (ts.map Value.ref)
  | [] => .nil
  | _ :: ts => .cons rfl (refs_vals ts)
def rLz (K : PySem.W.Frag) : List V → Hp → VK → Prop := fun vs H Q => ∃ (a b : Addr) (us ws : List V), vs = [.ref a, .ref b] ∧ SqT K H a us ∧ SqT K H b ws ∧ us.length = ws.length ∧ us.length ≤ sizeLine ∧
  ∀ (H' : Hp) (p : Addr) (ts : List Addr), (∀ b o, H b = some o → H' b = some o) → H p = none → (∀ t ∈ ts, H t = none) → p ∉ ts → H' p = some (.lst (ts.map V.ref)) → ts.length = us.length → (∀ (j : Nat) (t : Addr), ts[j]? = some t → ∃ x y, us[j]? = some x ∧ ws[j]? = some y ∧ H' t = some (.tup [x, y])) → Q (.ref p) H'
def tLz (K : PySem.W.Frag) (ta : TA) : TE := fun σ H Q => ta σ H fun vs H1 => rLz K vs H1 Q
section
variable {X : Cx}
theorem vals_at : ∀ {us : List V} {xs : List Value} {j : Nat} {x : Value}, Vals us xs → xs[j]? = some x → ∃ u, us[j]? = some u ∧ RelV u x
  | _, _, j, x, .nil, h => by simp at h
  | _, _, 0, x, .cons r _, h => by
    simp at h
    subst h
    exact ⟨_, rfl, r⟩
  | _, _, j + 1, x, .cons _ t, h => by
    obtain ⟨u, e1, e2⟩ := vals_at (j := j) t (by simpa using h)
    exact ⟨u, by simpa using e1, e2⟩
theorem laid {pins : List (Addr × Obj)} {σ : L2.St} {H : Hp} {s : Shared} {h' : Heap} {tk c : Nat} {us ws : List V} {xs ys : List Value} {acc : Array Value} {ts : List Addr} {S : Addr} (I : Inv X pins σ H s) (hz : us.length ≤ sizeLine) (el : us.length = ws.length) (ru : Vals us xs) (rw' : Vals ws ys) (le : s.heap.objs.size ≤ S)
    (hk : ∀ b o, s.heap.get? b = some o → h'.get? b = some o) (hS : h'.get? S = some (lst acc c)) (hl : ts.length = us.length) (hP : Ps xs.toArray ys.toArray (S + 1) h' ts) (hacc : acc.toList = ts.map Value.ref) :
    ∃ H' : Hp, (∀ b o, H b = some o → H' b = some o) ∧ H S = none ∧ (∀ t ∈ ts, H t = none) ∧ S ∉ ts ∧ H' S = some (.lst (ts.map V.ref)) ∧ (∀ (j : Nat) (t : Addr), ts[j]? = some t → ∃ x y, us[j]? = some x ∧ ws[j]? = some y ∧ H' t = some (.tup [x, y])) ∧ Inv X pins σ H' { s with heap := h', toks := tk } := by
  have nS : S ∉ ts := fun z => Nat.lt_irrefl _ (hP.above _ z)
  have nd : ts.Nodup := List.Pairwise.imp (fun {a b} (h : a < b) => Nat.ne_of_lt h) hP.rise
  have new : ∀ t ∈ ts, H t = none := fun t ht => I.hok.fresh (Nat.le_trans le (Nat.le_of_succ_le (hP.above t ht)))
  have newS : H S = none := I.hok.fresh le
  have pair : ∀ (j : Nat) (t : Addr), ts[j]? = some t → ∃ x y u v, xs[j]? = some x ∧ ys[j]? = some y ∧ us[j]? = some u ∧ ws[j]? = some v ∧ RelV u x ∧ RelV v y ∧ IsPair h' t x y ∧ put (upd H S (.lst (ts.map V.ref))) ts (us.zip ws) t = some (.tup [u, v]) := fun j t hj => by
    obtain ⟨x, y, e1, e2, e3⟩ := hP.pairs j t hj
    have e1 : xs[j]? = some x := by simpa using e1
    have e2 : ys[j]? = some y := by simpa using e2
    obtain ⟨u, f1, f2⟩ := vals_at ru e1
    obtain ⟨v, g1, g2⟩ := vals_at rw' e2
    exact ⟨x, y, u, v, e1, e2, f1, g1, f2, g2, e3, put_at (p := (u, v)) nd hj (List.getElem?_zip_eq_some.mpr ⟨f1, g1⟩)⟩
  have off : ∀ b, b ∉ ts → b ≠ S → put (upd H S (.lst (ts.map V.ref))) ts (us.zip ws) b = H b := fun b h1 h2 => by rw [put_off ts _ _ h1, upd_ne h2]
  have low : ∀ b o, s.heap.get? b = some o → b ∉ ts ∧ b ≠ S := fun b o e => ⟨fun z => absurd (Heap.lt_size e) (Nat.not_lt.mpr (Nat.le_trans le (Nat.le_of_succ_le (hP.above b z)))), Nat.ne_of_lt (Nat.lt_of_lt_of_le (Heap.lt_size e) le)⟩
  have kp : ∀ b u, H b = some u → (put (upd H S (.lst (ts.map V.ref))) ts (us.zip ws)) b = some u := fun b u e => by
    rw [off b (fun z => by rw [new b z] at e; cases e) (fun z => by rw [z, newS] at e; cases e)]; exact e
  have eS : put (upd H S (.lst (ts.map V.ref))) ts (us.zip ws) S = some (.lst (ts.map V.ref)) := by rw [put_off ts _ _ nS, upd_same]
  refine ⟨put (upd H S (.lst (ts.map V.ref))) ts (us.zip ws), kp, newS, new, nS, eS, fun j t hj => ?_, ?_⟩
  · obtain ⟨x, y, u, v, _, _, f1, g1, _, _, _, q⟩ := pair j t hj
    exact ⟨u, v, f1, g1, q⟩
  refine I.call' (ch := []) rfl ⟨fun b o q _ _ _ => hk b o q, fun b o q _ _ _ => ⟨o.slots, hk b o q⟩, fun b o q n _ => ?_, fun b o q _ => ⟨o, hk b o q⟩, fun b xs q => kp b _ q, fun b o u q => kp b _ q, fun b ps q => ⟨#[], by rw [kp b _ q]; simp⟩⟩ (fun b u q => ?_) I.bare fun b z => by simp at z
  · obtain ⟨z1, z2⟩ := low b o q
    rw [off b z1 z2]; exact n
  · by_cases hb : b ∈ ts
    · obtain ⟨j, hj⟩ := List.mem_iff_getElem?.mp hb
      obtain ⟨x, y, u, v, _, _, _, _, r1, r2, pr, q2⟩ := pair j b hj
      rw [q2] at q
      cases q
      exact ⟨by show 2 ≤ sizeLine; decide, [x, y], .cons r1 (.cons r2 .nil), ⟨_, pr, rfl, _, rfl⟩⟩
    · by_cases h2 : b = S
      · rw [h2, eS] at q
        cases q
        refine ⟨by rw [List.length_map]; omega, acc.toList, c, by rw [hacc]; exact refs_vals ts, ?_⟩
        rw [Array.toArray_toList, h2]; exact hS
      · rw [off b hb h2] at q
        exact (I.hok b u q).stay (fun d v _ y => hk d v y) (fun d y => kp d _ y) fun d xs y => kp d _ y
/-- list(zip(a, b)), of two tuples -/
theorem pe_listZip {e e2 : Expr} {ta : TA} {p p2 pos pos2 : Pos} (hc : X.calm = true) (ha : PA X [e, e2] ta) (hg : Gl X "list") (hm : X.mg "list" = none) (hv : bootBuiltins "list" = some (.type "list")) (hg2 : Gl X "zip") (hm2 : X.mg "zip" = none)
    (hs : starEach [.Call (.Name "zip" p2) [e, e2] [] pos2] X.env = (false, eval (.Call (.Name "zip" p2) [e, e2] [] pos2) X.env) :: starEach [] X.env := by rfl)
    (hs2 : starEach [e, e2] X.env = (false, eval e X.env) :: starEach [e2] X.env := by rfl) (hpl : (backTo pos2 (starEach [e2] X.env)).any (·.1) = false := by rfl) :
    PE X (.Call (.Name "list" p) [.Call (.Name "zip" p2) [e, e2] [] pos2] [] pos) (tLz X.K ta) := by
  refine ⟨fun pins s σ H Q I hq => ?_⟩
  refine wpAny_Call_Name_kw (ld_blt I hg hm hv ?_); refine PyProof.Rows.callWith_type1 ?_ hs rfl; rw [hs]
  show wpAny _ _ (spliced ((false, eval (.Call (.Name "zip" p2) [e, e2] [] pos2) X.env) :: backTo pos (starEach [] X.env))) _ _ s
  refine Calls.spliced_cons ?_
  refine wpAny_Call_Name_kw (ld_blt I hg2 hm2 PyProof.Rows.boot_zip (PyProof.Rows.callWith_type1 (thn (ha.run pos2 pins s σ H _ I hq) fun vs1 s1 ⟨vs, H1, I1, r1, q1⟩ => ?_) hs2 hpl))
  obtain ⟨a, b, us, ws, ex, sa, sb, el, hz, fin⟩ := q1
  subst ex
  cases r1 with
  | cons r rr =>
    cases rr with
    | cons r' rr =>
      cases rr
      cases r
      cases r'
      obtain ⟨xs, ru, t1, _⟩ := I1.tuple sa
      obtain ⟨ys, rw', t2, _⟩ := I1.tuple sb
      obtain ⟨o1, ho1, _⟩ := id t1
      obtain ⟨o2, ho2, _⟩ := id t2
      have lu := ru.length
      have lw := rw'.length
      refine call_zipT (show s1.heap.IsTuple a xs.toArray from t1) (show s1.heap.IsTuple b ys.toArray from t2) fun h' iz iTI iTO i1 i2 hsz hk => ?_
      refine Calls.spliced_nil ?_
      have T1 : h'.IsTuple a xs.toArray := (show s1.heap.IsTuple a xs.toArray from t1).at fun o e => hk _ o e
      have T2 : h'.IsTuple b ys.toArray := (show s1.heap.IsTuple b ys.toArray from t2).at fun o e => hk _ o e
      refine call_list (s := { s1 with heap := h' }) (I1.ok.hd hc) (PySem.W.ktu_apart s1.heap.objs.size a b (Heap.lt_size ho1) (Heap.lt_size ho2)) iz iTI iTO i1 i2 T1 T2 (by simp; omega) (by simp; omega) fun h2 tk acc c ts k1 k2 k3 k4 k5 => ?_
      have low : ∀ b o, s1.heap.get? b = some o → h2.get? b = some o := fun b o e => by
        have l := Heap.lt_size e
        exact k1 b o (Nat.ne_of_lt (Nat.lt_add_right 4 l)) (Nat.ne_of_lt (Nat.lt_add_right 3 l)) (Nat.ne_of_lt l) (Nat.ne_of_lt (Nat.lt_add_right 1 l)) (hk b o e)
      obtain ⟨H', m1, m2, m3, m4, m5, m6, J⟩ := laid (tk := tk) (S := h'.objs.size) I1 hz el ru rw' (by rw [hsz]; exact Nat.le_add_right _ _) low k2 (by rw [k3]; simp; omega) k4 k5
      exact ⟨.ref _, H', J, rfl, fin H' _ ts m1 m2 m3 m4 m5 (by rw [k3]; simp; omega) m6⟩
end
end Lz


set_option Elab.async false
set_option linter.all false
set_option maxRecDepth 100000
set_option maxHeartbeats 4000000
namespace K82
open PySem PySem.Spec PyProof.Rows L2 Lb Hm
abbrev sIsWhole : Stmt := top 1
abbrev sFits : Stmt := top 7
abbrev sIsWord : Stmt := top 8
abbrev sBehind : Stmt := top 9
abbrev sThings : Stmt := top 10
abbrev sPart : Stmt := top 11
abbrev sBetween : Stmt := top 12
abbrev sARest : Stmt := top 13
abbrev sIsPlan : Stmt := top 15
/-! ### the tables -/
def oV : Option Int → V
  | none => .non
  | some i => .int i
structure Tab (P : Program) (w : World) (K : PySem.W.Frag) (mg : Str → Option Value) : Prop where
  par : ∃ a es, mg "PARTS" = some (.ref a) ∧ KTup P K w a es ∧ ∀ (k : Kd) (z : Str), (k = .rpart ∨ k = .tpart ∨ k = .plan) → match behind k z with
    | none => gotT es (k.s, z) = .non
    | some ks => ∃ b, gotT es (k.s, z) = .ref b ∧ ∀ H, SqT K H b (ks.map fun k => V.str k.s)
  num : ∃ a, mg "NUMBERS" = some (.ref a) ∧ ∀ k : Kd, KHas K w a k.s (bounds k).isSome ∧ ∀ lo hi, bounds k = some (lo, hi) → ∃ b, KDct K w a k.s (.ref b) ∧ ∀ H, SqT K H b [oV lo, oV hi]
  tup : ∃ a, mg "TUPLES" = some (.ref a) ∧ ∀ k : Kd, KHas K w a k.s (inner k).isSome ∧ ∀ i lo hi, inner k = some (i, lo, hi) → ∃ b, KDct K w a k.s (.ref b) ∧ ∀ H, SqT K H b [.str i.s, .int lo, oV hi]
  longest : ∃ t, mg "LONGEST_WORD" = some (.int 8 t)
theorem keys_known : ∀ y ∈ klist, (y.1 = Kd.s .rpart → (behind .rpart y.2).isSome = true) ∧ (y.1 = Kd.s .tpart → (behind .tpart y.2).isSome = true) ∧ (y.1 = Kd.s .plan → (behind .plan y.2).isSome = true) := by decide +kernel
theorem gotT_none {es : List ((Str × Str) × Addr)} {k : Str × Str} (h : k ∉ es.map (·.1)) : gotT es k = .non := by
  have e : es.find? (fun e => decide (e.1 = k)) = none := by
    rw [List.find?_eq_none]
    intro e he q
    exact h (List.mem_map.mpr ⟨e, he, of_decide_eq_true q⟩)
  unfold gotT
  rw [e]
theorem known_in {k : Kd} {z : Str} {ks : List Kd} (h : behind k z = some ks) : ((k.s, z), ks.map fun k => V.str k.s) ∈ tPARTS := by
  cases k <;> simp only [behind] at h <;> try (cases h; done)
  · by_cases h0 : z = "add"
    · rw [if_pos h0] at h; cases h; subst h0; exact List.mem_of_getElem? (i := 0) rfl
    rw [if_neg h0] at h
    by_cases h1 : z = "times"
    · rw [if_pos h1] at h; cases h; subst h1; exact List.mem_of_getElem? (i := 1) rfl
    rw [if_neg h1] at h
    by_cases h2 : z = "rest"
    · rw [if_pos h2] at h; cases h; subst h2; exact List.mem_of_getElem? (i := 2) rfl
    rw [if_neg h2] at h
    by_cases h3 : z = "one"
    · rw [if_pos h3] at h; cases h; subst h3; exact List.mem_of_getElem? (i := 3) rfl
    rw [if_neg h3] at h
    by_cases h4 : z = "sum"
    · rw [if_pos h4] at h; cases h; subst h4; exact List.mem_of_getElem? (i := 4) rfl
    rw [if_neg h4] at h
    cases h
  · by_cases h0 : z = "rest"
    · rw [if_pos h0] at h; cases h; subst h0; exact List.mem_of_getElem? (i := 5) rfl
    rw [if_neg h0] at h
    by_cases h1 : z = "below"
    · rw [if_pos h1] at h; cases h; subst h1; exact List.mem_of_getElem? (i := 6) rfl
    rw [if_neg h1] at h
    by_cases h2 : z = "after"
    · rw [if_pos h2] at h; cases h; subst h2; exact List.mem_of_getElem? (i := 7) rfl
    rw [if_neg h2] at h
    cases h
  · by_cases h0 : z = "list"
    · rw [if_pos h0] at h; cases h; subst h0; exact List.mem_of_getElem? (i := 8) rfl
    rw [if_neg h0] at h
    by_cases h1 : z = "broken"
    · rw [if_pos h1] at h; cases h; subst h1; exact List.mem_of_getElem? (i := 9) rfl
    rw [if_neg h1] at h
    by_cases h2 : z = "count"
    · rw [if_pos h2] at h; cases h; subst h2; exact List.mem_of_getElem? (i := 10) rfl
    rw [if_neg h2] at h
    by_cases h3 : z = "row"
    · rw [if_pos h3] at h; cases h; subst h3; exact List.mem_of_getElem? (i := 11) rfl
    rw [if_neg h3] at h
    by_cases h4 : z = "turn"
    · rw [if_pos h4] at h; cases h; subst h4; exact List.mem_of_getElem? (i := 12) rfl
    rw [if_neg h4] at h
    by_cases h5 : z = "sieve"
    · rw [if_pos h5] at h; cases h; subst h5; exact List.mem_of_getElem? (i := 13) rfl
    rw [if_neg h5] at h
    by_cases h6 : z = "upto"
    · rw [if_pos h6] at h; cases h; subst h6; exact List.mem_of_getElem? (i := 14) rfl
    rw [if_neg h6] at h
    by_cases h7 : z = "cut"
    · rw [if_pos h7] at h; cases h; subst h7; exact List.mem_of_getElem? (i := 15) rfl
    rw [if_neg h7] at h
    by_cases h8 : z = "left"
    · rw [if_pos h8] at h; cases h; subst h8; exact List.mem_of_getElem? (i := 16) rfl
    rw [if_neg h8] at h
    by_cases h9 : z = "chain"
    · rw [if_pos h9] at h; cases h; subst h9; exact List.mem_of_getElem? (i := 17) rfl
    rw [if_neg h9] at h
    by_cases h10 : z = "beside"
    · rw [if_pos h10] at h; cases h; subst h10; exact List.mem_of_getElem? (i := 18) rfl
    rw [if_neg h10] at h
    by_cases h11 : z = "ahead"
    · rw [if_pos h11] at h; cases h; subst h11; exact List.mem_of_getElem? (i := 19) rfl
    rw [if_neg h11] at h
    by_cases h12 : z = "windows"
    · rw [if_pos h12] at h; cases h; subst h12; exact List.mem_of_getElem? (i := 20) rfl
    rw [if_neg h12] at h
    by_cases h13 : z = "marks"
    · rw [if_pos h13] at h; cases h; subst h13; exact List.mem_of_getElem? (i := 21) rfl
    rw [if_neg h13] at h
    by_cases h14 : z = "spare"
    · rw [if_pos h14] at h; cases h; subst h14; exact List.mem_of_getElem? (i := 22) rfl
    rw [if_neg h14] at h
    by_cases h15 : z = "wanted"
    · rw [if_pos h15] at h; cases h; subst h15; exact List.mem_of_getElem? (i := 23) rfl
    rw [if_neg h15] at h
    cases h
theorem tab_of {P : Program} {fa : List He.Fa} {fn : List He.FnD} {w : World} {K : PySem.W.Frag} {h : Heap} {mg : Str → Option Value} (X : K.In h) (G : h.Ns mainGlobals mg) (T : Top P fa fn w K) (lw : ∃ t, mg "LONGEST_WORD" = some (.int 8 t)) : Tab P w K mg := by
  obtain ⟨_, ⟨a, n1, n2, n3⟩, ⟨b, t1, t2, t3⟩, ⟨c, es, p1, p2, p3, p4⟩⟩ := T
  refine ⟨⟨c, es, PySem.W.mg_of X G p1, p2, fun k z hk => ?_⟩, ⟨a, PySem.W.mg_of X G n1, fun k => ⟨?_, fun lo hi e => ?_⟩⟩, ⟨b, PySem.W.mg_of X G t1, fun k => ⟨?_, fun i lo hi e => ?_⟩⟩, lw⟩
  · cases e : behind k z with
    | some ks => exact p4 _ _ (known_in e)
    | none =>
      refine gotT_none ?_
      rw [p3]
      intro q
      have kk := keys_known (k.s, z) q
      rcases hk with rfl | rfl | rfl
      · have := kk.1 rfl
        rw [e] at this
        cases this
      · have := kk.2.1 rfl
        rw [e] at this
        cases this
      · have := kk.2.2 rfl
        rw [e] at this
        cases this
  · cases k
    · exact (n2 _ (List.mem_of_getElem? (i := 0) rfl)).1
    · exact (n2 _ (List.mem_of_getElem? (i := 1) rfl)).1
    · exact (n2 _ (List.mem_of_getElem? (i := 2) rfl)).1
    · exact (n2 _ (List.mem_of_getElem? (i := 3) rfl)).1
    · exact (n2 _ (List.mem_of_getElem? (i := 4) rfl)).1
    all_goals exact n3 _ (by decide +kernel)
  · cases k <;> cases e
    · exact (n2 _ (List.mem_of_getElem? (i := 0) rfl)).2
    · exact (n2 _ (List.mem_of_getElem? (i := 1) rfl)).2
    · exact (n2 _ (List.mem_of_getElem? (i := 2) rfl)).2
    · exact (n2 _ (List.mem_of_getElem? (i := 3) rfl)).2
    · exact (n2 _ (List.mem_of_getElem? (i := 4) rfl)).2
  · cases k
    case nums => exact (t2 _ (List.mem_of_getElem? (i := 0) rfl)).1
    case rule => exact (t2 _ (List.mem_of_getElem? (i := 1) rfl)).1
    case test => exact (t2 _ (List.mem_of_getElem? (i := 2) rfl)).1
    case plans => exact (t2 _ (List.mem_of_getElem? (i := 3) rfl)).1
    case some => exact (t2 _ (List.mem_of_getElem? (i := 4) rfl)).1
    all_goals exact t3 _ (by decide +kernel)
  · cases k <;> cases e
    · exact (t2 _ (List.mem_of_getElem? (i := 0) rfl)).2
    · exact (t2 _ (List.mem_of_getElem? (i := 1) rfl)).2
    · exact (t2 _ (List.mem_of_getElem? (i := 2) rfl)).2
    · exact (t2 _ (List.mem_of_getElem? (i := 3) rfl)).2
    · exact (t2 _ (List.mem_of_getElem? (i := 4) rfl)).2
/-! ### the small defs -/
def spBetween : Sp := fun vs H Q _ => ∃ (x : Int) (lo hi : Option Int), vs = [.int x, oV lo, oV hi] ∧ Q (.bl (betw x lo hi)) H
def spARest : Sp := fun vs H Q _ => ∃ (v u : V) (a b : D), vs = [v, u] ∧ Rep H v a ∧ Rep H u b ∧ Q (.bl (rangeOk b a)) H
def spBehind (K : PySem.W.Frag) : Sp := fun vs H Q _ => ∃ (k : Kd) (v : V) (d : D), vs = [.str k.s, v] ∧ (k = .rpart ∨ k = .tpart ∨ k = .plan) ∧ Rep H v d ∧ ∀ H', Same H H' → match behindD k d with
  | none => Q .non H'
  | some ks => ∀ b, (∀ G, SqT K G b (ks.map fun k => V.str k.s)) → Q (.ref b) H'
section
variable {P : Program} {w : World} {K : PySem.W.Frag} {mg : Str → Option Value} {base : Heap}
theorem scIsWhole : FnScope ["thing"] ["thing"] (defScope sIsWhole) := ⟨rfl, rfl, rfl, by decide +kernel, rfl, by decide +kernel, by decide +kernel⟩
theorem ok_isWhole {f : Addr} {fd : FuncData} (F : Fun K "is_whole" "is_whole" sIsWhole f fd) (B : Blt mg) : FnOk P w K mg base CX0 1 f fd ["thing"] spWhole1 := by
  refine F.ok scIsWhole (fun vs H Q E h => ?_) (fun cdv A outer s H vs Q E hr h => ?_)
  · obtain ⟨v, d, rfl, _⟩ := h
    rfl
  · obtain ⟨v, d, rfl, rp, fin⟩ := h
    refine ⟨_, pss_one (ps_ret (pe_and (pe_callB call_isi (by rfl) B.isinstance boot_isinstance (pa_cons (pv 0) (pa_cons (pe_bltn (v := .ty "int") (by rfl) B.int boot_int rfl) pa_nil)))
      (pe_one (pe_not (pe_callB call_isi (by rfl) B.isinstance boot_isinstance (pa_cons (pv 0) (pa_cons (pe_bltn (v := .ty "bool") (by rfl) B.bool boot_bool rfl) pa_nil))))))), ?_⟩
    refine ⟨_, rfl, v, .ty "int", _, _, _, rfl, .ty _, rp.ty, kit_ty (kit_int _), _, rfl, ?_⟩
    cases d with
    | int i => exact iteT ⟨_, rfl, v, .ty "bool", _, _, _, rfl, .ty _, rp.ty, kit_ty (kit_bool _), _, rfl, fin⟩
    | bl b => exact iteT ⟨_, rfl, v, .ty "bool", _, _, _, rfl, .ty _, rp.ty, kit_ty (kit_bool _), _, rfl, fin⟩
    | non => exact iteF fin
    | str z => exact iteF fin
    | emp => exact iteF fin
    | tup ds => exact iteF fin
abbrev nBetween : List Str := ["number", "least", "most"]
theorem scBetween : FnScope nBetween nBetween (defScope sBetween) := ⟨rfl, rfl, rfl, by decide +kernel, rfl, by decide +kernel, by decide +kernel⟩
theorem ok_between {f : Addr} {fd : FuncData} (F : Fun K "_is_between" "_is_between" sBetween f fd) (B : Blt mg) : FnOk P w K mg base CX0 1 f fd nBetween spBetween := by
  refine F.ok scBetween (fun vs H Q E h => ?_) (fun cdv A outer s H vs Q E hr h => ?_)
  · obtain ⟨x, lo, hi, rfl, _⟩ := h
    rfl
  · obtain ⟨x, lo, hi, rfl, fin⟩ := h
    refine ⟨_, pss_one (ps_ret (pe_and (pe_or (pe_cmp (pc_isN (pv 1))) (pe_one (pe_cmpR op_le (pv 1) (pv 0) (nomark _)))) (pe_one (pe_or (pe_cmp (pc_isN (pv 2))) (pe_one (pe_cmpR op_le (pv 0) (pv 2) (nomark _))))))), ?_⟩
    have second : ∀ b : Bool, Q (.bl (b && hiB x hi)) H → (if b = true then (tOrV (tIsN (tVar 2)) (tOp (rI0 fun i j => .bl (decide (i ≤ j))) (tVar 0) (tVar 2))) [some (.int x), some (oV lo), some (oV hi)] H Q else Q (.bl false) H) := by
      intro b q
      cases b with
      | false => exact q
      | true =>
        refine iteT ⟨_, rfl, _, rfl, ?_⟩
        cases hi with
        | none => exact iteT q
        | some h => exact iteF ⟨_, rfl, _, rfl, _, _, rfl, rfl, q⟩
    unfold betw at fin
    refine ⟨_, rfl, _, rfl, ?_⟩
    cases lo with
    | none => exact iteT ⟨true, rfl, second true fin⟩
    | some l => exact iteF ⟨_, rfl, _, rfl, _, _, rfl, rfl, _, rfl, second _ fin⟩
abbrev nARest : List Str := ["rest", "divisor"]
theorem scARest : FnScope nARest nARest (defScope sARest) := ⟨rfl, rfl, rfl, by decide +kernel, rfl, by decide +kernel, by decide +kernel⟩
theorem ok_aRest {f : Addr} {fd : FuncData} (F : Fun K "_is_a_rest" "_is_a_rest" sARest f fd) (DW : GD P w K mg base CX0 "is_whole" ["thing"] 1 spWhole1) : FnOk P w K mg base CX0 2 f fd nARest spARest := by
  refine F.ok scARest (fun vs H Q E h => ?_) (fun cdv A outer s H vs Q E hr h => ?_)
  · obtain ⟨v, u, a, b, rfl, _⟩ := h
    rfl
  · obtain ⟨v, u, a, b, rfl, ra, rb, fin⟩ := h
    refine ⟨_, pss_one (ps_ret (pe_and (pe_gd DW hr rfl pass0 (pa_cons (pv 0) pa_nil)) (pe_and (pe_gd DW hr rfl pass0 (pa_cons (pv 1) pa_nil)) (pe_one (pe_chain op_le op_lt pe_int (pv 0) (pv 1)))))), ?_⟩
    refine ⟨_, rfl, v, a, rfl, ra, _, rfl, ?_⟩
    cases ha : a.whole with
    | false =>
      rw [rangeOk_b (noInt ha)] at fin
      exact iteF fin
    | true =>
      refine iteT ⟨_, rfl, u, b, rfl, rb, _, rfl, ?_⟩
      cases hb : b.whole with
      | false =>
        rw [rangeOk_a (noInt hb)] at fin
        exact iteF fin
      | true =>
        obtain ⟨i, rfl⟩ : ∃ i, a = .int i := by
          cases a <;> first | exact ⟨_, rfl⟩ | cases ha
        obtain ⟨j, rfl⟩ : ∃ j, b = .int j := by
          cases b <;> first | exact ⟨_, rfl⟩ | cases hb
        obtain rfl : v = .int i := by simpa only [Rep] using ra
        obtain rfl : u = .int j := by simpa only [Rep] using rb
        have fin : Q (.bl (decide (0 ≤ i) && decide (i < j))) H := fin
        refine iteT ⟨_, rfl, _, _, rfl, rfl, _, rfl, ?_⟩
        cases h0 : decide (0 ≤ i) with
        | false =>
          rw [h0] at fin
          exact iteF fin
        | true =>
          rw [h0] at fin
          exact iteT ⟨_, rfl, _, _, rfl, rfl, fin⟩
abbrev nBehind : List Str := ["kind", "word"]
theorem scBehind : FnScope nBehind nBehind (defScope sBehind) := ⟨rfl, rfl, rfl, by decide +kernel, rfl, by decide +kernel, by decide +kernel⟩
theorem ok_behind {f : Addr} {fd : FuncData} (F : Fun K "kinds_behind" "kinds_behind" sBehind f fd) (B : Blt mg) (T : Tab P w K mg) : FnOk P w K mg base CX0 1 f fd nBehind (spBehind K) := by
  obtain ⟨a, es, hm, kt, tab⟩ := T.par
  refine F.ok scBehind (fun vs H Q E h => ?_) (fun cdv A outer s H vs Q E hr h => ?_)
  · obtain ⟨k, v, d, rfl, _⟩ := h
    rfl
  · obtain ⟨k, v, d, rfl, hk, rd, fin⟩ := h
    refine ⟨_, pss_cons (ps_if (pt_not (pt_val (pe_callB call_isi (by rfl) B.isinstance boot_isinstance (pa_cons (pv 1) (pa_cons (pe_bltn (v := .ty "str") (by rfl) B.str boot_str rfl) pa_nil))))) (pss_one (ps_ret pe_non)) pss_nil)
      (pss_one (ps_ret (pe_kget (hu_of hr) (pe_glob (v := .ref a) rfl hm rfl) (pe_tup (pa_cons (pv 0) (pa_cons (pv 1) pa_nil))) ⟨rfl, rfl, rfl, rfl⟩))), ?_⟩
    refine ⟨_, rfl, v, .ty "str", _, _, _, rfl, .ty _, rd.ty, kit_ty (kit_str _), _, rfl, ?_⟩
    cases hd : d.isStr with
    | false =>
      have e : behindD k d = none := by cases d <;> first | rfl | cases hd
      have := fin H (Same.refl H)
      rw [e] at this
      exact iteT this
    | true =>
      obtain ⟨z, rfl⟩ : ∃ z, d = .str z := by
        cases d <;> first | exact ⟨_, rfl⟩ | cases hd
      obtain rfl : v = .str z := by simpa only [Rep] using rd
      refine iteF ⟨a, es, rfl, kt, _, rfl, _, rfl, (by show 2 ≤ sizeLine; decide), fun t nt => ⟨t, k.s, z, rfl, upd_same, ?_⟩⟩
      have f2 := fin _ (Same.new (o := .tup [.str k.s, .str z]) nt)
      have tb := tab k z hk
      have e : behindD k (.str z) = behind k z := rfl
      rw [e] at f2
      cases hb : behind k z with
      | none =>
        rw [hb] at tb f2
        rw [tb]
        exact f2
      | some ks =>
        rw [hb] at tb f2
        obtain ⟨b, e2, sq⟩ := tb
        rw [e2]
        exact f2 b sq
/-- a word -/
def spIsWord : Sp := fun vs H Q _ => ∃ (v : V) (d : D), vs = [v] ∧ Rep H v d ∧ D.size d ≤ 100000 ∧ ∀ H', Same H H' → Q (.bl (wordB d)) H'
abbrev nIsWord : List Str := ["thing", "sign"]
theorem scIsWord : FnScope nIsWord ["thing"] (defScope sIsWord) := ⟨rfl, rfl, rfl, by decide +kernel, rfl, by decide +kernel, by decide +kernel⟩
theorem one_le (c : Nat) : (!decide (((⟨#[c]⟩ : Str)).cps.toList < ("a" : Str).cps.toList)) = decide (97 ≤ c) := by
  have e : ("a" : Str).cps.toList = [97] := by decide +kernel
  rw [e]
  show (!decide ([c] < [97])) = _
  by_cases h : 97 ≤ c
  · rw [decide_eq_true h, decide_eq_false (by simp [List.cons_lt_cons_iff]; omega)]
    rfl
  · rw [decide_eq_false h, decide_eq_true (by simp [List.cons_lt_cons_iff]; omega)]
    rfl
theorem le_one (c : Nat) : (!decide (("z" : Str).cps.toList < ((⟨#[c]⟩ : Str)).cps.toList)) = decide (c ≤ 122) := by
  have e : ("z" : Str).cps.toList = [122] := by decide +kernel
  rw [e]
  show (!decide ([122] < [c])) = _
  by_cases h : c ≤ 122
  · rw [decide_eq_true h, decide_eq_false (by simp [List.cons_lt_cons_iff]; omega)]
    rfl
  · rw [decide_eq_false h, decide_eq_true (by simp [List.cons_lt_cons_iff]; omega)]
    rfl
theorem ok_isWord {f : Addr} {fd : FuncData} (F : Fun K "is_word" "is_word" sIsWord f fd) (B : Blt mg) (T : Tab P w K mg) (DB : GD P w K mg base CX0 "_is_between" nBetween 1 spBetween) : FnOk P w K mg base CX0 2 f fd ["thing"] spIsWord := by
  obtain ⟨t8, m8⟩ := T.longest
  refine F.ok scIsWord (fun vs H Q E h => ?_) (fun cdv A outer s H vs Q E hr h => ?_)
  · obtain ⟨v, d, rfl, _⟩ := h
    rfl
  · obtain ⟨v, d, rfl, rd, sz, fin⟩ := h
    refine ⟨_, pss_cons (ps_if (PW.pt (pw_or (pt_not (pt_val (pe_callB call_isi (by rfl) B.isinstance boot_isinstance (pa_cons (pv 0) (pa_cons (pe_bltn (v := .ty "str") (by rfl) B.str boot_str rfl) pa_nil)))))
          (pw_or1 (pt_not (pt_val (pe_gd DB hr rfl pass0 (pa_cons (pe_callB call_len_str (by rfl) B.len boot_len (pa_cons (pv 0) pa_nil)) (pa_cons pe_int (pa_cons (pe_glob (v := .int 8) rfl m8 ⟨t8, rfl⟩) pa_nil))))))))) (pss_one (ps_ret pe_bl)) pss_nil)
      (pss_one (ps_ret (pe_callB (cr_all rfl) (by rfl) B.all boot_all (pa_cons
          (pe_lc (own := [("sign", 1)]) (g := gName 1) (tt := tYes) rfl scIsWord.nd (pi_str (pv 0)) (blkOk_by (N := nIsWord) (sc := defScope sIsWord) (by decide +kernel)) (fun _ _ _ _ _ => pg_name (i := 1) scIsWord.nd rfl (Or.inl rfl)) (fun _ _ _ _ _ => pts_nil)
            (fun _ _ _ _ _ => pe_chain op_le_str op_le_str pe_str (pv 1) pe_str)) pa_nil)))), ?_⟩
    refine ⟨_, rfl, v, .ty "str", _, _, _, rfl, .ty _, rd.ty, kit_ty (kit_str _), _, rfl, ?_⟩
    cases hd : d.isStr with
    | false =>
      have e : wordB d = false := by cases d <;> first | rfl | cases hd
      have := fin H (Same.refl H)
      rw [e] at this
      exact iteT (iteT this)
    | true =>
      obtain ⟨z, rfl⟩ : ∃ z, d = .str z := by
        cases d <;> first | exact ⟨_, rfl⟩ | cases hd
      obtain rfl : v = .str z := by simpa only [Rep] using rd
      simp only [D.size] at sz
      have zl : z.length ≤ sizeLine := by
        rw [sizeLine_eq]
        omega
      refine iteF ⟨_, rfl, z, rfl, zl, (z.length : Int), some 1, some 8, rfl, _, rfl, ?_⟩
      have eB : betw (z.length : Int) (some 1) (some 8) = decide (1 ≤ z.length ∧ z.length ≤ 8) := by
        show (decide ((1 : Int) ≤ z.length) && decide ((z.length : Int) ≤ 8)) = _
        by_cases h : 1 ≤ z.length ∧ z.length ≤ 8
        · rw [decide_eq_true h, decide_eq_true (by omega), decide_eq_true (by omega)]
          rfl
        · rw [decide_eq_false h]
          by_cases h2 : 1 ≤ z.length
          · rw [decide_eq_true (by omega), decide_eq_false (by omega)]
            rfl
          · rw [decide_eq_false (by omega)]
            rfl
      rw [eB]
      have fin : ∀ H', Same H H' → Q (.bl (decide (1 ≤ z.length ∧ z.length ≤ 8) && z.cps.toList.all fun c => decide (97 ≤ c ∧ c ≤ 122))) H' := fin
      cases hB : decide (1 ≤ z.length ∧ z.length ≤ 8) with
      | false =>
        rw [hB] at fin
        exact iteT (fin H (Same.refl H))
      | true =>
        rw [hB] at fin
        refine iteF ?_
        unfold tCB tCons tNil
        refine ⟨_, rfl, z, rfl, fun q nq => ?_⟩
        refine lc_it (walk_str (z := z)) (fun j G => Same H G ∧ ∃ bs : List Bool, G q = some (.lst (bs.map V.bl)) ∧ bs = (z.cps.toList.take j).map fun c => decide (97 ≤ c ∧ c ≤ 122)) ⟨Same.new nq, [], upd_same, by simp⟩ (fun _ _ _ _ => trivial) ?_ ?_
        · rintro j x G1 G hj ⟨sG, bs, hq, eb⟩ ⟨rfl, c, hc, rfl⟩
          have lb : bs.length = j := by
            rw [eb, List.length_map, List.length_take, Array.length_toList]
            omega
          have zs : z.cps.size ≤ sizeLine := zl
          refine ⟨rfl, ?_⟩
          refine ⟨_, rfl, _, _, rfl, rfl, _, rfl, ?_⟩
          rw [one_le]
          have put : ∀ b : Bool, b = decide (97 ≤ c ∧ c ≤ 122) → ∃ acc, G q = some (.lst acc) ∧ acc.length < sizeLine ∧ Same H (upd G q (.lst (acc ++ [V.bl b]))) ∧ ∃ bs : List Bool, (upd G q (.lst (acc ++ [V.bl b]))) q = some (.lst (bs.map V.bl)) ∧ bs = (z.cps.toList.take (j + 1)).map fun c => decide (97 ≤ c ∧ c ≤ 122) := by
            intro b e
            refine ⟨_, hq, by rw [List.length_map, lb]; omega, fun p o h => ?_, bs ++ [b], by rw [upd_same, List.map_append]; rfl, ?_⟩
            · rw [upd_ne (ne_of_none h nq)]
              exact sG _ _ h
            · have hc2 : z.cps.toList[j]? = some c := by rw [Array.getElem?_toList]; exact hc
              rw [List.take_add_one, hc2, List.map_append, eb, e]
              rfl
          cases h1 : decide (97 ≤ c) with
          | false => exact iteF (put _ (by rw [decide_eq_false]; have := of_decide_eq_false h1; omega))
          | true =>
            refine iteT ⟨_, _, rfl, rfl, ?_⟩
            rw [le_one]
            have h1 := of_decide_eq_true h1
            exact put _ (by by_cases h2 : c ≤ 122 <;> simp [h1, h2])
        · rintro G ⟨sG, bs, hq, eb⟩
          refine ⟨q, bs, rfl, SqL.of hq, ?_⟩
          have e : bs.all id = z.cps.toList.all fun c => decide (97 ≤ c ∧ c ≤ 122) := by
            rw [eb, List.take_of_length_le (by rw [Array.length_toList]; exact Nat.le_refl _), List.all_map]
            rfl
          rw [e]
          exact fin G sG
end
end K82


set_option Elab.async false
set_option linter.all false
set_option maxRecDepth 100000
set_option maxHeartbeats 4000000
namespace K82
open PySem PySem.Spec PyProof.Rows L2 Lb Hm
/-- what is to be seen yet, each a tuple of its kind and the thing -/
def Pend (H H' : Hp) (ts : List Addr) (l : List (Kd × D)) : Prop := ts.length = l.length ∧ ∀ (i : Nat) (t : Addr), ts[i]? = some t → ∃ (p : Kd × D) (x : V), l[i]? = some p ∧ H' t = some (.tup [.str p.1.s, x]) ∧ Rep H x p.2
def SeeQ (Hb H : Hp) (o : Option (List (Kd × D))) (Q : VK) : Prop := match o with
  | none => ∀ H', Same H H' → Q .non H'
  | some l => ∀ (H' : Hp) (q : Addr) (ts : List Addr), Same H H' → H q = none → (∀ t ∈ ts, H t = none) → q ∉ ts → H' q = some (.lst (ts.map V.ref)) → Pend Hb H' ts l → Q (.ref q) H'
def spPart : Sp := fun vs H Q _ => ∃ (Hb : Hp) (k : Kd) (v : V) (ds : List D), vs = [.str k.s, v] ∧ (k = .rpart ∨ k = .tpart ∨ k = .plan) ∧ Same Hb H ∧ Rep Hb v (.tup ds) ∧ sizeL ds ≤ 100000 ∧ SeeQ Hb H (inPart k ds) Q
def spThings (K : PySem.W.Frag) : Sp := fun vs H Q _ => (∃ (Hb : Hp) (k : Kd) (v : V) (d : D), vs = [.str k.s, v] ∧ Same Hb H ∧ Rep Hb v d ∧ D.size d ≤ 100000 ∧ SeeQ Hb H (within k d) Q) ∨
  ∃ (v : V) (T : String), vs = [.str (Kd.s .plan), v] ∧ TyX K H v (.type T) ∧ kitB T "tuple" = some false ∧ ∀ H', Same H H' → Q .non H'
theorem ifnI_F {a b : Int} {A B : Prop} (h : a = b) (x : B) : if (!decide (V.int a = V.int b)) = true then A else B := ifn_F (by rw [h]) x
theorem ifnI_T {a b : Int} {A B : Prop} (h : a ≠ b) (x : A) : if (!decide (V.int a = V.int b)) = true then A else B := ifn_T (fun q => h (V.int.inj q)) x
theorem len_size : ∀ ds : List D, ds.length ≤ sizeL ds
  | [] => Nat.le_refl _
  | d :: ds => by
    have := len_size ds
    have := size_pos d
    simp only [List.length_cons, sizeL]
    omega
/-- t[1:] -/
theorem sl_tail {K : PySem.W.Frag} {H : Hp} {a : Addr} {x : V} {xs : List V} {Q : VK} (h : H a = some (.tup (x :: xs))) (q : ∀ t, H t = none → Q (.ref t) (upd H t (.tup xs))) : rSlA K (.ref a) (some ((1 : Nat) : Int)) none H Q := by
  refine ⟨a, _, rfl, SqT.of h, fun hw => ?_, fun hw t nt => ?_⟩
  · have h2 := hw.1
    rw [HT.sIx_nat] at h2
    simp only [List.length_cons] at h2
    omega
  · have e : cutV (x :: xs) (some ((1 : Nat) : Int)) none = xs := by
      show ((x :: xs).drop (HT.sIx (x :: xs).length 0 (some ((1 : Nat) : Int)))).take (HT.sIx (x :: xs).length (x :: xs).length none - HT.sIx (x :: xs).length 0 (some ((1 : Nat) : Int))) = _
      rw [HT.sIx_none, HT.sIx_nat, Nat.min_eq_left (by simp), List.take_of_length_le]
      · rfl
      · rw [List.length_drop]
        omega
    rw [e]
    exact q t nt
section
variable {P : Program} {w : World} {K : PySem.W.Frag} {mg : Str → Option Value} {base : Heap}
abbrev nPart : List Str := ["kind", "part", "kinds"]
abbrev pPart : List Str := ["kind", "part"]
theorem scPart : FnScope nPart pPart (defScope sPart) := ⟨rfl, rfl, rfl, by decide +kernel, rfl, by decide +kernel, by decide +kernel⟩
theorem n_rt_part : Kd.s .rpart ≠ ("test part" : Str) := by decide +kernel
theorem n_pl_part : Kd.s .plan ≠ ("test part" : Str) := by decide +kernel
theorem ok_part {f : Addr} {fd : FuncData} (F : Fun K "_things_in_part" "_things_in_part" sPart f fd) (B : Blt mg) (bl : mg "list" = none) (bz : mg "zip" = none)
    (DK : GD P w K mg base CX0 "kinds_behind" nBehind 1 (spBehind K)) (DA : GD P w K mg base CX0 "_is_a_rest" nARest 2 spARest) : FnOk P w K mg base CX0 3 f fd pPart spPart := by
  refine F.ok scPart (fun vs H Q E h => ?_) (fun cdv A outer s H vs Q E hr h => ?_)
  · obtain ⟨Hb, k, v, ds, rfl, _⟩ := h
    rfl
  · obtain ⟨Hb, k, v, ds, rfl, hk, sB, rp, sz, fin⟩ := h
    have hr1 := hr.mono (show 1 ≤ 2 by omega)
    refine ⟨_, pss_cons (ps_set (i := 2) scPart.nd rfl (.inl rfl) (pe_ifExp (pt_truth (pv 1) (fun _ => rfl)) (pe_gd DK hr1 rfl pass0 (pa_cons (pv 0) (pa_cons (pe_ix ix_tup (pv 1) pe_int (fun _ _ => rfl)) pa_nil))) pe_non))
      (pss_cons (ps_if (PW.pt (pw_or (pt_cmp (pc_isN (pv 2))) (pw_or1 (pt_cmpR op_ne (pe_callB call_len_seq (by rfl) B.len boot_len (pa_cons (pv 1) pa_nil)) (pe_op op_add pe_int (pe_callB call_len_seq (by rfl) B.len boot_len (pa_cons (pv 2) pa_nil))) (nomark _))))) (pss_one (ps_ret pe_non)) pss_nil)
      (pss_cons (ps_if (PW.pt (pw_and (pt_cmpR op_eq (pv 0) pe_str (nomark _)) (pw_and (pt_cmpR op_eq (pe_ix ix_tup (pv 1) pe_int (fun _ _ => rfl)) pe_str (nomark _)) (pw_and1 (pt_not (pt_val (pe_gd DA hr rfl pass0 (pa_cons (pe_ix ix_tup (pv 1) pe_int (fun _ _ => rfl)) (pa_cons (pe_ix ix_tup (pv 1) pe_int (fun _ _ => rfl)) pa_nil))))))))) (pss_one (ps_ret pe_non)) pss_nil)
      (pss_one (ps_ret (Lz.pe_listZip rfl (pa_cons (pv 2) (pa_cons (pe_slice sl_tupA (pv 1) (po_some pe_int) po_none) pa_nil)) rfl bl (by decide +kernel) rfl bz))))), ?_⟩
    obtain ⟨p, us, rfl, hp, rl⟩ := rp.tupE
    have hp := sB _ _ hp
    match ds, us, rl with
    | [], us, rl =>
      obtain rfl : us = [] := by simpa only [RepL] using rl
      refine ⟨_, rfl, false, .inr (.inl ⟨[], SqT.of hp, rfl⟩), iteF ?_⟩
      exact ⟨_, rfl, _, rfl, iteT (iteT (fin H (Same.refl H)))⟩
    | w :: r, us, rl =>
      simp only [RepL] at rl
      obtain ⟨x, xs, rfl, rxB, rrB⟩ := rl
      have rx := rxB.same sB
      have rr := RepL.keepSame sB rrB
      have lxs := rr.length
      refine ⟨_, rfl, true, .inr (.inl ⟨x :: xs, SqT.of hp, rfl⟩), iteT ⟨_, rfl, _, rfl, p, _, 0, x, rfl, rfl, SqT.of hp, at_of (j := 0) (by omega) rfl, k, x, w, rfl, hk, rx, fun G s1 => ?_⟩⟩
      cases hb : behindD k w with
      | none =>
        rw [inPart_none hb] at fin
        exact ⟨_, rfl, _, rfl, iteT (iteT (fin G s1))⟩
      | some ks =>
        rw [inPart_some hb] at fin
        intro b sq
        have hpG := s1 _ _ hp
        refine ⟨_, rfl, _, rfl, iteF ⟨_, rfl, p, _, rfl, .inr (SqT.of hpG), _, rfl, b, _, rfl, .inr (sq G), _, _, rfl, rfl, rfl, _, rfl, ?_⟩⟩
        by_cases hl : r.length = ks.length
        rotate_left
        · rw [if_neg hl] at fin
          refine ifnI_T ?_ (fin G s1)
          simp only [List.length_cons, List.length_map]
          omega
        rw [if_pos hl] at fin
        refine ifnI_F ?_ ?_
        · simp only [List.length_cons, List.length_map]
          omega
        have done : (isRest k w && !restOk r) = false → (tRet (Lz.tLz K (tCons (tVar 2) (tCons (tSl (rSlA K) (tVar 1) (tPart (tC (.int 1))) tNoPart) tNil)))) { nx := fun x H' => Q V.non H', rt := Q } [some (.str k.s), some (.ref p), some (.ref b)] G := by
          intro hrest
          rw [hrest] at fin
          rw [if_neg Bool.false_ne_true] at fin
          refine ⟨_, rfl, _, rfl, ((1 : Nat) : Int), rfl, ?_⟩
          unfold tNoPart
          refine sl_tail (K := K) hpG fun t nt => ?_
          have s2 : Same G (upd G t (.tup xs)) := Same.new nt
          refine ⟨b, t, _, xs, rfl, sq _, SqT.of upd_same, by rw [List.length_map]; omega, ?_, fun H' q ts k1 k2 k3 k4 k5 k6 k7 => ?_⟩
          · have := len_size (w :: r)
            simp only [List.length_cons] at this
            rw [List.length_map, sizeLine_eq]
            omega
          have back : ∀ c, upd G t (.tup xs) c = none → H c = none := fun c z => by
            cases e : H c with
            | none => rfl
            | some o =>
              rw [(s1.trans s2) _ _ e] at z
              cases z
          refine fin H' q ts (s1.trans (s2.trans fun c o e => k1 c o e)) (back _ k2) (fun t ht => back _ (k3 t ht)) k4 k5 ⟨by rw [k6, List.length_map, List.length_zip, hl, Nat.min_self], fun i t hi => ?_⟩
          obtain ⟨a, c, e1, e2, e3⟩ := k7 i t hi
          rw [List.getElem?_map] at e1
          obtain ⟨kk, f1, f2⟩ := Option.map_eq_some_iff.mp e1
          have li : i < r.length := by
            have := (List.getElem?_eq_some_iff.mp e2).1
            omega
          obtain ⟨d, hd⟩ : ∃ d, r[i]? = some d := ⟨r[i], List.getElem?_eq_getElem li⟩
          obtain ⟨c', g1, g2⟩ := rrB.at_ hd
          rw [e2] at g1
          cases g1
          refine ⟨(kk, d), c, List.getElem?_zip_eq_some.mpr ⟨f1, hd⟩, ?_, g2⟩
          rw [e3, ← f2]
        rcases hk with rfl | rfl | rfl
        · exact ⟨_, rfl, rfl, _, rfl, eqS_F n_rt_part (iteF (done rfl))⟩
        rotate_left
        · exact ⟨_, rfl, rfl, _, rfl, eqS_F n_pl_part (iteF (done rfl))⟩
        · obtain ⟨z, rfl⟩ : ∃ z, w = .str z := by
            cases w <;> first | exact ⟨_, rfl⟩ | cases hb
          obtain rfl : x = .str z := by simpa only [Rep] using rx
          refine ⟨_, rfl, rfl, _, rfl, eqS_T ⟨_, rfl, p, _, 0, _, rfl, rfl, SqT.of hpG, at_of (j := 0) (by omega) rfl, rfl, _, rfl, ?_⟩⟩
          by_cases hz : z = "rest"
          · subst hz
            obtain rfl : [Kd.dvs, Kd.num] = ks := Option.some.inj hb
            match r, xs, hl, rr with
            | [a, c], xs, _, rr =>
              simp only [RepL] at rr
              obtain ⟨va, _, rfl, ra, vc, _, rfl, rc, rfl⟩ := rr
              refine eqS_T ⟨_, rfl, p, _, 2, vc, rfl, rfl, SqT.of hpG, rfl, _, rfl, p, _, 1, va, rfl, rfl, SqT.of hpG, rfl, vc, va, c, a, rfl, rc.same s1, ra.same s1, rangeOk a c, rfl, ?_⟩
              cases hR : rangeOk a c with
              | true =>
                refine iteF (done ?_)
                show (isRest .tpart (.str "rest") && !rangeOk a c) = false
                rw [hR]
                simp
              | false =>
                refine iteT ?_
                have e : (isRest .tpart (.str "rest") && !restOk [a, c]) = true := by
                  show (isRest .tpart (.str "rest") && !rangeOk a c) = true
                  rw [hR]
                  decide +kernel
                rw [if_pos e] at fin
                exact fin G s1
          · refine eqS_F hz (iteF (done ?_))
            show (decide (z = "rest") && _) = false
            rw [decide_eq_false hz]
            rfl
end
end K82


set_option Elab.async false
set_option linter.all false
set_option maxRecDepth 100000
set_option maxHeartbeats 4000000
namespace K82
open PySem PySem.Spec PyProof.Rows L2 Lb Hm
/-- [(kind, one) for one in t] -/
theorem pend_lc {K : PySem.W.Frag} {p : Addr} {vs : List V} {ds : List D} {a i ki : Nat} {kk : Kd} {σ : L2.St} {Hb H : Hp} {Q : VK} (hσ : σ[a]? = some (some (.ref p))) (hp : H p = some (.tup vs)) (rl : RepL Hb vs ds) (sz : vs.length ≤ 100000)
    (hw : ∀ x : V, wipe ((wipe σ [i]).set i (some x)) [i] = wipe σ [i]) (hk : ∀ x : V, ((wipe σ [i]).set i (some x))[ki]? = some (some (.str kk.s))) (ho : ∀ x : V, ((wipe σ [i]).set i (some x))[i]? = some (some x))
    (fin : ∀ (H' : Hp) (q : Addr) (ts : List Addr), Same H H' → H q = none → (∀ t ∈ ts, H t = none) → q ∉ ts → H' q = some (.lst (ts.map V.ref)) → Pend Hb H' ts (ds.map fun d => (kk, d)) → Q (.ref q) H') :
    tLc (iTup K (tVar a)) (gName i) tYes (tTup (tCons (tVar ki) (tCons (tVar i) tNil))) [i] σ H Q := by
  have lvs := rl.length
  refine ⟨_, hσ, p, rfl, ⟨_, SqT.of hp⟩, fun d nd => ?_⟩
  refine lc_tup (K := K) (a := p) (xs := vs) (fun j G => Same H G ∧ ∃ ts : List Addr, G d = some (.lst (ts.map V.ref)) ∧ ts.length = j ∧ (∀ t ∈ ts, H t = none ∧ t ≠ d) ∧ ∀ (i : Nat) (t : Addr), ts[i]? = some t → ∃ x, vs[i]? = some x ∧ G t = some (.tup [.str kk.s, x]))
    ⟨Same.new nd, [], upd_same, rfl, (fun _ q => by cases q), fun i t q => by simp at q⟩ (fun j G _ q => SqT.of (q.1 _ _ hp)) ?_ ?_
  · rintro j x G hx ⟨sG, ts, gd, lt, new, at_⟩
    have hj : j < vs.length := (List.getElem?_eq_some_iff.mp hx).1
    refine ⟨hw _, ?_⟩
    refine ⟨_, hk x, _, ho x, (by show 2 ≤ sizeLine; decide), fun t nt => ?_⟩
    have ndt : d ≠ t := ne_of_none gd nt
    refine ⟨ts.map V.ref, by rw [upd_ne ndt]; exact gd, ?_, ?_, ts ++ [t], ?_, by rw [List.length_append, lt]; rfl, ?_, ?_⟩
    · rw [List.length_map, lt, sizeLine_eq]
      omega
    · intro c o e
      rw [upd_ne (ne_of_none e nd), upd_ne (ne_of_none (sG _ _ e) nt)]
      exact sG _ _ e
    · rw [upd_same, List.map_append]
      rfl
    · intro c hc
      rcases List.mem_append.mp hc with hc | hc
      · exact new c hc
      · rw [List.mem_singleton.mp hc]
        refine ⟨?_, ndt.symm⟩
        cases e : H t with
        | none => rfl
        | some o =>
          rw [sG _ _ e] at nt
          cases nt
    · intro m c hc
      by_cases hm : m < ts.length
      · rw [List.getElem?_append_left hm] at hc
        obtain ⟨y, e1, e2⟩ := at_ m c hc
        refine ⟨y, e1, ?_⟩
        rw [upd_ne (new c (List.mem_of_getElem? hc)).2, upd_ne (ne_of_none e2 nt)]
        exact e2
      · by_cases hm2 : m = ts.length
        · subst hm2
          have e : t = c := by simpa using hc
          subst e
          refine ⟨x, by rw [lt]; exact hx, ?_⟩
          rw [upd_ne ndt.symm, upd_same]
        · rw [List.getElem?_eq_none (by rw [List.length_append, List.length_singleton]; omega)] at hc
          cases hc
  · rintro G ⟨sG, ts, gd, lt, new, at_⟩
    refine fin G d ts sG nd (fun t ht => (new t ht).1) (fun z => (new d z).2 rfl) gd ⟨by rw [lt, List.length_map, lvs], fun i t hi => ?_⟩
    obtain ⟨x, e1, e2⟩ := at_ i t hi
    obtain ⟨d', hd'⟩ : ∃ d', ds[i]? = some d' := ⟨ds[i]'(by have := (List.getElem?_eq_some_iff.mp e1).1; omega), List.getElem?_eq_getElem _⟩
    obtain ⟨x', f1, f2⟩ := rl.at_ hd'
    rw [e1] at f1
    cases f1
    exact ⟨(kk, d'), x, by rw [List.getElem?_map, hd']; rfl, e2, f2⟩
section
variable {P : Program} {w : World} {K : PySem.W.Frag} {mg : Str → Option Value} {base : Heap}
abbrev nThings : List Str := ["kind", "thing", "least", "most", "inner_kind", "fewest", "one"]
abbrev pThings : List Str := ["kind", "thing"]
theorem scThings : FnScope nThings pThings (defScope sThings) := ⟨rfl, rfl, rfl, by decide +kernel, rfl, by decide +kernel, by decide +kernel⟩
theorem nils' {σ : L2.St} {H : Hp} (Q2 : VK) (q : ∀ (q : Addr) (H' : Hp), H q = none → Same H H' → H' q = some (.lst []) → Q2 (.ref q) H') : (tLst tNil) σ H Q2 :=
  ⟨by show 0 ≤ sizeLine; decide, fun l nl => q l _ nl (Same.new nl) upd_same⟩
theorem no_word : ∀ k : Kd, k ≠ .word → k.s ≠ ("word" : Str) := by
  intro k h
  cases k <;> first | exact absurd rfl h | decide +kernel
theorem ok_things {f : Addr} {fd : FuncData} (F : Fun K "_things_within" "_things_within" sThings f fd) (B : Blt mg) (T : Tab P w K mg)
    (DW : GD P w K mg base CX0 "is_whole" ["thing"] 1 spWhole1) (DB : GD P w K mg base CX0 "_is_between" nBetween 1 spBetween) (DI : GD P w K mg base CX0 "is_word" ["thing"] 2 spIsWord)
    (DP : GD P w K mg base CX0 "_things_in_part" pPart 3 spPart) : FnOk P w K mg base CX0 4 f fd pThings (spThings K) := by
  obtain ⟨an, hmN, tn⟩ := T.num
  obtain ⟨at_, hmT, tt⟩ := T.tup
  refine F.ok scThings (fun vs H Q E h => ?_) (fun cdv A outer s H vs Q E hr h => ?_)
  · rcases h with ⟨Hb, k, v, d, rfl, _⟩ | ⟨v, T, rfl, _⟩ <;> rfl
  · have hr1 := hr.mono (show 1 ≤ 3 by omega)
    have hr2 := hr.mono (show 2 ≤ 3 by omega)
    refine ⟨_, pss_cons (ps_if (pt_cmpR op_inK (pv 0) (pe_glob (v := .ref an) rfl hmN rfl) (by with_unfolding_all rfl))
        (pss_cons (ps_asg (pe_ix ix_kdict (pe_glob (v := .ref an) rfl hmN rfl) (pv 0) (fun _ _ => rfl)) (pg_tup rfl (pgs_cons (pg_name (i := 2) scThings.nd rfl (.inl rfl)) (pgs_cons (pg_name (i := 3) scThings.nd rfl (.inl rfl)) pgs_nil))))
        (pss_one (ps_ret (pe_ifExp (PW.pt (pw_and (pt_val (pe_gd DW hr1 rfl pass0 (pa_cons (pv 1) pa_nil))) (pw_and1 (pt_val (pe_gd DB hr1 rfl pass0 (pa_cons (pv 1) (pa_cons (pv 2) (pa_cons (pv 3) pa_nil)))))))) (pe_lst pa_nil) pe_non)))) pss_nil)
      (pss_cons (ps_if (pt_cmpR op_eq (pv 0) pe_str (nomark _)) (pss_one (ps_ret (pe_ifExp (pt_val (pe_gd DI hr2 rfl pass0 (pa_cons (pv 1) pa_nil))) (pe_lst pa_nil) pe_non))) pss_nil)
      (pss_cons (ps_if (pt_not (pt_val (pe_callB call_isi (by rfl) B.isinstance boot_isinstance (pa_cons (pv 1) (pa_cons (pe_bltn (v := .ty "tuple") (by rfl) B.tuple boot_tuple rfl) pa_nil))))) (pss_one (ps_ret pe_non)) pss_nil)
      (pss_cons (ps_if (pt_cmpR op_inK (pv 0) (pe_glob (v := .ref at_) rfl hmT rfl) (by with_unfolding_all rfl))
        (pss_cons (ps_asg (pe_ix ix_kdict (pe_glob (v := .ref at_) rfl hmT rfl) (pv 0) (fun _ _ => rfl)) (pg_tup rfl (pgs_cons (pg_name (i := 4) scThings.nd rfl (.inr rfl)) (pgs_cons (pg_name (i := 5) scThings.nd rfl (.inl rfl)) (pgs_cons (pg_name (i := 3) scThings.nd rfl (.inl rfl)) pgs_nil)))))
        (pss_one (ps_ret (pe_ifExp (pt_val (pe_gd DB hr1 rfl pass0 (pa_cons (pe_callB call_len_seq (by rfl) B.len boot_len (pa_cons (pv 1) pa_nil)) (pa_cons (pv 5) (pa_cons (pv 3) pa_nil)))))
          (pe_lc (own := [("one", 6)]) (g := gName 6) (tt := tYes) (te := tTup (tCons (tVar 4) (tCons (tVar 6) tNil))) rfl scThings.nd (pi_tup (pv 1)) (blkOk_by (N := nThings) (sc := defScope sThings) (by decide +kernel)) (fun _ _ _ _ _ => pg_name (i := 6) scThings.nd rfl (Or.inl rfl)) (fun _ _ _ _ _ => pts_nil)
            (fun _ _ _ _ _ => pe_tup (pa_cons (pv 4) (pa_cons (pv 6) pa_nil)))) pe_non)))) pss_nil)
      (pss_one (ps_ret (pe_gd DP hr rfl pass0 (pa_cons (pv 0) (pa_cons (pv 1) pa_nil)))))))), ?_⟩
    rcases h with ⟨Hb, k, v, d, rfl, sB, rpB, sz, fin⟩ | ⟨v, T, rfl, ty, kt, fin⟩
    rotate_left
    · obtain ⟨tn1, _⟩ := tn .plan
      refine ⟨_, rfl, an, _, _, rfl, rfl, tn1, _, rfl, iteF ⟨_, rfl, rfl, _, rfl, eqS_F (no_word .plan (by simp)) ?_⟩⟩
      exact ⟨_, rfl, v, .ty "tuple", _, _, _, rfl, .ty _, ty, kit_ty kt, _, rfl, iteT (fin H (Same.refl H))⟩
    have rp := rpB.same sB
    obtain ⟨tn1, tn2⟩ := tn k
    obtain ⟨tt1, tt2⟩ := tt k
    refine ⟨_, rfl, an, k.s, _, rfl, rfl, tn1, _, rfl, ?_⟩
    cases hb : bounds k with
    | some lh =>
      obtain ⟨lo, hi⟩ := lh
      obtain ⟨b, kd, sq⟩ := tn2 lo hi hb
      have win : within k d = if inB d lo hi = true then some [] else none := by
        unfold within
        rw [hb]
      rw [win] at fin
      refine iteT ⟨_, rfl, an, k.s, .ref b, rfl, rfl, kd, b, _, rfl, sq H, rfl, _, _, rfl, _, _, rfl, rfl, ?_⟩
      refine ⟨_, rfl, v, d, rfl, rp, _, rfl, ?_⟩
      cases hw : d.whole with
      | false =>
        have e : inB d lo hi = false := by cases d <;> first | rfl | cases hw
        rw [e] at fin
        exact iteF (iteF (fin H (Same.refl H)))
      | true =>
        obtain ⟨x, rfl⟩ : ∃ x, d = .int x := by
          cases d <;> first | exact ⟨_, rfl⟩ | cases hw
        obtain rfl : v = .int x := by simpa only [Rep] using rp
        have fin : SeeQ Hb H (if (betw x lo hi) = true then some [] else none) Q := fin
        refine iteT ⟨_, rfl, _, rfl, _, rfl, x, lo, hi, rfl, _, rfl, ?_⟩
        cases hB : betw x lo hi with
        | false =>
          rw [hB] at fin
          exact iteF (fin H (Same.refl H))
        | true =>
          rw [hB] at fin
          exact iteT (nils' _ fun q H' n s e => fin H' q [] s n (fun _ z => by cases z) (fun z => by cases z) e ⟨rfl, fun i t z => by simp at z⟩)
    | none =>
      by_cases hword : k = .word
      · subst hword
        have fin : SeeQ Hb H (if wordB d = true then some [] else none) Q := fin
        refine iteF ⟨_, rfl, rfl, _, rfl, eqS_T ⟨_, rfl, v, d, rfl, rp, sz, fun G sG => ⟨_, rfl, ?_⟩⟩⟩
        cases hB : wordB d with
        | false =>
          rw [hB] at fin
          exact iteF (fin G sG)
        | true =>
          rw [hB] at fin
          refine iteT (nils' _ fun q H' n s e => fin H' q [] (sG.trans s) ?_ (fun _ z => by cases z) (fun z => by cases z) e ⟨rfl, fun i t z => by simp at z⟩)
          cases e2 : H q with
          | none => rfl
          | some o =>
            rw [sG _ _ e2] at n
            cases n
      refine iteF ⟨_, rfl, rfl, _, rfl, eqS_F (no_word k hword) ?_⟩
      refine ⟨_, rfl, v, .ty "tuple", _, _, _, rfl, .ty _, rp.ty, kit_ty (kit_tuple _), _, rfl, ?_⟩
      cases ht : d.isTup with
      | false =>
        have e : within k d = none := by
          cases k <;> first | (cases hb; done) | exact absurd rfl hword | (cases d <;> first | rfl | cases ht)
        rw [e] at fin
        exact iteT (fin H (Same.refl H))
      | true =>
        obtain ⟨ds, rfl⟩ : ∃ ds, d = .tup ds := by
          cases d <;> first | exact ⟨_, rfl⟩ | cases ht
        obtain ⟨p, us, rfl, hpB, rl⟩ := rpB.tupE
        have hp := sB _ _ hpB
        have lus := rl.length
        simp only [D.size] at sz
        have ls := len_size ds
        refine iteF ⟨_, rfl, at_, k.s, _, rfl, rfl, tt1, _, rfl, ?_⟩
        cases hi : inner k with
        | some ilh =>
          obtain ⟨i, lo, hi2⟩ := ilh
          obtain ⟨b, kd, sq⟩ := tt2 i lo hi2 hi
          have win : within k (.tup ds) = if betw ds.length (some lo) hi2 = true then some (ds.map fun d => (i, d)) else none := by
            cases k <;> cases hi <;> rfl
          rw [win] at fin
          refine iteT ⟨_, rfl, at_, k.s, .ref b, rfl, rfl, kd, b, _, rfl, sq H, rfl, _, _, rfl, _, _, rfl, _, _, rfl, rfl, ?_⟩
          refine ⟨_, rfl, p, us, rfl, .inr (SqT.of hp), _, rfl, _, rfl, (us.length : Int), some lo, hi2, rfl, _, rfl, ?_⟩
          rw [lus]
          cases hB : betw ds.length (some lo) hi2 with
          | false =>
            rw [hB] at fin
            exact iteF (fin H (Same.refl H))
          | true =>
            rw [hB] at fin
            exact iteT (pend_lc (K := K) (a := 1) (i := 6) (ki := 4) (kk := i) rfl hp rl (by omega) (fun _ => rfl) (fun _ => rfl) (fun _ => rfl) fin)
        | none =>
          refine iteF ⟨_, rfl, _, rfl, Hb, k, .ref p, ds, rfl, ?_, sB, rpB, by omega, ?_⟩
          · cases k <;> first | (cases hb; done) | (cases hi; done) | exact absurd rfl hword | exact .inl rfl | exact .inr (.inl rfl) | exact .inr (.inr rfl)
          · cases k <;> first | (cases hb; done) | (cases hi; done) | exact absurd rfl hword | exact fin
end
end K82


set_option Elab.async false
set_option linter.all false
set_option maxRecDepth 100000
set_option maxHeartbeats 4000000
namespace K82
open PySem PySem.Spec PyProof.Rows L2 Lb Hm
def spFits (K : PySem.W.Frag) (n : Nat) : Sp := fun vs H Q _ => (∃ (k : Kd) (v : V) (d : D), vs = [.str k.s, v] ∧ Rep H v d ∧ d.Deep n ∧ D.size d ≤ 100000 ∧ ∀ H', Same H H' → Q (.bl (okD n k d)) H') ∨
  ∃ (v : V) (T : String), vs = [.str (Kd.s .plan), v] ∧ (∀ G, Same H G → TyX K G v (.type T)) ∧ kitB T "tuple" = some false ∧ ∀ H', Same H H' → Q (.bl false) H'
theorem Pend.same {H G G' : Hp} {ts : List Addr} {ps : List (Kd × D)} (h : Pend H G ts ps) (s : ∀ t ∈ ts, ∀ xs, G t = some (.tup xs) → G' t = some (.tup xs)) : Pend H G' ts ps := by
  refine ⟨h.1, fun i t hi => ?_⟩
  obtain ⟨p, x, e1, e2, e3⟩ := h.2 i t hi
  exact ⟨p, x, e1, s t (List.mem_of_getElem? hi) _ e2, e3⟩
theorem Pend.tup {H G : Hp} {ts : List Addr} {ps : List (Kd × D)} (h : Pend H G ts ps) {t : Addr} (ht : t ∈ ts) : ∃ xs, G t = some (.tup xs) := by
  obtain ⟨i, hi⟩ := List.getElem?_of_mem ht
  obtain ⟨_, _, _, e, _⟩ := h.2 i t hi
  exact ⟨_, e⟩
theorem Pend.app {H G : Hp} {ts us : List Addr} {ps qs : List (Kd × D)} (a : Pend H G ts ps) (b : Pend H G us qs) : Pend H G (ts ++ us) (ps ++ qs) := by
  refine ⟨by rw [List.length_append, List.length_append, a.1, b.1], fun i t hi => ?_⟩
  by_cases h : i < ts.length
  · rw [List.getElem?_append_left h] at hi
    obtain ⟨p, x, e1, e2, e3⟩ := a.2 i t hi
    exact ⟨p, x, by rw [List.getElem?_append_left (by rw [← a.1]; exact h)]; exact e1, e2, e3⟩
  · rw [List.getElem?_append_right (by omega)] at hi
    obtain ⟨p, x, e1, e2, e3⟩ := b.2 _ t hi
    refine ⟨p, x, ?_, e2, e3⟩
    rw [List.getElem?_append_right (by rw [← a.1]; omega), ← a.1]
    exact e1
theorem Pend.left {H G : Hp} {ts us : List Addr} {ps qs : List (Kd × D)} (a : Pend H G (ts ++ us) (ps ++ qs)) (l : ts.length = ps.length) : Pend H G ts ps := by
  refine ⟨l, fun i t hi => ?_⟩
  have h : i < ts.length := (List.getElem?_eq_some_iff.mp hi).1
  obtain ⟨p, x, e1, e2, e3⟩ := a.2 i t (by rw [List.getElem?_append_left h]; exact hi)
  rw [List.getElem?_append_left (by omega)] at e1
  exact ⟨p, x, e1, e2, e3⟩
section
variable {P : Program} {w : World} {K : PySem.W.Frag} {mg : Str → Option Value} {base : Heap}
abbrev nFits : List Str := ["kind", "thing", "to_see", "one_kind", "one", "within"]
abbrev pFits : List Str := ["kind", "thing"]
theorem scFits : FnScope nFits pFits (defScope sFits) := ⟨rfl, rfl, rfl, by decide +kernel, rfl, by decide +kernel, by decide +kernel⟩
theorem ok_fits {f : Addr} {fd : FuncData} (F : Fun K "fits" "fits" sFits f fd) (n : Nat) (DT : GD P w K mg base CX0 "_things_within" pThings 4 (spThings K)) : FnOk P w K mg base CX0 5 f fd pFits (spFits K n) := by
  refine F.ok scFits (fun vs H Q E h => ?_) (fun cdv A outer s H vs Q E hr h => ?_)
  · rcases h with ⟨k, v, d, rfl, _⟩ | ⟨v, T, rfl, _⟩ <;> rfl
  · refine ⟨_, pss_cons (ps_set (i := 2) scFits.nd rfl (.inl rfl) (pe_lst (pa_cons (pe_tup (pa_cons (pv 0) (pa_cons (pv 1) pa_nil))) pa_nil)))
      (pss_cons (ps_while PassesOwn.never (pt_truth (pv 2) (fun _ => rfl))
        (pss_cons (ps_asg (pe_bm0 PySem.F.plainAttrs_list PySem.F.slot_list_pop PySem.F.type_list_pop mt_pop (pv 2)) (pg_tup rfl (pgs_cons (pg_name (i := 3) scFits.nd rfl (.inl rfl)) (pgs_cons (pg_name (i := 4) scFits.nd rfl (.inl rfl)) pgs_nil))))
        (pss_cons (ps_set (i := 5) scFits.nd rfl (.inl rfl) (pe_gd DT hr rfl pass0 (pa_cons (pv 3) (pa_cons (pv 4) pa_nil))))
        (pss_cons (ps_if (pt_cmp (pc_isN (pv 5))) (pss_one (ps_ret pe_bl)) pss_nil)
        (pss_one (ps_expr (pe_bm PySem.F.plainAttrs_list PySem.F.slot_list_extend PySem.F.type_list_extend mt_extend (pv 2) (pa_cons (pv 5) pa_nil))))))))
      (pss_one (ps_ret pe_bl))), ?_⟩
    rcases h with ⟨k, v, d, rfl, rp, dp, sz, fin⟩ | ⟨v, T, rfl, ty, kt, fin⟩
    rotate_left
    · refine ⟨_, rfl, _, rfl, (by show 2 ≤ sizeLine; decide), fun t nt => ⟨(by show 1 ≤ sizeLine; decide), fun l nl => ?_⟩⟩
      have nlt : l ≠ t := fun e => by
        rw [e, upd_same] at nl
        cases nl
      have Hl : H l = none := by
        rw [upd_ne nlt] at nl
        exact nl
      have s0 : Same H (upd (upd H t (.tup [.str (Kd.s .plan), v])) l (.lst [.ref t])) := (Same.new nt).trans (Same.new nl)
      refine ⟨fun m σ G => m = 0 ∧ σ = [some (.str (Kd.s .plan)), some v, some (.ref l), none, none, none] ∧ Same H G ∧ G l = some (.lst [.ref t]) ∧ G t = some (.tup [.str (Kd.s .plan), v]),
        ⟨_, rfl, rfl, s0, upd_same, by rw [upd_ne nlt.symm, upd_same]⟩, ?_⟩
      rintro m σ G ⟨rfl, rfl, sG, hl, ht⟩
      refine ⟨_, rfl, true, .inl ⟨_, SqL.of hl, rfl⟩, iteT ⟨_, fun σ' H' q => q, ?_⟩⟩
      refine ⟨_, rfl, .inl ⟨rfl, _, SqL.of hl⟩, l, _, .ref t, rfl, rfl, hl, rfl, t, _, rfl, SqT.of (by rw [upd_ne nlt.symm]; exact ht), rfl, _, _, rfl, _, _, rfl, rfl, ?_⟩
      have s1 : Same H (upd G l (.lst ([V.ref t].dropLast))) := fun c o e => by
        rw [upd_ne (ne_of_none e Hl)]
        exact sG _ _ e
      refine ⟨_, rfl, _, rfl, .inr ⟨v, T, rfl, ty _ s1, kt, fun H' s2 => ?_⟩⟩
      exact ⟨_, rfl, _, rfl, iteT (fin H' (s1.trans s2))⟩
    refine ⟨_, rfl, _, rfl, (by show 2 ≤ sizeLine; decide), fun t nt => ⟨(by show 1 ≤ sizeLine; decide), fun l nl => ?_⟩⟩
    have nlt : l ≠ t := fun e => by
      rw [e, upd_same] at nl
      cases nl
    have Hl : H l = none := by
      rw [upd_ne nlt] at nl
      exact nl
    have s0 : Same H (upd (upd H t (.tup [.str k.s, v])) l (.lst [.ref t])) := (Same.new nt).trans (Same.new nl)
    refine ⟨fun m σ G => ∃ (ts : List Addr) (ps : List (Kd × D)) (x y z : Option V), m = sizeP ps ∧ σ = [some (.str k.s), some v, some (.ref l), x, y, z] ∧ Same H G ∧ G l = some (.lst (ts.map V.ref)) ∧ Pend H G ts ps ∧ (∀ p ∈ ps, D.Deep n p.2) ∧ sizeP ps ≤ 100000 ∧ okD n k d = ps.all fun p => okD n p.1 p.2,
      ⟨_, [t], [(k, d)], _, _, _, rfl, rfl, s0, upd_same, ⟨rfl, fun i u hi => ?_⟩, ?_, ?_, ?_⟩, ?_⟩
    · cases i with
      | zero =>
        simp at hi
        subst hi
        exact ⟨(k, d), v, rfl, by rw [upd_ne nlt.symm, upd_same], rp⟩
      | succ i => simp at hi
    · intro p hp
      rw [List.mem_singleton.mp hp]
      exact dp
    · simp only [sizeP]
      omega
    · simp
    rintro m σ G ⟨ts, ps, x, y, z, rfl, rfl, sG, hl, pend, deep, size, all⟩
    refine ⟨_, rfl, _, .inl ⟨_, SqL.of hl, rfl⟩, ?_⟩
    rcases List.eq_nil_or_concat ts with rfl | ⟨us, u, rfl⟩
    · have e : ps = [] := by
        apply List.eq_nil_of_length_eq_zero
        rw [← pend.1]
        rfl
      subst e
      refine iteF ?_
      have := fin G sG
      rw [all] at this
      exact this
    · rw [List.concat_eq_append] at hl pend ⊢
      have lp := pend.1
      rcases List.eq_nil_or_concat ps with rfl | ⟨qs, q, rfl⟩
      · rw [List.length_append] at lp
        simp at lp
      rw [List.concat_eq_append] at pend deep size all lp ⊢
      have lq : us.length = qs.length := by
        rw [List.length_append, List.length_append] at lp
        simpa using lp
      have pl := pend.left lq
      obtain ⟨q', x1, e1, e2, e3⟩ := pend.2 us.length u (by rw [List.getElem?_append_right (Nat.le_refl _), Nat.sub_self]; rfl)
      rw [lq, List.getElem?_append_right (Nat.le_refl _), Nat.sub_self] at e1
      cases e1
      obtain ⟨qk, qd⟩ := q
      have nul : u ≠ l := fun e => by
        rw [e, hl] at e2
        cases e2
      have isT : (!((us ++ [u]).map V.ref).isEmpty) = true := by simp
      rw [isT]
      refine iteT ⟨_, fun σ' H' q => q, ?_⟩
      have dl : ((us ++ [u]).map V.ref).dropLast = us.map V.ref := by rw [List.map_append]; exact List.dropLast_concat
      refine ⟨_, rfl, .inl ⟨rfl, _, SqL.of hl⟩, l, _, .ref u, rfl, rfl, hl, by simp, u, [.str qk.s, x1], rfl, SqT.of (by rw [upd_ne nul]; exact e2), rfl, _, _, rfl, _, _, rfl, rfl, ?_⟩
      rw [dl]
      have s1 : Same H (upd G l (.lst (us.map V.ref))) := fun c o e => by
        rw [upd_ne (ne_of_none e Hl)]
        exact sG _ _ e
      have pl1 : Pend H (upd G l (.lst (us.map V.ref))) us qs := pl.same fun t ht xs e => by
        rw [upd_ne fun z => by rw [z, hl] at e; cases e]
        exact e
      have dq : D.Deep n qd := deep (qk, qd) (by simp)
      have R := within_right (n := n) qk qd dq
      rw [sizeP_app] at size
      simp only [sizeP] at size
      rw [List.all_append, sum1] at all
      refine ⟨_, rfl, _, rfl, .inl ⟨H, qk, x1, qd, rfl, s1, e3, by omega, ?_⟩⟩
      cases hw : within qk qd with
      | none =>
        rw [hw] at R
        have R : okD n qk qd = false := R
        intro H' s2
        refine ⟨_, rfl, _, rfl, iteT ?_⟩
        have := fin H' (s1.trans s2)
        rw [all, R, Bool.and_false] at this
        exact this
      | some l2 =>
        rw [hw] at R
        obtain ⟨R1, R2, R3⟩ := R
        intro H' q ts2 s2 nq new nin hq pend2
        have hl2 := s2 _ _ (upd_same (H := G) (a := l) (o := .lst (us.map V.ref)))
        have z2 := sizeP_len l2
        have z3 := sizeP_len qs
        refine ⟨_, rfl, _, rfl, iteF ⟨_, rfl, .inl ⟨rfl, _, SqL.of hl2⟩, _, rfl, l, q, _, _, rfl, rfl, hl2, hq, ?_, ?_⟩⟩
        · rw [List.length_map, List.length_map, pend2.1, lq, sizeLine_eq]
          omega
        have off : ∀ t xs, H' t = some (.tup xs) → t ≠ l := fun t xs e z => by
          rw [z, hl2] at e
          cases e
        refine ⟨sizeP (qs ++ l2), ?_, us ++ ts2, qs ++ l2, _, _, _, rfl, rfl, ?_, ?_, ?_, ?_, ?_, ?_⟩
        · rw [sizeP_app, sizeP_app]
          simp only [sizeP]
          omega
        · intro c o e
          rw [upd_ne (ne_of_none e Hl)]
          exact s2 _ _ (s1 _ _ e)
        · rw [upd_same, List.map_append]
        · refine Pend.app (pl1.same fun t ht xs e => ?_) (pend2.same fun t ht xs e => ?_)
          · have e' := s2 _ _ e
            rw [upd_ne (off t xs e')]
            exact e'
          · rw [upd_ne (off t xs e)]
            exact e
        · intro p hp
          rcases List.mem_append.mp hp with hp | hp
          · exact deep p (List.mem_append_left _ hp)
          · exact R2 p hp
        · rw [sizeP_app]
          omega
        · rw [List.all_append, all, R1]
/-- what the program is asked of a thing -/
def spIsPlan (K : PySem.W.Frag) (n : Nat) : Sp := fun vs H Q _ => (∃ (v : V) (d : D), vs = [v] ∧ Rep H v d ∧ d.Deep n ∧ D.size d ≤ 100000 ∧ ∀ H', Same H H' → Q (.bl (planN n d)) H') ∨
  ∃ (v : V) (T : String), vs = [v] ∧ (∀ G, Same H G → TyX K G v (.type T)) ∧ kitB T "tuple" = some false ∧ ∀ H', Same H H' → Q (.bl false) H'
theorem scIsPlan : FnScope ["thing"] ["thing"] (defScope sIsPlan) := ⟨rfl, rfl, rfl, by decide +kernel, rfl, by decide +kernel, by decide +kernel⟩
theorem ok_isPlan {f : Addr} {fd : FuncData} (F : Fun K "is_plan" "is_plan" sIsPlan f fd) (n : Nat) (DF : GD P w K mg base CX0 "fits" pFits 5 (spFits K n)) : FnOk P w K mg base CX0 6 f fd ["thing"] (spIsPlan K n) := by
  refine F.ok scIsPlan (fun vs H Q E h => ?_) (fun cdv A outer s H vs Q E hr h => ?_)
  · rcases h with ⟨v, d, rfl, _⟩ | ⟨v, T, rfl, _⟩ <;> rfl
  · refine ⟨_, pss_one (ps_ret (pe_gd DF hr rfl pass0 (pa_cons pe_str (pa_cons (pv 0) pa_nil)))), ?_⟩
    rcases h with ⟨v, d, rfl, rd, dp, sz, fin⟩ | ⟨v, T, rfl, ty, kt, fin⟩
    · exact ⟨_, rfl, .inl ⟨.plan, v, d, rfl, rd, dp, sz, fin⟩⟩
    · exact ⟨_, rfl, .inr ⟨v, T, rfl, ty, kt, fin⟩⟩
theorem GD.up {x : Str} {ps : List Str} {k m : Nat} {sp : Sp} (D : GD P w K mg base CX0 x ps k sp) (h : k ≤ m) : GD P w K mg base CX0 x ps m sp := by
  obtain ⟨f, fd, a, b⟩ := D.ex
  exact ⟨f, fd, a.mono h, b⟩
/-- the program's own defs -/
structure DefsP (K : PySem.W.Frag) (mg : Str → Option Value) : Prop where
  whole : ∃ f fd, Df K mg "is_whole" sIsWhole ["thing"] f fd
  fits : ∃ f fd, Df K mg "fits" sFits pFits f fd
  word : ∃ f fd, Df K mg "is_word" sIsWord ["thing"] f fd
  behind : ∃ f fd, Df K mg "kinds_behind" sBehind nBehind f fd
  things : ∃ f fd, Df K mg "_things_within" sThings pThings f fd
  part : ∃ f fd, Df K mg "_things_in_part" sPart pPart f fd
  between : ∃ f fd, Df K mg "_is_between" sBetween nBetween f fd
  aRest : ∃ f fd, Df K mg "_is_a_rest" sARest nARest f fd
  isPlan : ∃ f fd, Df K mg "is_plan" sIsPlan ["thing"] f fd
theorem plan_of (B : Blt mg) (bl : mg "list" = none) (bz : mg "zip" = none) (T : Tab P w K mg) (D : DefsP K mg) (n : Nat) : GD P w K mg base CX0 "is_plan" ["thing"] 6 (spIsPlan K n) := by
  obtain ⟨_, _, d0⟩ := D.whole
  obtain ⟨_, _, d1⟩ := D.fits
  obtain ⟨_, _, d2⟩ := D.word
  obtain ⟨_, _, d3⟩ := D.behind
  obtain ⟨_, _, d4⟩ := D.things
  obtain ⟨_, _, d5⟩ := D.part
  obtain ⟨_, _, d6⟩ := D.between
  obtain ⟨_, _, d7⟩ := D.aRest
  obtain ⟨_, _, d8⟩ := D.isPlan
  have g0 : GD P w K mg base CX0 "is_whole" ["thing"] 1 spWhole1 := d0.gd (ok_isWhole d0.fn B)
  have g6 : GD P w K mg base CX0 "_is_between" nBetween 1 spBetween := d6.gd (ok_between d6.fn B)
  have g7 : GD P w K mg base CX0 "_is_a_rest" nARest 2 spARest := d7.gd (ok_aRest d7.fn g0)
  have g3 : GD P w K mg base CX0 "kinds_behind" nBehind 1 (spBehind K) := d3.gd (ok_behind d3.fn B T)
  have g5 : GD P w K mg base CX0 "_things_in_part" pPart 3 spPart := d5.gd (ok_part d5.fn B bl bz g3 g7)
  have g2 : GD P w K mg base CX0 "is_word" ["thing"] 2 spIsWord := d2.gd (ok_isWord d2.fn B T g6)
  have g4 : GD P w K mg base CX0 "_things_within" pThings 4 (spThings K) := d4.gd (ok_things d4.fn B T g0 g6 g2 g5)
  have g1 : GD P w K mg base CX0 "fits" pFits 5 (spFits K n) := d1.gd (ok_fits d1.fn n g4)
  exact d8.gd (ok_isPlan d8.fn n g1)
end
end K82


set_option Elab.async false
set_option linter.all false
set_option maxRecDepth 100000
set_option maxHeartbeats 4000000
namespace K82
open PySem PySem.Spec PyProof.Rows L2 Lb
section
variable {P : Program} {w : World} {K : PySem.W.Frag} {mg : Str → Option Value} {base : Heap} {f g h : Addr} {fd gd hd : FuncData}
/-- what is a plan, by the law: at every depth -/
theorem gd_plan (B : Blt mg) (be : mg "enumerate" = none) (DW : GD P w K mg base CX0 "_law_whole_one" ["_law_thing"] 1 spWhole1) (DR : GD P w K mg base CX0 "_law_reads_rule" ["_law_thing"] 2 spReadsR) (DT : ∀ n, n ≤ 40 → GD P w K mg base CX0 "_law_reads_test" ["_law_thing"] (3 + 2 * n) (spReadsT n))
    (DS : GD P w K mg base CX0 "_law_sorts" ["_law_word"] 1 spSorts) (dx : Df K mg "_law_reads_part" sReadsX pReadsX f fd) (dp : Df K mg "_law_reads_plan" sReadsP ["_law_thing"] g gd) : ∀ n : Nat, n ≤ 40 → GD P w K mg base CX0 "_law_reads_plan" ["_law_thing"] (3 + 2 * n) (spReadsP n)
  | 0, hn => dp.gd (ok_readsP dp.fn B be 0 hn (k := 2) (by decide) DS (dx.no fun _ _ _ _ z => z))
  | n + 1, hn => by
    have ih := gd_plan B be DW DR DT DS dx dp n (by omega)
    have e : 3 + 2 * (n + 1) = ((3 + 2 * n) + 1) + 1 := by omega
    rw [e]
    exact dp.gd (ok_readsP dp.fn B be (n + 1) hn (k := (3 + 2 * n) + 1) (by omega) DS (dx.gd (ok_readsX dx.fn B n (by omega) (Nat.le_refl _) DW DR (DT n (by omega)) ih)))
theorem gd_spoilt (B : Blt mg) (D : GDp P w K mg base) (d : Df K mg "_law_spoilt" sSpoilt ["_law_pot_here", "_law_thing"] f fd) : ∀ n : Nat, GD P w K mg base CX0 "_law_spoilt" ["_law_pot_here", "_law_thing"] (2 + n) (spSpoilt n)
  | 0 => d.gd (ok_spoilt d.fn B 0 D (d.no fun _ _ _ _ z => z))
  | n + 1 => by
    have ih := gd_spoilt B D d n
    have e : 2 + n = 1 + (n + 1) := by omega
    rw [e] at ih
    exact d.gd (ok_spoilt d.fn B (n + 1) D ih)
end
end K82


set_option Elab.async false
set_option linter.all false
set_option maxRecDepth 100000
set_option maxHeartbeats 4000000
/-! Defs that want more of what stands around a call than room (here: no guard is up); the law's call from the empty stack. -/
namespace Lb
open PySem PySem.Spec PyProof.Rows L2 PySem.W
/-- as FnOk, for those calls alone around which no guard is up -/
structure FnG (P : Program) (w : World) (K : PySem.W.Frag) (mg : Str → Option Value) (base : Heap) (k : Nat) (f : Addr) (fd : FuncData) (ps : List Str) (sp : Sp) : Prop where
  len : ∀ vs H Q E, sp vs H Q E → vs.length = ps.length
  go : ∀ (A : Around) (out : List Env) (s : Shared) (H : Hp) (ar : Args) (us : List Value) (vs : List V) (Q : VK) (E : XK),
    A.guards = some [] → Room k A → Env0 P w K mg base A out s H → BindsTo s fd ar (ps.zip us) → Vals vs us → sp vs H Q E → codeAny (model P w) A (.call (.ref f) ar) (CR CX0 out P w H s Q E) s
section
variable {P : Program} {w : World} {K : PySem.W.Frag} {mg : Str → Option Value} {base : Heap}
theorem okG {x qual : Str} {st : Stmt} {f : Addr} {fd : FuncData} {N ps : List Str} {k : Nat} {sp : Sp} (F : Fun K x qual st f fd) (S : FnScope N ps (defScope st)) (len : ∀ vs H Q E, sp vs H Q E → vs.length = ps.length)
    (body : ∀ (cdv : Value) (A : Around) (out : List Env) (s : Shared) (H : Hp) (vs : List V) (Q : VK) (E : XK), A.guards = some [] → Room k (A.deeper (envOfC qual (defScope st) s.heap.objs.size f cdv)) → sp vs H Q E →
      ∃ t, PSs (cxOf CX0 P w K mg base N qual (defScope st) f cdv A out s H E).nox (defBody st) t ∧ t { nx := fun _ H' => Q .non H', rt := Q } (start N vs) H) : FnG P w K mg base (k + 1) f fd ps sp := by
  obtain ⟨oc, od, kV, doc, pm, an, cdv, ct, osl, rfl, look, code⟩ := F.ex
  refine ⟨len, fun A out s H ar us vs Q E gd room env bind vals said => ?_⟩
  have many := len _ _ _ _ said
  have kin : K.In s.heap := env.mod.kin.keeps fun b o e => (env.bs b o e).1
  have slot : ∀ y ∈ ps.zip us, (defScope st).names.lookup y.1 = some .local ∨ ((defScope st).names.lookup y.1 = some .cell ∧ ((cellsFrom (s.heap.objs.size + 1) (defScope st).names []).lookup y.1).isSome = true) := by
    rintro ⟨nm, v⟩ hy
    rcases S.par nm (List.of_mem_zip hy).1 with q | q
    · exact Or.inl q
    · exact Or.inr ⟨q, cellsFrom_some _ _ _ (Or.inl q)⟩
  refine codeAny_call_function room.depth (kin _ _ look) rfl S.co S.gen rfl (codeRec_of kin code) (bind _ _ _ _ ?_)
  refine wpAny_newFunctionEnv_cells S.kind slot fun env' he s1 inn => ?_
  subst he
  have nolim : s.heap.NoLimit := env.mod.nolimit.keeps fun b o e => (env.bs b o e).1
  refine ⟨nolim.keeps inn.toInCall.keep, codeAny_func ?_⟩
  obtain ⟨t, ht, hq⟩ := body cdv A out s H vs Q E gd (room.deeper _) said
  have I := inv_start (CX := CX0) (E := E) S room.hd env many vals inn
  refine wpAny_mono (ht.nox.run [] s1 _ H _ I hq) (fun fl s' hs => ?_) fun e s' hs => hs
  cases fl with
  | ret u =>
    obtain ⟨v, σ', H', J, rv, q⟩ := hs
    exact ⟨v, H', J.os, J.bare, J.base, J.hok, rv, q⟩
  | next =>
    obtain ⟨σ', H', J, q⟩ := hs
    exact ⟨V.non, H', J.os, J.bare, J.base, J.hok, rfl, q⟩
  | brk =>
    obtain ⟨_, _, _, q⟩ := hs
    exact q.elim
  | cont =>
    obtain ⟨_, _, _, q⟩ := hs
    exact q.elim
/-- a def of the module that wants no guard -/
structure GG (P : Program) (w : World) (K : PySem.W.Frag) (mg : Str → Option Value) (base : Heap) (x : Str) (ps : List Str) (k : Nat) (sp : Sp) : Prop where
  ex : ∃ f fd, FnG P w K mg base k f fd ps sp ∧ mg x = some (.ref f) ∧ PySem.W.keepIn K (.ref f) = true ∧ Binds K fd ps []
end
section
variable {X : Cx} {x : Str} {ps : List Str} {k : Nat} {sp : Sp} {E : XK} {q pos : Pos} {e : Expr} {es : List Expr} {t : TA}
theorem pe_gg (D : GG X.prog X.w X.K X.mg X.base x ps k sp) (gd : X.A.guards = some []) (hr : Room k X.A) (hg : Gl X x) (ha : PA X (e :: es) t)
    (hdb : (x == ("__debug__" : Str)) = false := by decide) (he : starEach (e :: es) X.env = (false, eval e X.env) :: starEach es X.env := by rfl)
    (hpl : (backTo pos (starEach es X.env)).any (·.1) = false := by rfl) : PE X (.Call (.Name x q) (e :: es) [] pos) (tCall sp [] E t) := by
  obtain ⟨f, fd, G, hm, hk, b⟩ := D.ex
  refine ⟨fun pins s σ H Q I h => wpAny_Call_Name_kw (ld_glob I hg hm ?_ hdb)⟩
  refine callWith_K (h₀ := X.base) I.ok.mod.kin hk (thn (ha.run pos pins s σ H _ I h) fun us s1 ⟨vs, H1, J, r, said⟩ => ⟨J.kIn, ?_⟩) he hpl
  have r2 : Vals (vs ++ []) (us ++ []) := r.append .nil
  have many : (us ++ []).length = ps.length := r2.length.symm.trans (G.len _ _ _ _ said)
  refine wpAny_call (codeAny_mono (G.go X.A X.stack s1 H1 ⟨us, []⟩ _ _ Q E gd hr J.env0 (b s1 us J.kIn many) r2 said) fun res s' hq => ?_)
  match res, hq with
  | .error e, hq => exact hq.elim
  | .ok (.ret u), hq => exact J.after hq
end
/-- at the start nothing is followed but the script -/
theorem at_start {P : Program} {w : World} {K : PySem.W.Frag} {mg mb : Str → Option Value} {a : Addr} {s0 : Shared} {vs : List Value} {ns : List Int} (KX : K.In s0.heap) (hG : s0.heap.Ns mainGlobals mg) (hB : s0.heap.Ns builtinsNs mb)
    (hB2 : ∀ x : Str, x ≠ "__name__" → mb x = bootBuiltins x) (hL : s0.heap.NoLimit) (none_yet : s0.gens = #[]) (obj : s0.heap.get? a = some { cls := .type "list", data := .seq vs.toArray }) (whole : IntsAre vs ns) (short : ns.length ≤ sizeLine) :
    ∃ base H, K.In base ∧ base.Ns mainGlobals mg ∧ Only H ∧ SqL K H a (ns.map V.int) ∧ Env0 P w K mg base callerA [] s0 H ∧
      ∀ (s' : Shared) (H' : Hp), Un (frs []) [] H H' s0.heap s'.heap → HOk P w H' s'.heap → OldK s0.heap s'.heap := by
  have rv := vals_ints whole
  have lv : vs.length = ns.length := whole.length
  -- the followed heap is given; what of it is needed
  have main : ∀ H : Hp, Only H → SqL K H a (ns.map V.int) → HOk P w H s0.heap → (∀ b, H b ≠ none → b = a ∧ K.lookup a = none) →
      ∃ base H, K.In base ∧ base.Ns mainGlobals mg ∧ Only H ∧ SqL K H a (ns.map V.int) ∧ Env0 P w K mg base callerA [] s0 H ∧
        ∀ (s' : Shared) (H' : Hp), Un (frs []) [] H H' s0.heap s'.heap → HOk P w H' s'.heap → OldK s0.heap s'.heap := by
    intro H only sq ok who
    have other : ∀ {b o}, s0.heap.get? b = some o → (∀ n, o.data ≠ .seq vs.toArray n) → H b = none := by
      intro b o e d
      refine Classical.byContradiction fun z => ?_
      rw [(who b z).1, obj] at e
      cases e
      exact d _ rfl
    have free : ∀ {b : Addr} {m : Str → Option Value}, s0.heap.Ns b m → (hidT s0.heap H).Ns b m := by
      rintro b m ⟨o, es, ep, e, d, r⟩
      exact ⟨o, es, ep, hidT_get e (other e fun n z => by rw [d] at z; cases z), d, r⟩
    have kin : K.In (hidT s0.heap H) := by
      intro b o e
      refine hidT_get (KX b o e) (Classical.byContradiction fun z => ?_)
      obtain ⟨rfl, none_⟩ := who b z
      rw [none_] at e
      cases e
    obtain ⟨mc, l1, l2⟩ := hL
    have mod : Mod K mg (hidT s0.heap H) := ⟨kin, free hG, ⟨mb, free hB, hB2⟩, ⟨mc, free l1, l2⟩⟩
    refine ⟨hidT s0.heap H, H, kin, free hG, only, sq, ⟨rfl, mod, fun b o e => of_hidT e, Nat.le_of_eq (hidT_size _ _), trivial, fun b hb => (List.not_mem_nil hb).elim, ok, .of_eq none_yet⟩, fun s' H' un ok' => OldK.of_keep fun b o e => ?_⟩
    rcases only b with z | ⟨ob, xs, z⟩
    · refine un.keep b o e z ?_ ?_
      · exact fun y => (List.not_mem_nil y).elim
      · simp
    · obtain ⟨e1, _⟩ := ok b _ z
      obtain ⟨e2, _⟩ := ok' b _ (un.frzs b ob _ z)
      rw [e] at e1
      cases e1
      exact e2
  by_cases known : K.lookup a = none
  · refine main (fun b => if b = a then some (.frz { cls := .type "list", data := .seq vs.toArray } (.lst (ns.map V.int))) else none) (fun b => ?_) (.inl (.inr ⟨_, if_pos rfl⟩)) (fun b u z => ?_) fun b z => ?_
    · by_cases hb : b = a
      · exact .inr ⟨_, _, if_pos hb⟩
      · exact .inl (if_neg hb)
    · by_cases hb : b = a
      · have y := (if_pos hb).symm.trans z
        cases y
        subst hb
        exact ⟨obj, by rw [List.length_map]; exact short, vs, _, rv, obj⟩
      · have y := (if_neg hb).symm.trans z
        cases y
    · by_cases hb : b = a
      · exact ⟨hb, known⟩
      · exact (z (if_neg hb)).elim
  · cases hk : K.lookup a with
    | none => exact (known hk).elim
    | some o =>
      have e := KX a o hk
      rw [obj] at e
      cases e
      refine main (fun _ => none) (fun _ => .inl rfl) (.inr ⟨_, vs.toArray, _, hk, rfl, rfl, rfl, by rw [List.size_toArray, lv]; exact short, by simpa using rv⟩) (fun b u z => ?_) fun b z => (z rfl).elim
      have y : (none : Option HO) = some u := z
      cases y
/-- the end: as walk_of, for a law that wants no guard -/
theorem walk_G {l : PySem.W.OpenLaw} {n k : Nat} {q : Program} {loose : List Str} {XP : (Str → Option Value) → Heap → Prop} {YP : World → Heap → Prop} {d : DefRec} {K : Params → PySem.W.Frag} {sp : World → Sp} {x : Str}
    (most : l.most = some n) (small : n ≤ sizeLine) (nodef : d.params.defaults = []) (room : Room k callerA) (hY : ∀ (w : World) (h : Heap), YP w h → (K w.params).In h)
    (F : ∀ (w : World) (mg : Str → Option Value) (fa : Addr) (h : Heap), (K w.params).In h → h.Ns mainGlobals mg → mg d.name = some (.ref fa) → ∃ fd : FuncData, (∀ (s : Shared) (u : Value), BindsTo s fd ⟨[u], []⟩ [(x, u)]) ∧
        ∀ base : Heap, (K w.params).In base → base.Ns mainGlobals mg → FnG l.prog w (K w.params) mg base k fa fd [x] (sp w))
    (asked : ∀ (w : World) (H : Hp) (a : Addr) (ns : List Int), ns.length ≤ n → Only H → SqL (K w.params) H a (ns.map V.int) → sp w [.ref a] H (fun v _ => v = .bl true) fun _ _ _ => False) :
    PySem.W.WalkO q loose XP YP l.row.toRowW d [] (fun f vs => PySem.call f vs) := by
  refine Att.attach_call most nodef fun w s₀ s0 mg mb fa o pm cd doc a vs ns G Y _ _ _ named obj whole len none_yet => ?_
  have KX := hY w _ Y
  obtain ⟨fd, bind, good⟩ := F w mg fa _ KX G.T.g named
  obtain ⟨base, H, kin, nsp, only, sq, env, back⟩ := at_start (P := l.prog) (w := w) KX G.T.g G.T.b G.T.builtins G.T.nolimit none_yet obj whole (Nat.le_trans len small)
  refine codeAny_mono ((good base kin nsp).go callerA [] s0 H ⟨[.ref a], []⟩ [.ref a] [.ref a] _ _ rfl room env (bind s0 (.ref a)) (.cons rfl .nil) (asked w H a ns len only sq)) fun res s' h => ?_
  match res, h with
  | .error e, h => exact h.elim
  | .ok (.ret u), h =>
    obtain ⟨v, H', os, bare, un, ok', r, rfl⟩ := h
    obtain rfl : u = Value.bool true := r
    exact ⟨rfl, back s' H' un ok', os, bare⟩
end Lb


set_option Elab.async false
set_option linter.all false
set_option maxRecDepth 100000
set_option maxHeartbeats 4000000
namespace K82
open PySem PySem.Spec PyProof.Rows L2 Lb
abbrev sJudged : Stmt := top 36
/-- a thing is judged alike -/
def spJudged (n : Nat) : Sp := fun vs H Q _ => ∃ (v : V) (d : D), vs = [v] ∧ Rep H v d ∧ d.Deep n ∧ Good d ∧ d.Mild ∧ D.size d ≤ 95000 ∧ ∀ H', Same H H' → Q (.bl true) H'
section
variable {P : Program} {w : World} {K : PySem.W.Frag} {mg : Str → Option Value} {base : Heap}
abbrev nJudged : List Str := ["_law_thing", "_law_kept", "_law_found"]
theorem scJudged : FnScope nJudged ["_law_thing"] (defScope sJudged) := ⟨rfl, rfl, rfl, by decide +kernel, rfl, by decide +kernel, by decide +kernel⟩
theorem ok_judged {f : Addr} {fd : FuncData} (F : Fun K "_law_judged" "_law_judged" sJudged f fd) (B : Blt mg) (n : Nat) (hn : n ≤ 30) {k : Nat} (hk : 6 ≤ k) (hk2 : 3 + 2 * n ≤ k)
    (DI : GD P w K mg base CX0 "is_plan" ["thing"] 6 (spIsPlan K n)) (DP : GD P w K mg base CX0 "_law_reads_plan" ["_law_thing"] (3 + 2 * n) (spReadsP n)) : FnG P w K mg base (k + 1) f fd ["_law_thing"] (spJudged n) := by
  refine okG F scJudged (fun vs H Q E h => ?_) (fun cdv A outer s H vs Q E gd hr h => ?_)
  · obtain ⟨v, d, rfl, _⟩ := h
    rfl
  · obtain ⟨v, d, rfl, rp, dp, good, mild, sz, fin⟩ := h
    have hr6 := hr.mono hk
    have hr2 := hr.mono hk2
    have hu := hr.units
    refine ⟨_, pss_cons (ps_set (i := 1) scJudged.nd rfl (.inl rfl) (pe_callB (call_reprG gd hu) (by rfl) B.repr bootS_repr (pa_cons (pv 0) pa_nil)))
      (pss_cons (ps_set (i := 2) scJudged.nd rfl (.inl rfl) (pe_gd DI hr6 rfl pass0 (pa_cons (pv 0) pa_nil)))
      (pss_one (ps_ret (pe_and (pe_callB call_isi (by rfl) B.isinstance boot_isinstance (pa_cons (pv 2) (pa_cons (pe_bltn (v := .ty "bool") (by rfl) B.bool boot_bool rfl) pa_nil)))
        (pe_and (pe_cmpR op_eq (pv 2) (pe_gd DP hr2 rfl pass0 (pa_cons (pv 0) pa_nil)) (nomark _))
        (pe_one (pe_cmpR op_eq (pe_callB (call_reprG gd hu) (by rfl) B.repr bootS_repr (pa_cons (pv 0) pa_nil)) (pv 1) (nomark _)))))))), ?_⟩
    obtain ⟨f1, f2, f3⟩ := D.Mild.shown d mild
    have dep := D.Deep.py d dp
    have len : d.py.shown.length ≤ sizeLine := by
      rw [sizeLine_eq]
      omega
    refine ⟨_, rfl, v, d.py, rfl, rp.dp, f1, f2, by omega, len, ?_⟩
    refine ⟨_, rfl, .inl ⟨v, d, rfl, rp, dp, by omega, fun G1 s1 => ?_⟩⟩
    refine ⟨_, rfl, .bl (planN n d), .ty "bool", _, _, _, rfl, .ty _, (Rep.blI (b := planN n d)).ty, kit_ty (kit_bool _), _, rfl, ?_⟩
    refine iteT ⟨_, rfl, _, rfl, v, d, rfl, rp.same s1, dp, good, by omega, fun G2 s2 => ?_⟩
    refine ⟨rfl, _, rfl, ?_⟩
    rw [decide_eq_true (rfl : V.bl (planN n d) = V.bl (planN n d))]
    refine iteT ⟨_, rfl, v, d.py, rfl, ((rp.same s1).same s2).dp, f1, f2, by omega, len, _, rfl, rfl, ?_⟩
    rw [decide_eq_true (rfl : V.str d.py.shown = V.str d.py.shown)]
    exact fin G2 (s1.trans s2)
end
end K82


set_option Elab.async false
set_option linter.all false
set_option maxRecDepth 100000
set_option maxHeartbeats 4000000
namespace K82
open PySem PySem.Spec PyProof.Rows L2 Lb
/-- of what is no tuple: told to be none -/
def spOther (K : PySem.W.Frag) : Sp := fun vs H Q _ => ∃ (v : V) (T : String), vs = [v] ∧ (∀ G, Same H G → TyX K G v (.type T)) ∧ kitB T "tuple" = some false ∧ ∀ H', Same H H' → Q (.bl false) H'
/-- a list of things -/
def spJList (K : PySem.W.Frag) (n : Nat) : Sp := fun vs H Q _ => ∃ (p : Addr) (us : List V) (ds : List D), vs = [.ref p] ∧ H p = some (.lst us) ∧ RepL H us ds ∧ DeepL n ds ∧ MildL ds ∧ sizeL ds ≤ 95000 ∧ ∀ H', Same H H' → Q (.bl true) H'
section
variable {P : Program} {w : World} {K : PySem.W.Frag} {mg : Str → Option Value} {base : Heap} {f : Addr} {fd : FuncData}
theorem FnG_or {k : Nat} {ps : List Str} {s1 s2 : Sp} (a : FnG P w K mg base k f fd ps s1) (b : FnG P w K mg base k f fd ps s2) : FnG P w K mg base k f fd ps fun vs H Q E => s1 vs H Q E ∨ s2 vs H Q E :=
  ⟨fun vs H Q E h => h.elim (a.len vs H Q E) (b.len vs H Q E), fun A out s H ar us vs Q E gd room env bind vals said => said.elim (a.go A out s H ar us vs Q E gd room env bind vals) (b.go A out s H ar us vs Q E gd room env bind vals)⟩
theorem ok_readsPo (F : Fun K "_law_reads_plan" "_law_reads_plan" sReadsP f fd) (B : Blt mg) (be : mg "enumerate" = none) (n : Nat) {k : Nat} (hk : 1 ≤ k)
    (DS : GD P w K mg base CX0 "_law_sorts" ["_law_word"] 1 spSorts) (DX : GD P w K mg base CX0 "_law_reads_part" pReadsX k (lessSp spReadsX n)) : FnOk P w K mg base CX0 (k + 1) f fd ["_law_thing"] (spOther K) := by
  refine F.ok scReadsP (fun vs H Q E h => ?_) (fun cdv A outer s H vs Q E hr h => ?_)
  · obtain ⟨v, T, rfl, _⟩ := h
    rfl
  · obtain ⟨v, T, rfl, ty, kt, fin⟩ := h
    have hr1 := hr.mono hk
    refine ⟨_, pss_cons (ps_if (PW.pt (pw_or (pt_not (pt_val (pe_callB call_isi (by rfl) B.isinstance boot_isinstance (pa_cons (pv 0) (pa_cons (pe_bltn (v := .ty "tuple") (by rfl) B.tuple boot_tuple rfl) pa_nil)))))
          (pw_or (pt_cmpR op_lt (pe_callB call_len_seq (by rfl) B.len boot_len (pa_cons (pv 0) pa_nil)) pe_int (nomark _))
          (pw_or1 (pt_not (pt_val (pe_callB call_isi (by rfl) B.isinstance boot_isinstance (pa_cons (pe_ix ix_tup (pv 0) pe_int (fun _ _ => rfl)) (pa_cons (pe_bltn (v := .ty "str") (by rfl) B.str boot_str rfl) pa_nil))))))))) (pss_one (ps_ret pe_bl)) pss_nil)
      (pss_cons (ps_set (i := 1) scReadsP.nd rfl (.inl rfl) (pe_gd DS hr1 rfl pass0 (pa_cons (pe_ix ix_tup (pv 0) pe_int (fun _ _ => rfl)) pa_nil)))
      (pss_cons (ps_if (PW.pt (pw_or (pt_cmpR (op_eqD hr.units) (pv 1) (pe_lst (pa_cons pe_str pa_nil)) (nomark _)) (pw_or1 (pt_cmpR op_ne (pe_callB call_len_seq (by rfl) B.len boot_len (pa_cons (pv 1) pa_nil)) (pe_op op_sub (pe_callB call_len_seq (by rfl) B.len boot_len (pa_cons (pv 0) pa_nil)) pe_int) (nomark _))))) (pss_one (ps_ret pe_bl)) pss_nil)
      (pss_one (ps_ret (pe_cmpR (op_eqD hr.units) (pe_lc (own := [("_law_k", 2), ("_law_sort", 3)]) (g := gTup K 2 (gCons (gName 2) (gCons (gName 3) gNil))) (tt := tNot (tB (tCall (lessSp spReadsX n) [] E0 (tCons (tVar 3) (tCons (tOp (rIxT K) (tVar 0) (tOp (rI0 fun i j => .int (i + j)) (tVar 2) (tC (.int 1)))) tNil))))) (te := tVar 2) rfl scReadsP.nd (pi_enum rfl be (pa_cons (pv 1) pa_nil)) (blkOk_by (N := nReadsP) (sc := defScope sReadsP) (by decide +kernel))
          (fun _ _ _ _ _ => pg_tup rfl (pgs_cons (pg_name (i := 2) scReadsP.nd rfl (Or.inl rfl)) (pgs_cons (pg_name (i := 3) scReadsP.nd rfl (Or.inl rfl)) pgs_nil)))
          (fun _ _ _ _ _ => pts_one (pt_not (pt_val (pe_gd DX hr rfl pass0 (pa_cons (pv 3) (pa_cons (pe_ix ix_tup (pv 0) (pe_op op_add (pv 2) pe_int) (fun _ _ => rfl)) pa_nil)))))) (fun _ _ _ _ _ => pv 2)) (pe_lst pa_nil) (nomark _)))))), ?_⟩
    exact ⟨_, rfl, v, .ty "tuple", _, _, _, rfl, .ty _, ty H (Same.refl H), kit_ty kt, _, rfl, iteT (iteT (fin H (Same.refl H)))⟩
theorem ok_judgedL (F : Fun K "_law_judged" "_law_judged" sJudged f fd) (B : Blt mg) (n : Nat) (hn : n ≤ 30) {k : Nat} (hk : 6 ≤ k)
    (DI : GD P w K mg base CX0 "is_plan" ["thing"] 6 (spIsPlan K n)) (DP : GD P w K mg base CX0 "_law_reads_plan" ["_law_thing"] k (spOther K)) : FnG P w K mg base (k + 1) f fd ["_law_thing"] (spJList K n) := by
  refine okG F scJudged (fun vs H Q E h => ?_) (fun cdv A outer s H vs Q E gd hr h => ?_)
  · obtain ⟨p, us, ds, rfl, _⟩ := h
    rfl
  · obtain ⟨p, us, ds, rfl, hp, rl, dp, mild, sz, fin⟩ := h
    have hr6 := hr.mono hk
    have hu := hr.units
    refine ⟨_, pss_cons (ps_set (i := 1) scJudged.nd rfl (.inl rfl) (pe_callB (call_reprG gd hu) (by rfl) B.repr bootS_repr (pa_cons (pv 0) pa_nil)))
      (pss_cons (ps_set (i := 2) scJudged.nd rfl (.inl rfl) (pe_gd DI hr6 rfl pass0 (pa_cons (pv 0) pa_nil)))
      (pss_one (ps_ret (pe_and (pe_callB call_isi (by rfl) B.isinstance boot_isinstance (pa_cons (pv 2) (pa_cons (pe_bltn (v := .ty "bool") (by rfl) B.bool boot_bool rfl) pa_nil)))
        (pe_and (pe_cmpR op_eq (pv 2) (pe_gd DP hr rfl pass0 (pa_cons (pv 0) pa_nil)) (nomark _))
        (pe_one (pe_cmpR op_eq (pe_callB (call_reprG gd hu) (by rfl) B.repr bootS_repr (pa_cons (pv 0) pa_nil)) (pv 1) (nomark _)))))))), ?_⟩
    obtain ⟨f1, f2, f3⟩ := MildL.shown ds mild
    have dep := DeepL.py ds dp
    have l := listText_len_le (PyData.shownAll (pyL ds))
    have len : (PyData.list (pyL ds)).shown.length ≤ sizeLine := by
      show (listText (PyData.shownAll (pyL ds))).length ≤ sizeLine
      rw [sizeLine_eq]
      omega
    have dl : ∀ G, Same H G → Dp K G (.ref p) (.list (pyL ds)) := fun G s1 => .lst (SqL.of (s1 _ _ hp)) (RepL.dp ds (RepL.keepSame s1 rl))
    have ty : ∀ G, Same H G → TyX K G (.ref p) (.type "list") := fun G s1 => .base (.lst (s1 _ _ hp))
    have kt : kitB "list" "tuple" = some false := by decide +kernel
    have dd : (PyData.list (pyL ds)).depth ≤ 40 := by
      simp only [PyData.depth]
      omega
    refine ⟨_, rfl, .ref p, .list (pyL ds), rfl, dl H (Same.refl H), f1, f2, dd, len, ?_⟩
    refine ⟨_, rfl, .inr ⟨.ref p, "list", rfl, ty, kt, fun G1 s1 => ?_⟩⟩
    refine ⟨_, rfl, .bl false, .ty "bool", _, _, _, rfl, .ty _, (Rep.blI (b := false)).ty, kit_ty (kit_bool (.bl false)), _, rfl, ?_⟩
    refine iteT ⟨_, rfl, _, rfl, .ref p, "list", rfl, fun G s2 => ty G (s1.trans s2), kt, fun G2 s2 => ?_⟩
    refine ⟨rfl, _, rfl, ?_⟩
    rw [decide_eq_true (rfl : V.bl false = V.bl false)]
    refine iteT ⟨_, rfl, .ref p, .list (pyL ds), rfl, dl G2 (s1.trans s2), f1, f2, dd, len, _, rfl, rfl, ?_⟩
    rw [decide_eq_true (rfl : V.str (PyData.list (pyL ds)).shown = V.str (PyData.list (pyL ds)).shown)]
    exact fin G2 (s1.trans s2)
end
end K82


set_option Elab.async false
set_option linter.all false
set_option maxRecDepth 100000
set_option maxHeartbeats 4000000
namespace Lb
open PySem PySem.Spec PyProof.Rows L2
/-- repr of a dict with nothing in it -/
def rReprE : List V → Hp → VK → Prop := fun xs H Q => ∃ a, xs = [.ref a] ∧ H a = some (.dK []) ∧ Q (.str (PyData.dict []).shown) H
theorem call_reprE {X : Cx} (hg : X.A.guards = some []) (hu : X.A.units + 64 < cLine) : CallR X (.builtin "repr") rReprE := by
  intro pins s σ H xs us Q I r h
  obtain ⟨a, rfl, hd, q⟩ := h
  obtain ⟨u, rfl, ru⟩ := vals1 r
  cases ru
  obtain ⟨_, low, vs, kv, o, es, ep, ho, he, hdat, _, pr, _⟩ := I.hok a _ hd
  have e0 : vs = [] := by
    cases kv
    rfl
  subst e0
  have e1 : es.toList = [] := List.eq_nil_of_length_eq_zero (by rw [pr.length]; rfl)
  have rd : Reads s.heap (.ref a) (.dict []) (a :: [] ++ []) := .dict ho he.1 hdat (by rw [e1]; exact .nil) (by rw [e1]; exact .nil)
  have e9 : (PyData.dict []).depth ≤ 1 := by decide +kernel
  refine repr_of_reads' rd rfl (fun _ m => ?_) hg (by omega) (fun _ _ e => e) (fun h' u tk hk => ⟨.str (PyData.dict []).shown, H, I.kept hk, ⟨u, rfl⟩, q⟩) (by decide +kernel)
  have e : sysModules = a := by simpa using m
  rw [← e] at low
  simp at low
end Lb
namespace K82
open PySem PySem.Spec PyProof.Rows L2 Lb
/-- a dict with nothing in it -/
def spJNone : Sp := fun vs H Q _ => ∃ p : Addr, vs = [.ref p] ∧ H p = some (.dK []) ∧ ∀ H', Same H H' → Q (.bl true) H'
section
variable {P : Program} {w : World} {K : PySem.W.Frag} {mg : Str → Option Value} {base : Heap} {f : Addr} {fd : FuncData}
theorem ok_judgedE (F : Fun K "_law_judged" "_law_judged" sJudged f fd) (B : Blt mg) (n : Nat) (hn : n ≤ 30) {k : Nat} (hk : 6 ≤ k)
    (DI : GD P w K mg base CX0 "is_plan" ["thing"] 6 (spIsPlan K n)) (DP : GD P w K mg base CX0 "_law_reads_plan" ["_law_thing"] k (spOther K)) : FnG P w K mg base (k + 1) f fd ["_law_thing"] spJNone := by
  refine okG F scJudged (fun vs H Q E h => ?_) (fun cdv A outer s H vs Q E gd hr h => ?_)
  · obtain ⟨p, rfl, _⟩ := h
    rfl
  · obtain ⟨p, rfl, hp, fin⟩ := h
    have hr6 := hr.mono hk
    have hu := hr.units
    refine ⟨_, pss_cons (ps_set (i := 1) scJudged.nd rfl (.inl rfl) (pe_callB (call_reprE gd hu) (by rfl) B.repr bootS_repr (pa_cons (pv 0) pa_nil)))
      (pss_cons (ps_set (i := 2) scJudged.nd rfl (.inl rfl) (pe_gd DI hr6 rfl pass0 (pa_cons (pv 0) pa_nil)))
      (pss_one (ps_ret (pe_and (pe_callB call_isi (by rfl) B.isinstance boot_isinstance (pa_cons (pv 2) (pa_cons (pe_bltn (v := .ty "bool") (by rfl) B.bool boot_bool rfl) pa_nil)))
        (pe_and (pe_cmpR op_eq (pv 2) (pe_gd DP hr rfl pass0 (pa_cons (pv 0) pa_nil)) (nomark _))
        (pe_one (pe_cmpR op_eq (pe_callB (call_reprE gd hu) (by rfl) B.repr bootS_repr (pa_cons (pv 0) pa_nil)) (pv 1) (nomark _)))))))), ?_⟩
    have ty : ∀ G, Same H G → TyX K G (.ref p) (.type "dict") := fun G s1 => .base (.dK (s1 _ _ hp))
    have kt : kitB "dict" "tuple" = some false := by decide +kernel
    refine ⟨_, rfl, p, rfl, hp, ?_⟩
    refine ⟨_, rfl, .inr ⟨.ref p, "dict", rfl, ty, kt, fun G1 s1 => ?_⟩⟩
    refine ⟨_, rfl, .bl false, .ty "bool", _, _, _, rfl, .ty _, (Rep.blI (b := false)).ty, kit_ty (kit_bool (.bl false)), _, rfl, ?_⟩
    refine iteT ⟨_, rfl, _, rfl, .ref p, "dict", rfl, fun G s2 => ty G (s1.trans s2), kt, fun G2 s2 => ?_⟩
    refine ⟨rfl, _, rfl, ?_⟩
    rw [decide_eq_true (rfl : V.bl false = V.bl false)]
    refine iteT ⟨_, rfl, p, rfl, s2 _ _ (s1 _ _ hp), _, rfl, rfl, ?_⟩
    rw [decide_eq_true (rfl : V.str (PyData.dict []).shown = V.str (PyData.dict []).shown)]
    exact fin G2 (s1.trans s2)
end
end K82


set_option Elab.async false
set_option linter.all false
set_option maxRecDepth 100000
set_option maxHeartbeats 4000000
namespace K82
open PySem PySem.Spec PyProof.Rows L2 Lb
abbrev sRight : Stmt := top 38
def spRight : Sp := fun vs H Q _ => ∃ p : Addr, vs = [.ref p] ∧ Pot H p ∧ ∀ H', But p p H H' → Q (.bl true) H'
abbrev sLaw : Stmt := top 39
def spLaw (K : PySem.W.Frag) : Sp := fun vs H Q _ => ∃ (a : Addr) (ns : List Int), vs = [.ref a] ∧ SqL K H a (ns.map V.int) ∧ ns.length ≤ 63 ∧ ∀ H', Q (.bl true) H'
section
variable {P : Program} {w : World} {K : PySem.W.Frag} {mg : Str → Option Value} {base : Heap}
abbrev nLaw : List Str := ["_law_script", "_law_k"]
theorem scLaw : FnScope nLaw ["_law_script"] (defScope sLaw) := ⟨rfl, rfl, rfl, by decide +kernel, rfl, by decide +kernel, by decide +kernel⟩
theorem ok_law {f : Addr} {fd : FuncData} {k : Nat} (F : Fun K "law" "law" sLaw f fd) (B : Blt mg) (hk : 1 ≤ k)
    (DP : GD P w K mg base CX0 "_law_pot" ["_law_script", "_law_k"] 1 (spPot K)) (DR : GG P w K mg base "_law_right" ["_law_pot_here"] k spRight) : FnG P w K mg base (k + 1) f fd ["_law_script"] (spLaw K) := by
  refine okG F scLaw (fun vs H Q E h => ?_) (fun cdv A outer s H vs Q E gd hr h => ?_)
  · obtain ⟨a, ns, rfl, _⟩ := h
    rfl
  · obtain ⟨a, ns, rfl, hS, hlen, fin⟩ := h
    have hr1 := hr.mono hk
    refine ⟨_, pss_cons (ps_for PassesOwn.never rfl (pi_range1 rfl B.range (pa_cons (pe_callB (call_max2 rfl) (by rfl) B.max boot_max (pa_cons pe_int (pa_cons (pe_callB (call_min2 rfl) (by rfl) B.min boot_min (pa_cons pe_int (pa_cons (pe_callB call_len_seq (by rfl) B.len boot_len (pa_cons (pv 0) pa_nil)) pa_nil))) pa_nil))) pa_nil)) (pg_name (i := 1) scLaw.nd rfl (.inl rfl))
        (pss_one (ps_if (pt_not (pt_val (pe_gg (E := E0) DR gd hr rfl (pa_cons (pe_gd DP hr1 rfl pass0 (pa_cons (pv 0) (pa_cons (pv 1) pa_nil))) pa_nil)))) (pss_one (ps_ret pe_bl)) pss_nil)))
      (pss_one (ps_ret pe_bl)), ?_⟩
    have many : ∃ m : Nat, m ≤ 3 ∧ (if (if (((ns.map V.int).length : Nat) : Int) < 3 then (((ns.map V.int).length : Nat) : Int) else 3) > 1 then (if (((ns.map V.int).length : Nat) : Int) < 3 then (((ns.map V.int).length : Nat) : Int) else 3) else 1) = (m : Int) := by
      generalize (ns.map V.int).length = t
      refine ⟨max 1 (min 3 t), by omega, ?_⟩
      split <;> split <;> omega
    obtain ⟨m, m3, em⟩ := many
    refine ⟨_, rfl, a, _, rfl, .inl hS, 3, ((ns.map V.int).length : Nat), rfl, 1, _, rfl, ?_⟩
    refine ⟨(m : Int), congrArg (fun z => [V.int z]) em, by omega, by omega, for_range (lo := 0) (n := (m : Int).toNat) (fun i σ G => ∃ v : Option V, σ = [some (.ref a), v] ∧ Same H G) ⟨none, rfl, Same.refl _⟩ ?_ ?_⟩
    · rintro i σ G hi ⟨v, rfl, sG⟩
      refine ⟨_, rfl, _, rfl, a, ns, _, rfl, sG.seq hS, by omega, by omega, fun p G2 np s2 pp => ⟨p, rfl, pp, fun G3 b3 => ⟨_, rfl, iteF ⟨_, rfl, fun c o e => ?_⟩⟩⟩⟩
      have e1 := sG _ _ e
      exact b3 _ _ (s2 _ _ e1) (ne_of_none e1 np) (ne_of_none e1 np)
    · rintro σ G ⟨v, rfl, sG⟩
      exact fin G
end
end K82


set_option Elab.async false
set_option linter.all false
set_option maxRecDepth 100000
set_option maxHeartbeats 4000000
/-! Plans that are made: how deep, how wide, how large, that they are plans. -/
namespace K82
open PySem PySem.Spec PyProof.Rows L2 Lb
/-- a thing that the laws may handle: so deep, so large -/
def Fine (n s : Nat) (d : D) : Prop := d.Deep n ∧ K82.D.Slim d ∧ d.py.canLay0 = true ∧ d.Mild ∧ D.size d ≤ s
def FineL (n s : Nat) (ds : List D) : Prop := DeepL n ds ∧ SlimL ds ∧ LayL ds ∧ MildL ds ∧ sizeL ds ≤ s
theorem Fine.le {n m s t : Nat} {d : D} (h : Fine n s d) (a : n ≤ m) (b : s ≤ t) : Fine m t d := ⟨D.Deep.le h.1 a, h.2.1, h.2.2.1, h.2.2.2.1, Nat.le_trans h.2.2.2.2 b⟩
theorem FineL.nil {n s : Nat} : FineL n s [] := ⟨by simp only [DeepL], by simp only [SlimL], rfl, by simp only [MildL], by simp only [sizeL]; omega⟩
theorem FineL.cons {n s t : Nat} {d : D} {ds : List D} (a : Fine n s d) (b : FineL n t ds) : FineL n (s + t) (d :: ds) := by
  obtain ⟨a1, a2, a3, a4, a5⟩ := a
  obtain ⟨b1, b2, b3, b4, b5⟩ := b
  refine ⟨by simp only [DeepL]; exact ⟨a1, b1⟩, by simp only [SlimL]; exact ⟨a2, b2⟩, ?_, by simp only [MildL]; exact ⟨a4, b4⟩, by simp only [sizeL]; omega⟩
  simp only [LayL, pyL, PyData.canLayAll0, Bool.and_eq_true] at b3 ⊢
  exact ⟨a3, b3⟩
theorem FineL.le {n s t : Nat} {ds : List D} (h : FineL n s ds) (b : s ≤ t) : FineL n t ds := ⟨h.1, h.2.1, h.2.2.1, h.2.2.2.1, Nat.le_trans h.2.2.2.2 b⟩
theorem Fine.tup {n s : Nat} {ds : List D} (l : ds.length ≤ 10) (h : FineL n s ds) : Fine (n + 1) (1 + s) (.tup ds) := by
  obtain ⟨a1, a2, a3, a4, a5⟩ := h
  exact ⟨by simp only [D.Deep]; exact a1, by simp only [D.Slim]; exact ⟨l, a2⟩, by simp only [D.py, PyData.canLay0]; exact a3, by simp only [D.Mild]; exact a4, by simp only [D.size]; omega⟩
theorem Fine.int {n : Nat} {i : Int} (h : -BIG ≤ i) (h2 : i ≤ BIG) : Fine n 1 (.int i) :=
  ⟨by cases n <;> simp only [D.Deep], by simp only [D.Slim], rfl, by simp only [D.Mild]; exact Nat.lt_of_lt_of_le (BIG_bits h h2) (Nat.pow_le_pow_right (by decide) (by decide)), by simp only [D.size]; omega⟩
theorem Fine.small {n : Nat} {i : Int} (h : 0 ≤ i) (h2 : i ≤ 1000) : Fine n 1 (.int i) := Fine.int (by unfold BIG; omega) (by unfold BIG; omega)
theorem Fine.str {n s : Nat} (z : Str) (h : (D.str z).py.canLay0 = true) (r : (reprText z).length ≤ 150) (l : 1 + z.length ≤ s) : Fine n s (.str z) :=
  ⟨by cases n <;> simp only [D.Deep], by simp only [D.Slim], h, by simp only [D.Mild]; exact r, by simp only [D.size]; omega⟩
theorem fineL_map {α : Type} {n s : Nat} {f : α → D} : ∀ {xs : List α}, (∀ x ∈ xs, Fine n s (f x)) → FineL n (s * xs.length) (xs.map f)
  | [], _ => FineL.nil
  | x :: xs, h => by
    rw [List.map_cons, List.length_cons, Nat.mul_succ, Nat.add_comm]
    exact FineL.cons (h x (.head _)) (fineL_map fun y hy => h y (.tail _ hy))
theorem ch_fine {c : Ch} (h : c.Ok) : Fine 1 8 c.d := by
  cases c with
  | add k => exact Fine.le (Fine.tup (n := 0) (by simp) (.cons (Fine.str (s := 6) _ (by decide +kernel) (by decide +kernel) (by decide +kernel)) (.cons (Fine.int h.1 h.2) (.nil (s := 0))))) (by omega) (by omega)
  | times k => exact Fine.le (Fine.tup (n := 0) (by simp) (.cons (Fine.str (s := 6) _ (by decide +kernel) (by decide +kernel) (by decide +kernel)) (.cons (Fine.int h.1 h.2) (.nil (s := 0))))) (by omega) (by omega)
  | rest k => exact Fine.le (Fine.tup (n := 0) (by simp) (.cons (Fine.str (s := 6) _ (by decide +kernel) (by decide +kernel) (by decide +kernel)) (.cons (Fine.int (by have := h.1; unfold BIG; omega) h.2) (.nil (s := 0))))) (by omega) (by omega)
  | one => exact Fine.le (Fine.tup (n := 0) (by simp) (.cons (Fine.str (s := 6) _ (by decide +kernel) (by decide +kernel) (by decide +kernel)) (.nil (s := 1)))) (by omega) (by omega)
  | sum => exact Fine.le (Fine.tup (n := 0) (by simp) (.cons (Fine.str (s := 6) _ (by decide +kernel) (by decide +kernel) (by decide +kernel)) (.nil (s := 1)))) (by omega) (by omega)
theorem rule_fine {cs : List Ch} (h : RuleOk cs) : Fine 2 25 (ruleD cs) := by
  have h1 := h.1
  refine Fine.le (Fine.tup (n := 1) (s := 24) (by rw [List.length_map]; omega) ((fineL_map fun c hc => ch_fine (h.2 c hc)).le (by omega))) (by omega) (by omega)
def lz : Nat → Nat
  | 0 => 8
  | n + 1 => 33 + 2 * lz n
theorem lz0 : ∀ n, 8 ≤ lz n
  | 0 => Nat.le_refl _
  | n + 1 => by
    have := lz0 n
    simp only [lz]
    omega
mutual
theorem lk_fine : ∀ {n : Nat} (l : Lk), Lk.Ok n l → Fine (1 + 2 * n) (lz n) l.d
  | n, .rest m r, h => by
    have h : 1 ≤ m ∧ m ≤ 100 ∧ 0 ≤ r ∧ r < m := by cases n <;> (simp only [Lk.Ok] at h; exact h)
    have := lz0 n
    simp only [Lk.d]
    exact Fine.le (Fine.tup (n := 0) (by simp) (.cons (Fine.str (s := 5) _ (by decide +kernel) (by decide +kernel) (by decide +kernel)) (.cons (Fine.small (by omega) (by omega)) (.cons (Fine.small (by omega) (by omega)) (.nil (s := 0)))))) (by omega) (by omega)
  | n, .under c, h => by
    have h : -BIG ≤ c ∧ c ≤ BIG := by cases n <;> (simp only [Lk.Ok] at h; exact h)
    have := lz0 n
    simp only [Lk.d]
    exact Fine.le (Fine.tup (n := 0) (by simp) (.cons (Fine.str (s := 6) _ (by decide +kernel) (by decide +kernel) (by decide +kernel)) (.cons (Fine.int h.1 h.2) (.nil (s := 0))))) (by omega) (by omega)
  | 0, .after cs ls, h => by simp only [Lk.Ok] at h
  | n + 1, .after cs ls, h => by
    simp only [Lk.Ok] at h
    have a := rule_fine h.1
    have b := testL_fine ls h.2.2
    have l2 := h.2.1
    have b3 : lz n * ls.length ≤ lz n * 2 := Nat.mul_le_mul_left _ l2
    have t : Fine (2 + 2 * n) (1 + lz n * ls.length) (.tup (testL ls)) := (Fine.tup (by rw [testL_length]; omega) b).le (by omega) (by omega)
    simp only [Lk.d, lz]
    exact Fine.le (Fine.tup (n := 2 + 2 * n) (by simp) (.cons (Fine.str (s := 6) _ (by decide +kernel) (by decide +kernel) (by decide +kernel)) (.cons (a.le (by omega) (Nat.le_refl _)) (.cons t (.nil (s := 0)))))) (by omega) (by omega)
theorem testL_fine : ∀ {n : Nat} (ls : List Lk), TestAll n ls → FineL (1 + 2 * n) (lz n * ls.length) (testL ls)
  | n, [], _ => by
    simp only [testL]
    exact FineL.nil
  | n, l :: ls, h => by
    simp only [TestAll] at h
    simp only [testL, List.length_cons, Nat.mul_succ]
    rw [Nat.add_comm (lz n * ls.length)]
    exact FineL.cons (lk_fine l h.1) (testL_fine ls h.2)
end
theorem test_fine {ls : List Lk} (l : ls.length ≤ 2) (h : TestAll 2 ls) : Fine 6 263 (testD ls) := by
  have b := testL_fine ls h
  have e : lz 2 = 131 := rfl
  rw [e] at b
  exact Fine.le (Fine.tup (by rw [testL_length]; omega) b) (by omega) (by omega)
theorem nums_fine {n : Nat} {ns : List Int} (h : NumsOk ns) : Fine (n + 1) 7 (numD ns) := by
  have h1 := h.1
  exact Fine.le (Fine.tup (n := n) (s := 6) (by rw [List.length_map]; omega) ((fineL_map (s := 1) fun i hi => Fine.int (h.2 i hi).1 (h.2 i hi).2).le (by omega))) (Nat.le_refl _) (by omega)
/-- a plan that is made is so large at most -/
def pz (n : Nat) : Nat := 92 * 4 ^ n - 3
theorem pz_up (n : Nat) : 4 * pz n + 9 ≤ pz (n + 1) ∧ pz n + 270 ≤ pz (n + 1) ∧ 89 ≤ pz n := by
  have : 1 ≤ 4 ^ n := Nat.pow_pos (by decide)
  simp only [pz, Nat.pow_succ]
  omega
mutual
theorem plan_fine : ∀ {n : Nat} (p : Pl), p.Ok n → Fine (2 * n + 8) (pz n) p.d
  | n, .list ns, h => by
    have h : NumsOk ns := by cases n <;> (simp only [Pl.Ok] at h; exact h)
    have := (pz_up n).2.2
    simp only [Pl.d]
    exact Fine.le (Fine.tup (n := 1) (by simp) (.cons (Fine.str (s := 10) _ (by decide +kernel) (by decide +kernel) (by decide +kernel)) (.cons (nums_fine h) (.nil (s := 0))))) (by omega) (by omega)
  | n, .broken ns z, h => by
    have h : NumsOk ns ∧ (z = "torn" ∨ z = "a" ∨ z = "brokenup") := by cases n <;> (simp only [Pl.Ok] at h; exact h)
    have := (pz_up n).2.2
    have hz : ∀ m, Fine m 10 (.str z) := fun m => by
      rcases h.2 with rfl | rfl | rfl <;> exact Fine.str (s := 10) _ (by decide +kernel) (by decide +kernel) (by decide +kernel)
    simp only [Pl.d]
    exact Fine.le (Fine.tup (n := 1) (by simp) (.cons (Fine.str (s := 10) _ (by decide +kernel) (by decide +kernel) (by decide +kernel)) (.cons (nums_fine h.1) (.cons (hz _) (.nil (s := 0)))))) (by omega) (by omega)
  | n, .count a b c, h => by
    have h : (-BIG ≤ a ∧ a ≤ BIG) ∧ (-BIG ≤ b ∧ b ≤ BIG) ∧ 0 ≤ c ∧ c ≤ 8 := by cases n <;> (simp only [Pl.Ok] at h; exact h)
    have := (pz_up n).2.2
    simp only [Pl.d]
    exact Fine.le (Fine.tup (n := 1) (by simp) (.cons (Fine.str (s := 10) _ (by decide +kernel) (by decide +kernel) (by decide +kernel)) (.cons (Fine.int h.1.1 h.1.2) (.cons (Fine.int h.2.1.1 h.2.1.2) (.cons (Fine.small (by omega) (by omega)) (.nil (s := 0))))))) (by omega) (by omega)
  | n, .row k, h => by
    have h : 0 ≤ k ∧ k ≤ 7 := by cases n <;> (simp only [Pl.Ok] at h; exact h)
    have := (pz_up n).2.2
    simp only [Pl.d]
    exact Fine.le (Fine.tup (n := 1) (by simp) (.cons (Fine.str (s := 10) _ (by decide +kernel) (by decide +kernel) (by decide +kernel)) (.cons (Fine.small (by omega) (by omega)) (.nil (s := 0))))) (by omega) (by omega)
  | n + 1, .turn cs p, h => by
    simp only [Pl.Ok] at h
    have := pz_up n
    simp only [Pl.d]
    exact Fine.le (Fine.tup (n := 2 * n + 8) (by simp) (.cons (Fine.str (s := 10) _ (by decide +kernel) (by decide +kernel) (by decide +kernel)) (.cons ((rule_fine h.1).le (by omega) (Nat.le_refl _)) (.cons (plan_fine p h.2) (.nil (s := 0)))))) (by omega) (by omega)
  | n + 1, .sieve ls p, h => by
    simp only [Pl.Ok] at h
    have := pz_up n
    simp only [Pl.d]
    exact Fine.le (Fine.tup (n := 2 * n + 8) (by simp) (.cons (Fine.str (s := 6) _ (by decide +kernel) (by decide +kernel) (by decide +kernel)) (.cons ((test_fine h.1 h.2.1).le (by omega) (Nat.le_refl _)) (.cons (plan_fine p h.2.2) (.nil (s := 0)))))) (by omega) (by omega)
  | n + 1, .upto ls p, h => by
    simp only [Pl.Ok] at h
    have := pz_up n
    simp only [Pl.d]
    exact Fine.le (Fine.tup (n := 2 * n + 8) (by simp) (.cons (Fine.str (s := 5) _ (by decide +kernel) (by decide +kernel) (by decide +kernel)) (.cons ((test_fine h.1 h.2.1).le (by omega) (Nat.le_refl _)) (.cons (plan_fine p h.2.2) (.nil (s := 0)))))) (by omega) (by omega)
  | n + 1, .cut k p, h => by
    simp only [Pl.Ok] at h
    have := pz_up n
    simp only [Pl.d]
    exact Fine.le (Fine.tup (n := 2 * n + 8) (by simp) (.cons (Fine.str (s := 10) _ (by decide +kernel) (by decide +kernel) (by decide +kernel)) (.cons (Fine.small (by omega) (by omega)) (.cons (plan_fine p h.2.2) (.nil (s := 0)))))) (by omega) (by omega)
  | n + 1, .left k p, h => by
    simp only [Pl.Ok] at h
    have := pz_up n
    simp only [Pl.d]
    exact Fine.le (Fine.tup (n := 2 * n + 8) (by simp) (.cons (Fine.str (s := 10) _ (by decide +kernel) (by decide +kernel) (by decide +kernel)) (.cons (Fine.small (by omega) (by omega)) (.cons (plan_fine p h.2.2) (.nil (s := 0)))))) (by omega) (by omega)
  | n + 1, .chain ps, h => by
    simp only [Pl.Ok] at h
    have := pz_up n
    have b : pz n * ps.length ≤ pz n * 4 := Nat.mul_le_mul_left _ h.1
    simp only [Pl.d]
    have l := h.1
    exact Fine.le (Fine.tup (n := 2 * n + 9) (by simp) (.cons (Fine.str (s := 6) _ (by decide +kernel) (by decide +kernel) (by decide +kernel)) (.cons (Fine.tup (by rw [planL_length]; omega) (planL_fine ps h.2)) (.nil (s := 0))))) (by omega) (by omega)
  | n + 1, .beside ps, h => by
    simp only [Pl.Ok] at h
    have := pz_up n
    have b : pz n * ps.length ≤ pz n * 4 := Nat.mul_le_mul_left _ (by omega)
    simp only [Pl.d]
    have l := h.2.1
    exact Fine.le (Fine.tup (n := 2 * n + 9) (by simp) (.cons (Fine.str (s := 7) _ (by decide +kernel) (by decide +kernel) (by decide +kernel)) (.cons (Fine.tup (by rw [planL_length]; omega) (planL_fine ps h.2.2)) (.nil (s := 0))))) (by omega) (by omega)
  | n + 1, .ahead p, h => by
    simp only [Pl.Ok] at h
    have := pz_up n
    simp only [Pl.d]
    exact Fine.le (Fine.tup (n := 2 * n + 8) (by simp) (.cons (Fine.str (s := 10) _ (by decide +kernel) (by decide +kernel) (by decide +kernel)) (.cons (plan_fine p h) (.nil (s := 0))))) (by omega) (by omega)
  | n + 1, .windows s t p, h => by
    simp only [Pl.Ok] at h
    have := pz_up n
    simp only [Pl.d]
    exact Fine.le (Fine.tup (n := 2 * n + 8) (by simp) (.cons (Fine.str (s := 10) _ (by decide +kernel) (by decide +kernel) (by decide +kernel)) (.cons (Fine.small (by omega) (by omega)) (.cons (Fine.small (by omega) (by omega)) (.cons (plan_fine p h.2.2) (.nil (s := 0))))))) (by omega) (by omega)
  | n + 1, .marks m p, h => by
    simp only [Pl.Ok] at h
    have := pz_up n
    simp only [Pl.d]
    exact Fine.le (Fine.tup (n := 2 * n + 8) (by simp) (.cons (Fine.str (s := 10) _ (by decide +kernel) (by decide +kernel) (by decide +kernel)) (.cons (Fine.int (by have := h.1; unfold BIG; omega) h.2.1) (.cons (plan_fine p h.2.2) (.nil (s := 0)))))) (by omega) (by omega)
  | n + 1, .spare p q, h => by
    simp only [Pl.Ok] at h
    have := pz_up n
    simp only [Pl.d]
    exact Fine.le (Fine.tup (n := 2 * n + 8) (by simp) (.cons (Fine.str (s := 10) _ (by decide +kernel) (by decide +kernel) (by decide +kernel)) (.cons (plan_fine p h.1) (.cons (plan_fine q h.2) (.nil (s := 0)))))) (by omega) (by omega)
  | n + 1, .wanted k z p, h => by
    simp only [Pl.Ok] at h
    have := pz_up n
    have hz : ∀ m, Fine m 10 (.str z) := fun m => by
      rcases h.2.2.1 with rfl | rfl <;> exact Fine.str (s := 10) _ (by decide +kernel) (by decide +kernel) (by decide +kernel)
    simp only [Pl.d]
    exact Fine.le (Fine.tup (n := 2 * n + 8) (by simp) (.cons (Fine.str (s := 10) _ (by decide +kernel) (by decide +kernel) (by decide +kernel)) (.cons (Fine.small (by omega) (by omega)) (.cons (hz _) (.cons (plan_fine p h.2.2.2) (.nil (s := 0))))))) (by omega) (by omega)
  | 0, .turn _ _, h => by simp only [Pl.Ok] at h
  | 0, .sieve _ _, h => by simp only [Pl.Ok] at h
  | 0, .upto _ _, h => by simp only [Pl.Ok] at h
  | 0, .cut _ _, h => by simp only [Pl.Ok] at h
  | 0, .left _ _, h => by simp only [Pl.Ok] at h
  | 0, .chain _, h => by simp only [Pl.Ok] at h
  | 0, .beside _, h => by simp only [Pl.Ok] at h
  | 0, .ahead _, h => by simp only [Pl.Ok] at h
  | 0, .windows _ _ _, h => by simp only [Pl.Ok] at h
  | 0, .marks _ _, h => by simp only [Pl.Ok] at h
  | 0, .spare _ _, h => by simp only [Pl.Ok] at h
  | 0, .wanted _ _ _, h => by simp only [Pl.Ok] at h
theorem planL_fine : ∀ {n : Nat} (ps : List Pl), PlAll n ps → FineL (2 * n + 8) (pz n * ps.length) (planL ps)
  | n, [], _ => by
    simp only [planL]
    exact FineL.nil
  | n, p :: ps, h => by
    simp only [PlAll] at h
    simp only [planL, List.length_cons, Nat.mul_succ]
    rw [Nat.add_comm (pz n * ps.length)]
    exact FineL.cons (plan_fine p h.1) (planL_fine ps h.2)
end
end K82


set_option Elab.async false
set_option linter.all false
set_option maxRecDepth 100000
set_option maxHeartbeats 4000000
namespace K82
open PySem PySem.Spec PyProof.Rows L2 Lb
theorem plan_by {n : Nat} {z : Str} {r : List D} {ks : List Kd} (h : behind .plan z = some ks) (l : r.length = ks.length) (a : (ks.zip r).all (fun p => okK (planN n) n p.1 p.2) = true) : planN (n + 1) (.tup (.str z :: r)) = true := by
  have e : behindD .plan (.str z) = some ks := h
  simp only [planN, e]
  rw [decide_eq_true l, Bool.true_and]
  exact a
theorem bh_list : behind .plan "list" = some [.nums] := by with_unfolding_all rfl
theorem ch_is (c : Ch) (h : c.Ok) : chOk c.d = true := by
  cases c with
  | add k => with_unfolding_all rfl
  | times k => with_unfolding_all rfl
  | rest k =>
    have h := h.1
    show (decide (("rest" : Str) = "add") || decide (("rest" : Str) = "times") || (decide (("rest" : Str) = "rest") && decide (1 ≤ k))) = true
    rw [decide_eq_true h]
    decide +kernel
  | one => with_unfolding_all rfl
  | sum => with_unfolding_all rfl
theorem rule_is {cs : List Ch} (h : RuleOk cs) : isRuleB (ruleD cs) = true := by
  show (cs.map Ch.d).all chOk = true
  rw [List.all_map, List.all_eq_true]
  exact fun c hc => ch_is c (h.2 c hc)
theorem testN_tup (n : Nat) (ds : List D) : testN (n + 1) (.tup ds) = ds.all (lkOk (testN n)) := rfl
mutual
theorem lk_is : ∀ {n m : Nat} (l : Lk), Lk.Ok n l → n ≤ m → lkOk (testN m) l.d = true
  | n, m, .rest a b, h, _ => by
    have h : 1 ≤ a ∧ a ≤ 100 ∧ 0 ≤ b ∧ b < a := by cases n <;> (simp only [Lk.Ok] at h; exact h)
    simp only [Lk.d]
    show lk (testN m) [.str "rest", .int a, .int b] = true
    rw [lkL_rest n_ra, decide_eq_true (rfl : ("rest" : Str) = "rest"), Bool.true_and]
    show (decide (0 ≤ b) && decide (b < a)) = true
    rw [decide_eq_true h.2.2.1, decide_eq_true h.2.2.2]
    rfl
  | n, m, .under c, h, _ => by
    simp only [Lk.d]
    show lk (testN m) [.str "below", .int c] = true
    rw [lkL_two, decide_eq_true (rfl : ("below" : Str) = "below")]
  | 0, m, .after cs ls, h, _ => by simp only [Lk.Ok] at h
  | n + 1, m, .after cs ls, h, hm => by
    simp only [Lk.Ok] at h
    obtain ⟨m, rfl⟩ : ∃ k, m = k + 1 := ⟨m - 1, by omega⟩
    simp only [Lk.d]
    show lk (testN (m + 1)) [.str "after", ruleD cs, .tup (testL ls)] = true
    rw [lkL_after, rule_is h.1, Bool.true_and, testN_tup]
    exact testL_is ls h.2.2 (by omega)
theorem testL_is : ∀ {n m : Nat} (ls : List Lk), TestAll n ls → n ≤ m → (testL ls).all (lkOk (testN m)) = true
  | n, m, [], _, _ => by
    simp only [testL]
    rfl
  | n, m, l :: ls, h, hm => by
    simp only [TestAll] at h
    simp only [testL, List.all_cons]
    rw [lk_is l h.1 hm, testL_is ls h.2 hm]
    rfl
end
theorem test_is {m : Nat} {ls : List Lk} (h : TestAll 2 ls) (hm : 3 ≤ m) : testN m (testD ls) = true := by
  obtain ⟨m, rfl⟩ : ∃ k, m = k + 1 := ⟨m - 1, by omega⟩
  rw [testN_tup]
  exact testL_is ls h (by omega)
theorem nums_is (ns : List Int) : numsB (numD ns) = true := by
  show (ns.map D.int).all D.whole = true
  rw [List.all_map, List.all_eq_true]
  exact fun _ _ => rfl
theorem betw_is {x a b : Int} (h : a ≤ x) (h2 : x ≤ b) : inB (.int x) (.some a) (.some b) = true := by
  show (decide (a ≤ x) && decide (x ≤ b)) = true
  rw [decide_eq_true h, decide_eq_true h2]
  rfl
theorem pos_is {m : Int} (h : 1 ≤ m) : posB (.int m) = true := decide_eq_true h
theorem and3 {a b c : Bool} (x : a = true) (y : b = true) (z : c = true) : (a && (b && (c && true))) = true := by rw [x, y, z]; rfl
theorem and2 {a b : Bool} (x : a = true) (y : b = true) : (a && (b && true)) = true := by rw [x, y]; rfl
theorem and1 {a : Bool} (x : a = true) : (a && true) = true := by rw [x]; rfl
mutual
theorem plan_is : ∀ {n m : Nat} (p : Pl), p.Ok n → n + 5 ≤ m → planN m p.d = true
  | n, m, .list ns, h, hm => by
    obtain ⟨m, rfl⟩ : ∃ k, m = k + 1 := ⟨m - 1, by omega⟩
    simp only [Pl.d]
    exact plan_by (ks := [.nums]) (by with_unfolding_all rfl) rfl (and1 (nums_is ns))
  | n, m, .broken ns z, h, hm => by
    have h : NumsOk ns ∧ (z = "torn" ∨ z = "a" ∨ z = "brokenup") := by cases n <;> (simp only [Pl.Ok] at h; exact h)
    obtain ⟨m, rfl⟩ : ∃ k, m = k + 1 := ⟨m - 1, by omega⟩
    simp only [Pl.d]
    refine plan_by (ks := [.nums, .word]) (by with_unfolding_all rfl) rfl (and2 (nums_is ns) ?_)
    show wordB (.str z) = true
    rcases h.2 with rfl | rfl | rfl <;> decide +kernel
  | n, m, .count a b c, h, hm => by
    have h : (-BIG ≤ a ∧ a ≤ BIG) ∧ (-BIG ≤ b ∧ b ≤ BIG) ∧ 0 ≤ c ∧ c ≤ 8 := by cases n <;> (simp only [Pl.Ok] at h; exact h)
    obtain ⟨m, rfl⟩ : ∃ k, m = k + 1 := ⟨m - 1, by omega⟩
    simp only [Pl.d]
    exact plan_by (ks := [.num, .num, .many]) (by with_unfolding_all rfl) rfl (and3 rfl rfl (betw_is h.2.2.1 (by omega)))
  | n, m, .row k, h, hm => by
    have h : 0 ≤ k ∧ k ≤ 7 := by cases n <;> (simp only [Pl.Ok] at h; exact h)
    obtain ⟨m, rfl⟩ : ∃ k, m = k + 1 := ⟨m - 1, by omega⟩
    simp only [Pl.d]
    exact plan_by (ks := [.place]) (by with_unfolding_all rfl) rfl (and1 (betw_is h.1 (by omega)))
  | n + 1, m, .turn cs p, h, hm => by
    simp only [Pl.Ok] at h
    obtain ⟨m, rfl⟩ : ∃ k, m = k + 1 := ⟨m - 1, by omega⟩
    simp only [Pl.d]
    exact plan_by (ks := [.rule, .plan]) (by with_unfolding_all rfl) rfl (and2 (rule_is h.1) (plan_is p h.2 (by omega)))
  | n + 1, m, .sieve ls p, h, hm => by
    simp only [Pl.Ok] at h
    obtain ⟨m, rfl⟩ : ∃ k, m = k + 1 := ⟨m - 1, by omega⟩
    simp only [Pl.d]
    exact plan_by (ks := [.test, .plan]) (by with_unfolding_all rfl) rfl (and2 (test_is h.2.1 (by omega)) (plan_is p h.2.2 (by omega)))
  | n + 1, m, .upto ls p, h, hm => by
    simp only [Pl.Ok] at h
    obtain ⟨m, rfl⟩ : ∃ k, m = k + 1 := ⟨m - 1, by omega⟩
    simp only [Pl.d]
    exact plan_by (ks := [.test, .plan]) (by with_unfolding_all rfl) rfl (and2 (test_is h.2.1 (by omega)) (plan_is p h.2.2 (by omega)))
  | n + 1, m, .cut k p, h, hm => by
    simp only [Pl.Ok] at h
    obtain ⟨m, rfl⟩ : ∃ k, m = k + 1 := ⟨m - 1, by omega⟩
    simp only [Pl.d]
    exact plan_by (ks := [.many, .plan]) (by with_unfolding_all rfl) rfl (and2 (betw_is h.1 h.2.1) (plan_is p h.2.2 (by omega)))
  | n + 1, m, .left k p, h, hm => by
    simp only [Pl.Ok] at h
    obtain ⟨m, rfl⟩ : ∃ k, m = k + 1 := ⟨m - 1, by omega⟩
    simp only [Pl.d]
    exact plan_by (ks := [.many, .plan]) (by with_unfolding_all rfl) rfl (and2 (betw_is h.1 h.2.1) (plan_is p h.2.2 (by omega)))
  | n + 1, m, .chain ps, h, hm => by
    simp only [Pl.Ok] at h
    obtain ⟨m, rfl⟩ : ∃ k, m = k + 1 := ⟨m - 1, by omega⟩
    simp only [Pl.d]
    have l := h.1
    refine plan_by (ks := [.plans]) (by with_unfolding_all rfl) rfl (and1 ?_)
    show (decide ((planL ps).length ≤ 6) && (planL ps).all (planN m)) = true
    rw [planL_length, decide_eq_true (by omega), planL_is ps h.2 (by omega)]
    rfl
  | n + 1, m, .beside ps, h, hm => by
    simp only [Pl.Ok] at h
    obtain ⟨m, rfl⟩ : ∃ k, m = k + 1 := ⟨m - 1, by omega⟩
    simp only [Pl.d]
    have l := h.1
    have l2 := h.2.1
    refine plan_by (ks := [.some]) (by with_unfolding_all rfl) rfl (and1 ?_)
    show (decide (1 ≤ (planL ps).length ∧ (planL ps).length ≤ 6) && (planL ps).all (planN m)) = true
    rw [planL_length, decide_eq_true (by omega), planL_is ps h.2.2 (by omega)]
    rfl
  | n + 1, m, .ahead p, h, hm => by
    simp only [Pl.Ok] at h
    obtain ⟨m, rfl⟩ : ∃ k, m = k + 1 := ⟨m - 1, by omega⟩
    simp only [Pl.d]
    exact plan_by (ks := [.plan]) (by with_unfolding_all rfl) rfl (and1 (plan_is p h (by omega)))
  | n + 1, m, .windows s t p, h, hm => by
    simp only [Pl.Ok] at h
    obtain ⟨m, rfl⟩ : ∃ k, m = k + 1 := ⟨m - 1, by omega⟩
    simp only [Pl.d]
    exact plan_by (ks := [.size, .size, .plan]) (by with_unfolding_all rfl) rfl (and3 (betw_is h.1.1 h.1.2) (betw_is h.2.1.1 h.2.1.2) (plan_is p h.2.2 (by omega)))
  | n + 1, m, .marks k p, h, hm => by
    simp only [Pl.Ok] at h
    obtain ⟨m, rfl⟩ : ∃ k, m = k + 1 := ⟨m - 1, by omega⟩
    simp only [Pl.d]
    exact plan_by (ks := [.dvs, .plan]) (by with_unfolding_all rfl) rfl (and2 (pos_is h.1) (plan_is p h.2.2 (by omega)))
  | n + 1, m, .spare p q, h, hm => by
    simp only [Pl.Ok] at h
    obtain ⟨m, rfl⟩ : ∃ k, m = k + 1 := ⟨m - 1, by omega⟩
    simp only [Pl.d]
    exact plan_by (ks := [.plan, .plan]) (by with_unfolding_all rfl) rfl (and2 (plan_is p h.1 (by omega)) (plan_is q h.2 (by omega)))
  | n + 1, m, .wanted k z p, h, hm => by
    simp only [Pl.Ok] at h
    obtain ⟨m, rfl⟩ : ∃ k, m = k + 1 := ⟨m - 1, by omega⟩
    simp only [Pl.d]
    refine plan_by (ks := [.many, .word, .plan]) (by with_unfolding_all rfl) rfl (and3 (betw_is h.1 h.2.1) ?_ (plan_is p h.2.2.2 (by omega)))
    show wordB (.str z) = true
    rcases h.2.2.1 with rfl | rfl <;> decide +kernel
  | 0, _, .turn _ _, h, _ => by simp only [Pl.Ok] at h
  | 0, _, .sieve _ _, h, _ => by simp only [Pl.Ok] at h
  | 0, _, .upto _ _, h, _ => by simp only [Pl.Ok] at h
  | 0, _, .cut _ _, h, _ => by simp only [Pl.Ok] at h
  | 0, _, .left _ _, h, _ => by simp only [Pl.Ok] at h
  | 0, _, .chain _, h, _ => by simp only [Pl.Ok] at h
  | 0, _, .beside _, h, _ => by simp only [Pl.Ok] at h
  | 0, _, .ahead _, h, _ => by simp only [Pl.Ok] at h
  | 0, _, .windows _ _ _, h, _ => by simp only [Pl.Ok] at h
  | 0, _, .marks _ _, h, _ => by simp only [Pl.Ok] at h
  | 0, _, .spare _ _, h, _ => by simp only [Pl.Ok] at h
  | 0, _, .wanted _ _ _, h, _ => by simp only [Pl.Ok] at h
theorem planL_is : ∀ {n m : Nat} (ps : List Pl), PlAll n ps → n + 5 ≤ m → (planL ps).all (planN m) = true
  | n, m, [], _, _ => by
    simp only [planL]
    rfl
  | n, m, p :: ps, h, hm => by
    simp only [PlAll] at h
    simp only [planL, List.all_cons]
    rw [plan_is p h.1 hm, planL_is ps h.2 hm]
    rfl
end
/-- all that is to be told of a plan that is made -/
theorem made_plan {p : Pl} (h : p.Ok 5) : p.d.Deep 18 ∧ K82.D.Slim p.d ∧ p.d.py.canLay0 = true ∧ p.d.Mild ∧ D.size p.d ≤ 94300 ∧ planN 30 p.d = true := by
  obtain ⟨a, b, c, d, e⟩ := plan_fine p h
  exact ⟨a, b, c, d, Nat.le_trans e (by decide), plan_is p h (by decide)⟩
end K82


set_option Elab.async false
set_option linter.all false
set_option maxRecDepth 100000
set_option maxHeartbeats 4000000
namespace K82
open PySem PySem.Spec PyProof.Rows L2 Lb
/-- what the law wants of _law_judged -/
def spJ (K : PySem.W.Frag) : Sp := fun vs H Q E => spJudged 30 vs H Q E ∨ spJList K 30 vs H Q E ∨ spJNone vs H Q E
section
variable {P : Program} {w : World} {K : PySem.W.Frag} {mg : Str → Option Value} {base : Heap}
abbrev nRight : List Str := ["_law_pot_here", "_law_good", "_law_turn", "_law_one"]
theorem scRight : FnScope nRight ["_law_pot_here"] (defScope sRight) := ⟨rfl, rfl, rfl, by decide +kernel, rfl, by decide +kernel, by decide +kernel⟩
theorem lcJ {H : Hp} {l d : Addr} {us : List V} {σ : L2.St} {Q : VK} (hl : H l = some (.lst us)) (nd : H d = none) (sz : us.length ≤ 1000)
    (h3 : ∀ x : V, wipe ((wipe σ [3]).set 3 (some x)) [3] = wipe σ [3]) (h4 : ∀ x : V, ((wipe σ [3]).set 3 (some x))[3]? = some (some x))
    (go : ∀ x ∈ us, ∀ G Q2, Same H G → (∀ G3, Same G G3 → Q2 (.bl true) G3) → spJ K [x] G Q2 E0)
    (fin : ∀ G, Same H G → G d = some (.lst (List.replicate us.length (.bl true))) → Q (.ref d) G) :
    ∃ W : Nat → Nat → Hp → Prop, (∃ m, W 0 m (upd H d (.lst []))) ∧ ∀ i m H1, W i m H1 → ((Itl K l).stop i H1 ∧ Q (.ref d) H1) ∨ ((Itl K l).go i H1 ∧ ∃ Nx : Hp → Prop, (∀ H', Nx H' → ∃ m', m' < m ∧ W (i + 1) m' H') ∧ ∀ x H', (Itl K l).yld i H1 x H' →
      gName 3 x (wipe σ [3]) H' fun σ2 H2 => wipe σ2 [3] = wipe σ [3] ∧ tYes σ2 H2 fun b H3 => if b = true then tCall (spJ K) [] E0 (tCons (tVar 3) tNil) σ2 H3 fun y H4 => ∃ acc, H4 d = some (.lst acc) ∧ acc.length < sizeLine ∧ Nx (upd H4 d (.lst (acc ++ [y]))) else Nx H3) := by
  refine lc_list (K := K) (a := l) (xs := us) (fun i G => Same H G ∧ G d = some (.lst (List.replicate i (V.bl true)))) ⟨Same.new nd, upd_same⟩ (fun i G _ q => SqL.of (q.1 _ _ hl)) ?_ ?_
  · rintro i x G hx ⟨sG, dG⟩
    have hi : i < us.length := (List.getElem?_eq_some_iff.mp hx).1
    refine ⟨h3 x, ?_⟩
    refine ⟨_, h4 x, ?_⟩
    refine go x (List.mem_of_getElem? hx) G _ sG fun G3 s3 => ⟨_, s3 _ _ dG, ?_, fun c o e => ?_, ?_⟩
    · rw [List.length_replicate, sizeLine_eq]
      omega
    · rw [upd_ne (ne_of_none e nd)]
      exact s3 _ _ (sG _ _ e)
    · rw [upd_same, List.replicate_succ']
  · exact fun G ⟨sG, dG⟩ => fin G sG dG
theorem all_true (n : Nat) : List.replicate n (V.bl true) = (List.replicate n true).map V.bl := by rw [List.map_replicate]
theorem all_id (n : Nat) : (List.replicate n true).all id = true := by
  rw [List.all_eq_true]
  exact fun x hx => List.eq_of_mem_replicate hx
theorem okv_judged {G : Hp} {x : V} {Q2 : VK} {E : XK} (h : OkV G x) (q : ∀ G3, Same G G3 → Q2 (.bl true) G3) : spJ K [x] G Q2 E := by
  obtain ⟨e, r, dp, g, ml, sz⟩ := h
  exact .inl ⟨x, e, rfl, r, D.Deep.le dp (by decide), g, ml, by omega, q⟩
theorem one_fine : Fine 2 100 (.tup [.str "list", .tup [.int 1]]) :=
  Fine.le (Fine.tup (n := 1) (by simp) (.cons (Fine.str (s := 6) _ (by decide +kernel) (by decide +kernel) (by decide +kernel)) (.cons (Fine.tup (n := 0) (by simp) (.cons (Fine.small (by decide) (by decide)) (.nil (s := 0)))) (.nil (s := 0))))) (by omega) (by omega)
theorem borders_all {G : Hp} {σ : L2.St} {Q : VK} (h3 : ∀ x : V, wipe ((wipe σ [3]).set 3 (some x)) [3] = wipe σ [3]) (h4 : ∀ x : V, ((wipe σ [3]).set 3 (some x))[3]? = some (some x))
    (fin : ∀ D n G2, Same G G2 → G2 D = some (.lst (List.replicate n (.bl true))) → Q (.ref D) G2) : 
    tLc (iList K (tCall spBorders [] E0 (tCons (tTup (tCons (tC (V.str "list")) (tCons (tTup (tCons (tC (V.int 1)) tNil)) tNil))) tNil))) (gName 3) tYes (tCall (spJ K) [] E0 (tCons (tVar 3) tNil)) [3] σ G Q := by
  refine ⟨(by show 1 ≤ sizeLine; decide), fun t1 n1 => ⟨(by show 2 ≤ sizeLine; decide), fun t2 n2 => ?_⟩⟩
  obtain ⟨f1, f2, f3, f4, f5⟩ := one_fine
  have s1 := Same.new (o := .tup [.str "list", .ref t1]) n2
  have s0 := (Same.new (o := .tup [.int 1]) n1).trans s1
  refine ⟨.ref t2, .tup [.str "list", .tup [.int 1]], rfl, Rep.tupI upd_same (.two Rep.strI (Rep.tupI (s1 _ _ upd_same) (.one Rep.intI))), f1, ⟨f3, D.Slim.thin _ f2⟩, f4, f5, fun l G2 s2 ok => ⟨l, rfl, ?_, fun d nd => ?_⟩⟩
  · obtain ⟨us, hl, _⟩ := ok
    exact ⟨us, SqL.of hl⟩
  · obtain ⟨us, hl, n, al⟩ := ok
    exact lcJ hl nd (by omega) h3 h4 (fun x hx G3 Q2 s3 q => okv_judged ((al x hx).same s3) q) fun G3 s3 hd => fin d _ G3 ((s0.trans s2).trans s3) hd
theorem pl_head (p : Pl) : ∃ z r, p.d = .tup (.str z :: r) := by
  cases p <;> simp only [Pl.d] <;> exact ⟨_, _, rfl⟩
theorem last_all {G : Hp} {σ : L2.St} {Q : VK} {v : V} {pl : Pl} (hv : σ[1]? = some (some v)) (ok : pl.Ok 5) (rp : Rep G v pl.d) (h3 : ∀ x : V, wipe ((wipe σ [3]).set 3 (some x)) [3] = wipe σ [3]) (h4 : ∀ x : V, ((wipe σ [3]).set 3 (some x))[3]? = some (some x))
    (fin : ∀ D n G2, Same G G2 → G2 D = some (.lst (List.replicate n (.bl true))) → Q (.ref D) G2) :
    tLc (iList K (tLst (tCons (tCB (fun xs H Q => ∃ p ys, xs = [.ref p] ∧ (SqL K H p ys ∨ SqT K H p ys) ∧ ∀ l, H l = none → Q (.ref l) (upd H l (.lst ys))) (tCons (tVar 1) tNil))
      (tCons (tLst (tCons (tVar 1) tNil)) (tCons (tOp (rIxT K) (tVar 1) (tC (V.int 0))) (tCons (tC V.non) (tCons (tC (V.int 7)) (tCons tDNewK (tCons (tTup tNil) (tCons (tTup (tCons (tC (V.str "list")) tNil)) (tCons (tVar 1) tNil)))))))))))
      (gName 3) tYes (tCall (spJ K) [] E0 (tCons (tVar 3) tNil)) [3] σ G Q := by
  obtain ⟨pd, ps, pl0, pm, pz, pp⟩ := made_plan ok
  obtain ⟨z, r, ep⟩ := pl_head pl
  rw [ep] at pd ps pl0 pm pz pp rp
  obtain ⟨a, us, rfl, hA, rl⟩ := rp.tupE
  have dl : DeepL 17 (.str z :: r) := by simp only [Lb.D.Deep] at pd; exact pd
  have ml : MildL (.str z :: r) := by simp only [Lb.D.Mild] at pm; exact pm
  have sl : sizeL (.str z :: r) ≤ 94300 := by simp only [Lb.D.size] at pz; omega
  have lay : LayL (.str z :: r) := by simp only [Lb.D.py, PyData.canLay0] at pl0; exact pl0
  obtain ⟨x0, h0, r0⟩ := rl.at_ (i := 0) (d := .str z) rfl
  have e0 : x0 = .str z := by simpa only [Rep] using r0
  subst e0
  refine ⟨_, hv, a, us, rfl, .inr (SqT.of hA), fun l1 m1 => ⟨_, hv, (by show 1 ≤ sizeLine; decide), fun l2 m2 => ?_⟩⟩
  have s1 := Same.new (o := .lst us) m1
  have s2 := Same.new (o := .lst [.ref a]) m2
  have hA2 := s2 _ _ (s1 _ _ hA)
  refine ⟨_, hv, a, us, 0, .str z, rfl, rfl, SqT.of hA2, at_of (j := 0) (by have := (List.getElem?_eq_some_iff.mp h0).1; omega) h0, ?_⟩
  refine fun q nq => ?_
  have s3 : Same (upd (upd G l1 (.lst us)) l2 (.lst [.ref a])) (upd (upd (upd G l1 (.lst us)) l2 (.lst [.ref a])) q (.dK [])) := Same.new nq
  refine ⟨(by show 0 ≤ sizeLine; decide), fun t1 n1 => ⟨(by show 1 ≤ sizeLine; decide), fun t2 n2 => ⟨_, hv, (by show 9 ≤ sizeLine; decide), fun L nL => ⟨L, rfl, ⟨_, SqL.of upd_same⟩, fun dd nD => ?_⟩⟩⟩⟩
  have s4 := Same.new (o := .tup []) n1
  have s5 := Same.new (o := .tup [.str "list"]) n2
  have s6 := Same.new (o := .lst [.ref l1, .ref l2, .str z, .non, .int 7, .ref q, .ref t1, .ref t2, .ref a]) nL
  have sA := ((((s1.trans s2).trans s3).trans s4).trans s5).trans s6
  have f1 := (((((s2.trans s3).trans s4).trans s5).trans s6) _ _ (upd_same (a := l1) (o := .lst us)))
  have f2 := ((((s3.trans s4).trans s5).trans s6) _ _ (upd_same (a := l2) (o := .lst [.ref a])))
  have f3 := (((s4.trans s5).trans s6) _ _ (upd_same (a := q) (o := .dK [])))
  have f4 := ((s5.trans s6) _ _ (upd_same (a := t1) (o := .tup [])))
  have f5 := (s6 _ _ (upd_same (a := t2) (o := .tup [.str "list"])))
  have zf : Fine 0 94300 (.str z) := ⟨by simp only [Lb.D.Deep], by simp only [D.Slim], by
    simp only [LayL, pyL, PyData.canLayAll0, Bool.and_eq_true] at lay
    exact lay.1, by
    simp only [MildL] at ml
    exact ml.1, by
    simp only [sizeL] at sl
    omega⟩
  have tf : Fine 1 20 (.tup [.str "list"]) := Fine.le (Fine.tup (n := 0) (by simp) (.cons (Fine.str (s := 6) _ (by decide +kernel) (by decide +kernel) (by decide +kernel)) (.nil (s := 0)))) (by omega) (by omega)
  have ef : Fine 1 20 (.tup []) := Fine.le (Fine.tup (n := 0) (s := 0) (by simp) .nil) (by omega) (by omega)
  have good : ∀ {n s : Nat} {d : D} {x : V} {G3 : Hp} {Q2 : VK}, Fine n s d → n ≤ 30 → s ≤ 95000 → Rep G3 x d → (∀ G4, Same G3 G4 → Q2 (.bl true) G4) → spJ K [x] G3 Q2 E0 := fun f hn hs rx qq =>
    .inl ⟨_, _, rfl, rx, D.Deep.le f.1 hn, ⟨f.2.2.1, D.Slim.thin _ f.2.1⟩, f.2.2.2.1, Nat.le_trans f.2.2.2.2 hs, qq⟩
  have pf : Fine 18 94300 (.tup (.str z :: r)) := ⟨pd, ps, pl0, pm, pz⟩
  refine lcJ upd_same nD (by show 9 ≤ 1000; decide) h3 h4 (fun x hx G3 Q2 s7 qq => ?_) fun G3 s7 hD => fin dd _ G3 (sA.trans s7) hD
  simp only [List.mem_cons, List.mem_nil_iff, or_false] at hx
  rcases hx with rfl | rfl | rfl | rfl | rfl | rfl | rfl | rfl | rfl
  · exact .inr (.inl ⟨l1, us, _, rfl, s7 _ _ f1, RepL.keepSame (sA.trans s7) rl, dl.le (by decide), ml, by omega, qq⟩)
  · exact .inr (.inl ⟨l2, _, [.tup (.str z :: r)], rfl, s7 _ _ f2, .one (rp.same (sA.trans s7)), by simp only [DeepL, and_true]; exact D.Deep.le pd (by decide), by simp only [MildL, and_true]; exact pm, by simp only [sizeL]; omega, qq⟩)
  · exact good zf (by decide) (by decide) Rep.strI qq
  · exact good (d := .non) (n := 0) (s := 1) ⟨by simp only [Lb.D.Deep], by simp only [D.Slim], rfl, by simp only [Lb.D.Mild], by simp only [Lb.D.size]; omega⟩ (by decide) (by decide) (by simp only [Rep]) qq
  · exact good (d := .int 7) (Fine.small (n := 0) (by decide) (by decide)) (by decide) (by decide) Rep.intI qq
  · exact .inr (.inr ⟨q, rfl, s7 _ _ f3, qq⟩)
  · exact good ef (by decide) (by decide) (Rep.tupI (s7 _ _ f4) .nil) qq
  · exact good tf (by decide) (by decide) (Rep.tupI (s7 _ _ f5) (.one Rep.strI)) qq
  · exact good pf (by decide) (by decide) (rp.same (sA.trans s7)) qq
theorem ok_right {f : Addr} {fd : FuncData} {k : Nat} (F : Fun K "_law_right" "_law_right" sRight f fd) (B : Blt mg) (bl : mg "list" = none) (hk : 63 ≤ k)
    (DM : GD P w K mg base CX0 "_law_planned" ["_law_pot_here"] 18 spPlanned) (DS : GD P w K mg base CX0 "_law_spoilt" ["_law_pot_here", "_law_thing"] 22 (spSpoilt 20)) (DB : GD P w K mg base CX0 "_law_borders" ["_law_one"] 1 spBorders)
    (DJ : GG P w K mg base "_law_judged" ["_law_thing"] k (spJ K)) (DP : GD P w K mg base CX0 "_law_reads_plan" ["_law_thing"] 63 (spReadsP 30)) : FnG P w K mg base (k + 1) f fd ["_law_pot_here"] spRight := by
  refine okG F scRight (fun vs H Q E h => ?_) (fun cdv A outer s H vs Q E gd hr h => ?_)
  · obtain ⟨p, rfl, _⟩ := h
    rfl
  · obtain ⟨p, rfl, hp, fin⟩ := h
    have hr18 := hr.mono (show 18 ≤ k by omega)
    have hr22 := hr.mono (show 22 ≤ k by omega)
    have hr1 := hr.mono (show 1 ≤ k by omega)
    have hr63 := hr.mono hk
    refine ⟨_, pss_cons (ps_set (i := 1) scRight.nd rfl (.inl rfl) (pe_gd DM hr18 rfl pass0 (pa_cons (pv 0) pa_nil)))
      (pss_cons (ps_if (PW.pt (pw_or (pt_not (pt_val (pe_gg (E := E0) DJ gd hr rfl (pa_cons (pv 1) pa_nil)))) (pw_or1 (pt_not (pt_val (pe_gd DP hr63 rfl pass0 (pa_cons (pv 1) pa_nil))))))) (pss_one (ps_ret pe_bl)) pss_nil)
      (pss_cons (ps_for PassesOwn.never rfl (pi_range1 rfl B.range (pa_cons pe_int pa_nil)) (pg_name (i := 2) scRight.nd rfl (.inl rfl))
        (pss_one (ps_if (pt_not (pt_val (pe_gg (E := E0) DJ gd hr rfl (pa_cons (pe_gd DS hr22 rfl pass0 (pa_cons (pv 0) (pa_cons (pv 1) pa_nil))) pa_nil)))) (pss_one (ps_ret pe_bl)) pss_nil)))
      (pss_cons (ps_if (pt_not (pt_val (pe_callB (cr_all rfl) (by rfl) B.all boot_all (pa_cons
          (pe_lc (own := [("_law_one", 3)]) (g := gName 3) (tt := tYes) (te := tCall (spJ K) [] E0 (tCons (tVar 3) tNil)) rfl scRight.nd (pi_list (pe_gd DB hr1 rfl pass0 (pa_cons (pe_tup (pa_cons pe_str (pa_cons (pe_tup (pa_cons pe_int pa_nil)) pa_nil))) pa_nil))) (blkOk_by (N := nRight) (sc := defScope sRight) (by decide +kernel)) (fun _ _ _ _ _ => pg_name (i := 3) scRight.nd rfl (Or.inl rfl)) (fun _ _ _ _ _ => pts_nil)
            (fun _ _ _ _ _ => pe_gg (E := E0) DJ gd hr rfl (pa_cons (pv 3) pa_nil))) pa_nil)))) (pss_one (ps_ret pe_bl)) pss_nil)
      (pss_one (ps_ret (pe_callB (cr_all rfl) (by rfl) B.all boot_all (pa_cons
          (pe_lc (own := [("_law_one", 3)]) (g := gName 3) (tt := tYes) (te := tCall (spJ K) [] E0 (tCons (tVar 3) tNil)) rfl scRight.nd (pi_list (pe_lst (pa_cons (pe_callTy call_list_of (by rfl) bl (by decide +kernel) (pa_cons (pv 1) pa_nil)) (pa_cons (pe_lst (pa_cons (pv 1) pa_nil)) (pa_cons (pe_ix ix_tup (pv 1) pe_int (fun _ _ => rfl)) (pa_cons pe_non (pa_cons pe_int (pa_cons pe_dnewK (pa_cons (pe_tup pa_nil) (pa_cons (pe_tup (pa_cons pe_str pa_nil)) (pa_cons (pv 1) pa_nil))))))))))) (blkOk_by (N := nRight) (sc := defScope sRight) (by decide +kernel)) (fun _ _ _ _ _ => pg_name (i := 3) scRight.nd rfl (Or.inl rfl)) (fun _ _ _ _ _ => pts_nil)
            (fun _ _ _ _ _ => pe_gg (E := E0) DJ gd hr rfl (pa_cons (pv 3) pa_nil))) pa_nil))))))), ?_⟩
    refine ⟨_, rfl, p, rfl, hp, fun v H1 p1 b1 ⟨pl, ok, rp⟩ => ?_⟩
    obtain ⟨pd, ps, pl0, pm, pz, pp⟩ := made_plan ok
    have ps' : K82.D.Slim pl.d := ps
    have jd : ∀ {G : Hp} {Q : VK} {E : XK}, Rep G v pl.d → (∀ G', Same G G' → Q (.bl true) G') → spJ K [v] G Q E := fun rg q => .inl ⟨v, pl.d, rfl, rg, D.Deep.le pd (by decide), ⟨pl0, D.Slim.thin _ ps⟩, pm, by omega, q⟩
    refine ⟨_, rfl, jd rp fun G2 s2 => ?_⟩
    refine ⟨_, rfl, iteF ⟨_, rfl, v, pl.d, rfl, rp.same s2, D.Deep.le pd (by decide), ⟨pl0, D.Slim.thin _ ps⟩, by omega, fun G3 s3 => ⟨planN 30 pl.d, rfl, ?_⟩⟩⟩
    rw [pp]
    refine iteF ?_
    have s13 := s2.trans s3
    refine ⟨_, rfl, by decide, by decide, for_range (lo := 0) (n := (12 : Int).toNat) (fun i σ G => ∃ a b : Option V, σ = [some (.ref p), some v, a, b] ∧ But p p G3 G ∧ Pot G p) ⟨_, _, rfl, But.refl, Pot.same s13 p1⟩ ?_ ?_⟩
    · rintro i σ G hi ⟨a, b, rfl, bG, pG⟩
      have kG := Pot.keeps (Pot.same s13 p1) bG
      refine ⟨_, rfl, _, rfl, p, v, pl.d, rfl, pG, (rp.same s13).keep' kG, D.Deep.le pd (by decide), pl0, ps, pm, fun u G4 d' p4 b4 r4 d4 z4 g4 m4 => ?_⟩
      refine .inl ⟨u, d', rfl, r4, D.Deep.le d4 (by decide), g4, m4, by omega, fun G5 s5 => ⟨_, rfl, iteF ?_⟩⟩
      exact ⟨_, _, rfl, (bG.trans b4).trans (But.of s5), Pot.same s5 p4⟩
    · rintro σ G ⟨a, b, rfl, bG, pG⟩
      have kG := Pot.keeps (Pot.same s13 p1) bG
      have rG := (rp.same s13).keep' kG
      have b2 : But p p H G := (b1.trans (But.of s13)).trans bG
      clear jd
      dsimp only [tSeq, tIfS, tNot, tB, tCB, tCons]
      show tLc _ _ _ _ _ _ _ _
      refine borders_all (K := K) (σ := [some (.ref p), some v, a, b]) (fun _ => rfl) (fun _ => rfl) fun D n G2 s2 hD => ?_
      refine ⟨D, List.replicate n true, rfl, SqL.of (by rw [hD, all_true]), _, rfl, ?_⟩
      rw [all_id]
      refine iteF ?_
      dsimp only [tNext, tRet, tCB, tCons]
      show tLc _ _ _ _ _ _ _ _
      refine last_all (K := K) (σ := [some (.ref p), some v, a, b]) rfl ok (rG.same s2) (fun _ => rfl) (fun _ => rfl) fun D2 n2 G4 s4 hD2 => ?_
      refine ⟨D2, List.replicate n2 true, rfl, SqL.of (by rw [hD2, all_true]), ?_⟩
      rw [all_id]
      exact fin G4 (b2.trans (But.of (s2.trans s4)))
end
end K82


set_option Elab.async false
set_option linter.all false
set_option maxRecDepth 100000
set_option maxHeartbeats 4000000
/-! The hook with facts beside those of defs and free names. -/
namespace Hm
open PySem PySem.Spec PyProof.Rows L2
def faX (fn : List He.FnD) (free : List Str) (ex : List He.Fa) : List He.Fa := faOf fn free ++ ex
theorem faOf_length (fn : List He.FnD) (free : List Str) : (faOf fn free).length = 2 * fn.length + free.length := by
  unfold faOf
  simp only [List.length_append, List.length_map]
  omega
section
variable {fn : List He.FnD} {free : List Str} {ex : List He.Fa} {K : PySem.W.Frag} {h : Heap} {mg : Str → Option Value}
theorem faX_fact (c : He.SaysE (faX fn free ex) fn K) (i : Nat) {f : He.Fa} (e : (faOf fn free)[i]? = some f) : f.ok K = true :=
  c.fact i (by
    have l := (List.getElem?_eq_some_iff.mp e).1
    unfold faX
    rw [List.getElem?_append_left l, e])
theorem faX_ext (c : He.SaysE (faX fn free ex) fn K) (i : Nat) {f : He.Fa} (e : ex[i]? = some f) : f.ok K = true :=
  c.fact ((faOf fn free).length + i) (by
    unfold faX
    rw [List.getElem?_append_right (by omega), Nat.add_sub_cancel_left, e])
theorem def_atX (c : He.SaysE (faX fn free ex) fn K) (X : K.In h) (G : h.Ns mainGlobals mg) (i : Nat) {d : He.FnD} (e : fn[i]? = some d) : ∃ fd : FuncData, mg d.name = some (.ref (He.ga K d.name)) ∧ PySem.W.keepIn K (.ref (He.ga K d.name)) = true := by
  have l : i < fn.length := (List.getElem?_eq_some_iff.mp e).1
  have f1 : (faOf fn free)[i]? = some (.glo d.name) := by
    unfold faOf
    rw [List.append_assoc, List.getElem?_append_left (by simpa using l), List.getElem?_map, e]
    rfl
  have f2 : (faOf fn free)[fn.length + i]? = some (.keep d.name) := by
    unfold faOf
    rw [List.append_assoc, List.getElem?_append_right (by simp), List.getElem?_append_left (by simp; omega)]
    simp [e]
  exact ⟨default, He.glo_ok X G (faX_fact c i f1), He.keep_ok (faX_fact c (fn.length + i) f2)⟩
theorem free_atX (c : He.SaysE (faX fn free ex) fn K) (X : K.In h) (G : h.Ns mainGlobals mg) {x : Str} (e : x ∈ free) : mg x = none := by
  have m : He.Fa.free x ∈ faOf fn free := by
    unfold faOf
    exact List.mem_append_right _ (List.mem_map.mpr ⟨x, e, rfl⟩)
  obtain ⟨i, hi⟩ := List.getElem?_of_mem m
  exact He.free_ok X G (faX_fact c i hi)
theorem int_atX (c : He.SaysE (faX fn free ex) fn K) (X : K.In h) (G : h.Ns mainGlobals mg) (i : Nat) {x : Str} {n : Int} (e : ex[i]? = some (.int x n)) : ∃ t, mg x = some (.int n t) := He.int_ok X G (faX_ext c i e)
end
end Hm


set_option Elab.async false
set_option linter.all false
set_option maxRecDepth 100000
set_option maxHeartbeats 4000000
namespace K82
open PySem PySem.Spec PyProof.Rows L2 Lb Hm
/-- the defs of the top, by their places -/
def places : List Nat := [1, 7, 8, 9, 10, 11, 12, 13, 15, 17, 18, 19, 20, 21, 22, 23, 24, 25, 26, 27, 28, 29, 30, 31, 32, 33, 34, 35, 36, 37, 38, 39]
def fns : List He.FnD := places.map (fnd PySem.Challenge.pw_giftstreams_k82_what_is_a_plan.main.body)
def frees : List Str := ["len", "divmod", "range", "isinstance", "max", "min", "sum", "tuple", "repr", "all", "int", "bool", "str", "list", "zip", "enumerate"]
def exts : List He.Fa := [.int "LONGEST_WORD" 8]
structure Defs2 (K : PySem.W.Frag) (mg : Str → Option Value) : Prop where
  whole1 : ∃ f fd, Df K mg "_law_whole_one" sWhole1 ["_law_thing"] f fd
  readsR : ∃ f fd, Df K mg "_law_reads_rule" sReadsR ["_law_thing"] f fd
  readsL : ∃ f fd, Df K mg "_law_reads_look" sReadsL ["_law_one"] f fd
  readsT : ∃ f fd, Df K mg "_law_reads_test" sReadsT ["_law_thing"] f fd
  readsX : ∃ f fd, Df K mg "_law_reads_part" sReadsX pReadsX f fd
  sorts : ∃ f fd, Df K mg "_law_sorts" sSorts ["_law_word"] f fd
  readsP : ∃ f fd, Df K mg "_law_reads_plan" sReadsP ["_law_thing"] f fd
  spoilt : ∃ f fd, Df K mg "_law_spoilt" sSpoilt ["_law_pot_here", "_law_thing"] f fd
  judged : ∃ f fd, Df K mg "_law_judged" sJudged ["_law_thing"] f fd
  borders : ∃ f fd, Df K mg "_law_borders" sBorders ["_law_one"] f fd
  right : ∃ f fd, Df K mg "_law_right" sRight ["_law_pot_here"] f fd
section
variable {P : Program} {w : World} {K : PySem.W.Frag} {mg : Str → Option Value} {base : Heap} {f : Addr} {fd : FuncData}
theorem Df.gg {x : Str} {st : Stmt} {ps : List Str} {f : Addr} {fd : FuncData} {k : Nat} {sp : Sp} (D : Df K mg x st ps f fd) (h : FnG P w K mg base k f fd ps sp) : GG P w K mg base x ps k sp := ⟨f, fd, h, D.mgf, D.fn.kp, D.bd⟩
theorem law_of (B : Blt mg) (bl : mg "list" = none) (be : mg "enumerate" = none) (M : Makers K mg) (D : Defs2 K mg) (DI : GD P w K mg base CX0 "is_plan" ["thing"] 6 (spIsPlan K 30)) (F : Fun K "law" "law" sLaw f fd) : FnG P w K mg base 66 f fd ["_law_script"] (spLaw K) := by
  have MM : Made P w K mg base := made_of B M
  obtain ⟨_, _, d0⟩ := D.whole1
  obtain ⟨_, _, d1⟩ := D.readsR
  obtain ⟨_, _, d2⟩ := D.readsL
  obtain ⟨_, _, d3⟩ := D.readsT
  obtain ⟨_, _, d4⟩ := D.readsX
  obtain ⟨_, _, d5⟩ := D.sorts
  obtain ⟨_, _, d6⟩ := D.readsP
  obtain ⟨_, _, d7⟩ := D.spoilt
  obtain ⟨_, _, d8⟩ := D.judged
  obtain ⟨_, _, d9⟩ := D.borders
  obtain ⟨_, _, d10⟩ := D.right
  have g0 : GD P w K mg base CX0 "_law_whole_one" ["_law_thing"] 1 spWhole1 := d0.gd (ok_whole1 d0.fn B)
  have g1 : GD P w K mg base CX0 "_law_reads_rule" ["_law_thing"] 2 spReadsR := d1.gd (ok_readsR d1.fn B g0)
  have g3 := gd_reads B g0 g1 d2 d3
  have g5 : GD P w K mg base CX0 "_law_sorts" ["_law_word"] 1 spSorts := d5.gd (ok_sorts d5.fn B)
  have g6 := gd_plan B be g0 g1 g3 g5 d4 d6 30 (by decide)
  have g6o : GD P w K mg base CX0 "_law_reads_plan" ["_law_thing"] 63 (spOther K) := d6.gd (ok_readsPo d6.fn B be 0 (k := 62) (by decide) g5 (d4.no fun _ _ _ _ z => z))
  have g7 : GD P w K mg base CX0 "_law_spoilt" ["_law_pot_here", "_law_thing"] 22 (spSpoilt 20) := gd_spoilt B MM.digit d7 20
  have g8 : GG P w K mg base "_law_judged" ["_law_thing"] 64 (spJ K) := d8.gg (FnG_or (ok_judged d8.fn B 30 (by decide) (k := 63) (by decide) (by decide) DI g6) (FnG_or (ok_judgedL d8.fn B 30 (by decide) (k := 63) (by decide) DI g6o) (ok_judgedE d8.fn B 30 (by decide) (k := 63) (by decide) DI g6o)))
  have g9 : GD P w K mg base CX0 "_law_borders" ["_law_one"] 1 spBorders := d9.gd (ok_borders d9.fn)
  have g10 : GG P w K mg base "_law_right" ["_law_pot_here"] 65 spRight := d10.gg (ok_right d10.fn B bl (k := 64) (by decide) MM.planned g7 g9 g8 g6)
  exact ok_law F B (k := 65) (by decide) MM.pot g10
end
section
variable {fn : List He.FnD} {free : List Str} {ex : List He.Fa} {K : PySem.W.Frag} {h : Heap} {mg : Str → Option Value}
theorem df_at (c : He.SaysE (faX fn free ex) fn K) (X : K.In h) (G : h.Ns mainGlobals mg) (i : Nat) {x : Str} {st : Stmt} {ps : List Str} (e : fn[i]? = some ⟨(x, none), x, x, defArgs st, defBody st, defScope st⟩)
    (hb : ∀ (kV doc pm : Value) (an : Option Addr) (cdv ct : Value) (us : List Value), us.length = ps.length → bindArgs (PySem.W.fnOf x x (defArgs st) (defBody st) (defScope st) .none kV doc pm an cdv ct) ⟨us, []⟩ = pure (ps.zip us)) : ∃ f fd, Df K mg x st ps f fd := by
  obtain ⟨oc, od, osl, kV, doc, pm, an, cdv, ct, lk, hcd⟩ := c.def_ i e
  obtain ⟨_, hm, hk⟩ := def_atX c X G i e
  have F : Fun K x x st (He.ga K x) (PySem.W.fnOf x x (defArgs st) (defBody st) (defScope st) .none kV doc pm an cdv ct) := ⟨⟨oc, od, kV, doc, pm, an, cdv, ct, osl, rfl, lk, hcd⟩, hk⟩
  exact ⟨_, _, F, hm, F.binds hb⟩
theorem makers_of (c : He.SaysE (faX fns frees exts) fns K) (X : K.In h) (G : h.Ns mainGlobals mg) : Makers K mg :=
  ⟨df_at c X G 9 (x := "_law_pot") (st := sPot) (ps := (["_law_script", "_law_k"] : List Str)) (by rfl) fun _ _ _ _ _ _ us hl => match us, hl with | [_, _], _ => rfl,
    df_at c X G 10 (x := "_law_digit") (st := sDigit) (ps := (["_law_pot_here", "_law_many"] : List Str)) (by rfl) fun _ _ _ _ _ _ us hl => match us, hl with | [_, _], _ => rfl,
    df_at c X G 11 (x := "_law_whole") (st := sWhole) (ps := (nPR : List Str)) (by rfl) fun _ _ _ _ _ _ us hl => match us, hl with | [_, _], _ => rfl,
    df_at c X G 12 (x := "_law_change") (st := sChange) (ps := (nPR : List Str)) (by rfl) fun _ _ _ _ _ _ us hl => match us, hl with | [_, _], _ => rfl,
    df_at c X G 13 (x := "_law_rule") (st := sRule) (ps := (nPR : List Str)) (by rfl) fun _ _ _ _ _ _ us hl => match us, hl with | [_, _], _ => rfl,
    df_at c X G 14 (x := "_law_look") (st := sLook) (ps := (nPRD : List Str)) (by rfl) fun _ _ _ _ _ _ us hl => match us, hl with | [_, _, _], _ => rfl,
    df_at c X G 15 (x := "_law_test") (st := sTest) (ps := (nPRD : List Str)) (by rfl) fun _ _ _ _ _ _ us hl => match us, hl with | [_, _, _], _ => rfl,
    df_at c X G 16 (x := "_law_leaf") (st := sLeaf) (ps := (nPR : List Str)) (by rfl) fun _ _ _ _ _ _ us hl => match us, hl with | [_, _], _ => rfl,
    df_at c X G 17 (x := "_law_upon") (st := sUpon) (ps := (pUpon : List Str)) (by rfl) fun _ _ _ _ _ _ us hl => match us, hl with | [_, _, _, _], _ => rfl,
    df_at c X G 18 (x := "_law_grove") (st := sGrove) (ps := (nPRD : List Str)) (by rfl) fun _ _ _ _ _ _ us hl => match us, hl with | [_, _, _], _ => rfl,
    df_at c X G 19 (x := "_law_planned") (st := sPlanned) (ps := (["_law_pot_here"] : List Str)) (by rfl) fun _ _ _ _ _ _ us hl => match us, hl with | [_], _ => rfl⟩
theorem defs2_of (c : He.SaysE (faX fns frees exts) fns K) (X : K.In h) (G : h.Ns mainGlobals mg) : Defs2 K mg :=
  ⟨df_at c X G 20 (x := "_law_whole_one") (st := sWhole1) (ps := (["_law_thing"] : List Str)) (by rfl) fun _ _ _ _ _ _ us hl => match us, hl with | [_], _ => rfl,
    df_at c X G 21 (x := "_law_reads_rule") (st := sReadsR) (ps := (["_law_thing"] : List Str)) (by rfl) fun _ _ _ _ _ _ us hl => match us, hl with | [_], _ => rfl,
    df_at c X G 22 (x := "_law_reads_look") (st := sReadsL) (ps := (["_law_one"] : List Str)) (by rfl) fun _ _ _ _ _ _ us hl => match us, hl with | [_], _ => rfl,
    df_at c X G 23 (x := "_law_reads_test") (st := sReadsT) (ps := (["_law_thing"] : List Str)) (by rfl) fun _ _ _ _ _ _ us hl => match us, hl with | [_], _ => rfl,
    df_at c X G 24 (x := "_law_reads_part") (st := sReadsX) (ps := (pReadsX : List Str)) (by rfl) fun _ _ _ _ _ _ us hl => match us, hl with | [_, _], _ => rfl,
    df_at c X G 25 (x := "_law_sorts") (st := sSorts) (ps := (["_law_word"] : List Str)) (by rfl) fun _ _ _ _ _ _ us hl => match us, hl with | [_], _ => rfl,
    df_at c X G 26 (x := "_law_reads_plan") (st := sReadsP) (ps := (["_law_thing"] : List Str)) (by rfl) fun _ _ _ _ _ _ us hl => match us, hl with | [_], _ => rfl,
    df_at c X G 27 (x := "_law_spoilt") (st := sSpoilt) (ps := (["_law_pot_here", "_law_thing"] : List Str)) (by rfl) fun _ _ _ _ _ _ us hl => match us, hl with | [_, _], _ => rfl,
    df_at c X G 28 (x := "_law_judged") (st := sJudged) (ps := (["_law_thing"] : List Str)) (by rfl) fun _ _ _ _ _ _ us hl => match us, hl with | [_], _ => rfl,
    df_at c X G 29 (x := "_law_borders") (st := sBorders) (ps := (["_law_one"] : List Str)) (by rfl) fun _ _ _ _ _ _ us hl => match us, hl with | [_], _ => rfl,
    df_at c X G 30 (x := "_law_right") (st := sRight) (ps := (["_law_pot_here"] : List Str)) (by rfl) fun _ _ _ _ _ _ us hl => match us, hl with | [_], _ => rfl⟩
theorem defsP_of (c : He.SaysE (faX fns frees exts) fns K) (X : K.In h) (G : h.Ns mainGlobals mg) : DefsP K mg :=
  ⟨df_at c X G 0 (x := "is_whole") (st := sIsWhole) (ps := (["thing"] : List Str)) (by rfl) fun _ _ _ _ _ _ us hl => match us, hl with | [_], _ => rfl,
    df_at c X G 1 (x := "fits") (st := sFits) (ps := (pFits : List Str)) (by rfl) fun _ _ _ _ _ _ us hl => match us, hl with | [_, _], _ => rfl,
    df_at c X G 2 (x := "is_word") (st := sIsWord) (ps := (["thing"] : List Str)) (by rfl) fun _ _ _ _ _ _ us hl => match us, hl with | [_], _ => rfl,
    df_at c X G 3 (x := "kinds_behind") (st := sBehind) (ps := (nBehind : List Str)) (by rfl) fun _ _ _ _ _ _ us hl => match us, hl with | [_, _], _ => rfl,
    df_at c X G 4 (x := "_things_within") (st := sThings) (ps := (pThings : List Str)) (by rfl) fun _ _ _ _ _ _ us hl => match us, hl with | [_, _], _ => rfl,
    df_at c X G 5 (x := "_things_in_part") (st := sPart) (ps := (pPart : List Str)) (by rfl) fun _ _ _ _ _ _ us hl => match us, hl with | [_, _], _ => rfl,
    df_at c X G 6 (x := "_is_between") (st := sBetween) (ps := (nBetween : List Str)) (by rfl) fun _ _ _ _ _ _ us hl => match us, hl with | [_, _, _], _ => rfl,
    df_at c X G 7 (x := "_is_a_rest") (st := sARest) (ps := (nARest : List Str)) (by rfl) fun _ _ _ _ _ _ us hl => match us, hl with | [_, _], _ => rfl,
    df_at c X G 8 (x := "is_plan") (st := sIsPlan) (ps := (["thing"] : List Str)) (by rfl) fun _ _ _ _ _ _ us hl => match us, hl with | [_], _ => rfl⟩
theorem law_at (c : He.SaysE (faX fns frees exts) fns K) (X : K.In h) (G : h.Ns mainGlobals mg) {fa : Addr} (hf : mg "law" = some (.ref fa)) : ∃ fd, Fun K "law" "law" sLaw fa fd := by
  obtain ⟨f, fd, d⟩ := df_at c X G 31 (x := "law") (st := sLaw) (ps := ["_law_script"]) (by rfl) fun _ _ _ _ _ _ us hl => match us, hl with | [_], _ => rfl
  have e := hf.symm.trans d.mgf
  cases e
  exact ⟨fd, d.fn⟩
theorem blt_of (c : He.SaysE (faX fns frees exts) fns K) (X : K.In h) (G : h.Ns mainGlobals mg) : Blt mg :=
  ⟨free_atX c X G (by simp [frees]), free_atX c X G (by simp [frees]), free_atX c X G (by simp [frees]), free_atX c X G (by simp [frees]), free_atX c X G (by simp [frees]), free_atX c X G (by simp [frees]), free_atX c X G (by simp [frees]), free_atX c X G (by simp [frees]), free_atX c X G (by simp [frees]), free_atX c X G (by simp [frees]), free_atX c X G (by simp [frees]), free_atX c X G (by simp [frees]), free_atX c X G (by simp [frees])⟩
end
end K82


set_option Elab.async false
set_option linter.all false
set_option maxRecDepth 100000
set_option maxHeartbeats 0
noncomputable section
namespace K82h
open PySem PySem.W PySem.Calls PyProof.Rows HandSHeadRun Hd
abbrev R : OpenRow := OpenLaw.row PySem.Challenge.rw_giftstreams_k82_what_is_a_plan
def cu : Cut := Hm.cutOf R.prog 6
def qv : Program := view R.prog [39]
def loose : List PySem.Str := R.prog.boundNames.filter fun x => x != "law"
abbrev facts : List He.Fa := Hm.faX K82.fns K82.frees K82.exts
abbrev hkT : Hook := Hm.hookT R.prog facts K82.fns
theorem runF (w : World) : CutEq R qv hkT (Hm.obT facts K82.fns) cu 3000 loose (w.withFollow "special-get-raises" false) := by
  intro os q1 q3
  kernel_rfl
theorem runT (w : World) : CutEq R qv hkT (Hm.obT facts K82.fns) cu 3000 loose (w.withFollow "special-get-raises" true) := by
  intro os q1 q3
  kernel_rfl
theorem runs (w : World) : CutEq R qv hkT (Hm.obT facts K82.fns) cu 3000 loose w := by
  rw [← World.withFollow_self w "special-get-raises"]
  cases w.params.followText "special-get-raises" with
  | false => exact runF w
  | true => exact runT w
end K82h

end

set_option Elab.async false
set_option linter.all false
set_option maxRecDepth 100000
set_option maxHeartbeats 0
namespace K82
open PySem PySem.Spec PyProof.Rows L2 Lb
/-- as walk_G, what is written is told by what stands behind the top -/
theorem walk_GE {l : PySem.W.OpenLaw} {n k : Nat} {q : Program} {loose : List Str} {XP : (Str → Option Value) → Heap → Prop} {YP : World → Heap → Prop} {d : DefRec} {x : Str} (most : l.most = some n) (small : n ≤ sizeLine) (nodef : d.params.defaults = []) (room : Room k callerA)
    (F : ∀ (w : World) (mg : Str → Option Value) (fa : Addr) (h : Heap), YP w h → h.Ns mainGlobals mg → mg d.name = some (.ref fa) → ∃ (K : PySem.W.Frag) (fd : FuncData) (sp : Sp), K.In h ∧ (∀ (s : Shared) (u : Value), BindsTo s fd ⟨[u], []⟩ [(x, u)]) ∧
        (∀ base : Heap, K.In base → base.Ns mainGlobals mg → FnG l.prog w K mg base k fa fd [x] sp) ∧ ∀ (H : Hp) (a : Addr) (ns : List Int), ns.length ≤ n → SqL K H a (ns.map V.int) → sp [.ref a] H (fun v _ => v = .bl true) fun _ _ _ => False) :
    PySem.W.WalkO q loose XP YP l.row.toRowW d [] (fun f vs => PySem.call f vs) := by
  refine Att.attach_call most nodef fun w s₀ s0 mg mb fa o pm cd doc a vs ns G Y _ _ _ named obj whole len none_yet => ?_
  obtain ⟨K, fd, sp, KX, bind, good, asked⟩ := F w mg fa _ Y G.T.g named
  obtain ⟨base, H, kin, nsp, only, sq, env, back⟩ := at_start (P := l.prog) (w := w) KX G.T.g G.T.b G.T.builtins G.T.nolimit none_yet obj whole (Nat.le_trans len small)
  refine codeAny_mono ((good base kin nsp).go callerA [] s0 H ⟨[.ref a], []⟩ [.ref a] [.ref a] _ _ rfl room env (bind s0 (.ref a)) (.cons rfl .nil) (asked H a ns len sq)) fun res s' h => ?_
  match res, h with
  | .error e, h => exact h.elim
  | .ok (.ret u), h =>
    obtain ⟨v, H', os, bare, un, ok', r, rfl⟩ := h
    obtain rfl : u = Value.bool true := r
    exact ⟨rfl, back s' H' un ok', os, bare⟩
theorem go_of {P : Program} {w : World} {K : PySem.W.Frag} {h : Heap} {mg : Str → Option Value} {fa : Addr} (X : K.In h) (G : h.Ns mainGlobals mg) (hf : mg "law" = some (.ref fa)) (T : Hm.Top P (Hm.faX fns frees exts) fns w K) :
    ∃ fd : FuncData, (∀ (s : Shared) (u : Value), BindsTo s fd ⟨[u], []⟩ [("_law_script", u)]) ∧ ∀ base : Heap, K.In base → base.Ns mainGlobals mg → FnG P w K mg base 66 fa fd ["_law_script"] (spLaw K) := by
  have c := T.says
  have B := blt_of c X G
  have bl : mg "list" = none := Hm.free_atX c X G (by simp [frees])
  have bz : mg "zip" = none := Hm.free_atX c X G (by simp [frees])
  have be : mg "enumerate" = none := Hm.free_atX c X G (by simp [frees])
  have lw : ∃ t, mg "LONGEST_WORD" = some (.int 8 t) := Hm.int_atX c X G 0 (x := "LONGEST_WORD") (n := 8) rfl
  have M := makers_of c X G
  have D2 := defs2_of c X G
  have DP := defsP_of c X G
  have TT : Tab P w K mg := tab_of X G T lw
  obtain ⟨fd, FL⟩ := law_at c X G hf
  have bb := FL.binds (ps := ["_law_script"]) fun _ _ _ _ _ _ us hl => match us, hl with | [_], _ => rfl
  refine ⟨fd, fun s u => ?_, fun base kin nsp => law_of B bl be M D2 (plan_of B bl bz TT DP 30) FL⟩
  obtain ⟨oc, od, kV, doc, pm, an, cdv, ct, osl, rfl, _⟩ := FL.ex
  exact .of_eq rfl
theorem walk82 {q : Program} {loose : List Str} {XP : (Str → Option Value) → Heap → Prop} {l : PySem.W.OpenLaw} {d : DefRec} (most : l.most = some 63) (nodef : d.params.defaults = []) (nm : d.name = "law") :
    PySem.W.WalkO q loose XP (Hm.hookT l.prog (Hm.faX fns frees exts) fns).says l.row.toRowW d [] (fun f vs => PySem.call f vs) := by
  refine walk_GE (n := 63) (k := 66) (x := "_law_script") most (by decide) nodef ⟨rfl, by decide, by decide⟩ fun w mg fa h Y G named => ?_
  obtain ⟨K, X, T⟩ := Y
  rw [nm] at named
  obtain ⟨fd, b, g⟩ := go_of X G named T
  exact ⟨K, fd, spLaw K, X, b, g, fun H a ns hl hS => ⟨a, ns, rfl, hS, hl, fun _ => rfl⟩⟩
end K82


set_option Elab.async false
set_option linter.all false
open PySem PySem.W PySem.Calls PyProof.Rows
set_option maxRecDepth 100000 in
set_option maxHeartbeats 0 in
theorem PySem.Challenge.cw_giftstreams_k82_what_is_a_plan_holds : PySem.Challenge.rw_giftstreams_k82_what_is_a_plan.Holds := by
  w_on; o_law
  refine Hd.holds_cut (rw_ := K82h.R) (q := K82h.qv) (loose := K82h.loose) (XP := XL K82h.qv []) (YP := K82h.hkT.says) (df := HandSHeadRun.topDef K82h.R.prog 39) (kws := []) ?top XL.keeps K82h.hkT.keeps
    (by kernel_rfl) (by kernel_rfl) (by kernel_rfl) (by rfl) (by first | assumption | decide +kernel) (by decide +kernel) ⟨rfl, rfl, rfl, rfl, rfl, by decide +kernel⟩ ?hw ?walk
  case top =>
    intro wd
    exact Hd.behind_cut (H := K82h.hkT) (ob := Hm.obT K82h.facts K82.fns) (c := K82h.cu) (M := 3000) (fun s => Hm.obT_eq s) (by kernel_rfl) (fun s => by kernel_rfl) (by kernel_rfl) (by rfl) (by kernel_rfl) (by kernel_rfl) (by decide +kernel) (by decide +kernel) (by decide +kernel) (fun _ => of_decide_eq_true (by kernel_rfl)) (K82h.runs wd)
  case hw => w_witness2
  case walk => exact K82.walk82 rfl (by kernel_rfl) (by kernel_rfl)

