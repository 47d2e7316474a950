import PyProof.Rows.All
import Wide.All
import OpenK.AllK
import Wide.FinOn
import Open.SpecLaws
import KE.OsGo
import HandS.ForSpec
import HandS.TryMany
import HandS.ForMost
import HandS.Walk
import HandS.TupLe
import HandS.Codes
import HandS.CallLocal
import HandS.Strs
import HandS.SetFor
import HandS.SortKw
import HandS.More
import HandS.SortInts
import KE.DataMinMax
import PySem.Challenge.RW_enoughasked_s01_answers
set_option Elab.async false
set_option linter.all false
set_option maxRecDepth 100000
set_option maxHeartbeats 4000000
/-! Parsing: what is asked, as a list of calls of the specification. -/
namespace Ea
open Su153 (Call Abs)
theorem whole_id (c : List (List Int)) : PySu153.whole c = c := by
  unfold PySu153.whole
  split <;> rfl
/-- how many numbers stand behind a call's number -/
def ar (p : Nat) : Nat := if p = 0 then 5 else if p = 1 then 2 else if p ≤ 14 then 1 else 0
theorem ite_or {α : Type} {c : Prop} [Decidable c] {x y : Option α} {z : α} (h : (if c then x else y) = some z) : (c ∧ x = some z) ∨ (¬ c ∧ y = some z) := by
  by_cases k : c
  · rw [if_pos k] at h
    exact .inl ⟨k, h⟩
  · rw [if_neg k] at h
    exact .inr ⟨k, h⟩
theorem shape_some {p : Int} {n k : Nat} (h : PySu153.shape p = some (n, k)) : k = 0 ∧ 0 ≤ p ∧ p ≤ 21 ∧ n = ar p.toNat := by
  unfold PySu153.shape at h
  iterate 22
    rcases ite_or h with ⟨e, h⟩ | ⟨_, h⟩
    · subst e
      cases h
      decide
  cases h
/-- calls: lists of numbers -/
theorem calls_flat : ∀ (f : Nat) (l : List Int) (raw : List (List (List Int))), PyFlat.calls PySu153.shape f l = some raw → ∃ cs : List (List Int), raw = cs.map (fun c => [c]) ∧ l = cs.flatten
  | f, [], raw, h => by
    have e : raw = [] := by
      cases f <;> (unfold PyFlat.calls at h; exact (Option.some.inj h).symm)
    exact ⟨[], by rw [e]; rfl, rfl⟩
  | 0, p :: r, raw, h => by unfold PyFlat.calls at h; cases h
  | f + 1, p :: r, raw, h => by
    unfold PyFlat.calls at h
    split at h
    · cases h
    · rename_i c t hc
      split at h
      · cases h
      · rename_i cs hcs
        cases h
        unfold PyFlat.call at hc
        dsimp only at hc
        split at hc
        · cases hc
        · rename_i n k hs
          obtain ⟨rfl, _⟩ := shape_some hs
          split at hc
          · cases hc
          · unfold PyFlat.rows at hc
            simp only [Option.some.injEq, Prod.mk.injEq] at hc
            obtain ⟨rfl, rfl⟩ := hc
            obtain ⟨cs', e1, e2⟩ := calls_flat f _ _ hcs
            refine ⟨(p :: r.take n) :: cs', by rw [e1]; rfl, ?_⟩
            rw [List.flatten_cons, ← e2]
            show p :: r = p :: (r.take n ++ r.drop n)
            rw [List.take_append_drop]
/-- a call as it is handed in -/
def enc : Call → List Int
  | .begin_ n c a t on => [0, n, c, a, t, on]
  | .write c v => [1, c, v]
  | .read c => [2, c]
  | .deliver i => [3, i]
  | .lose i => [4, i]
  | .again i => [5, i]
  | .halt_ m => [6, m]
  | .wake m => [7, m]
  | .quit c => [8, c]
  | .resend c => [9, c]
  | .alone c => [10, c]
  | .message i => [11, i]
  | .machine m => [12, m]
  | .customer c => [13, c]
  | .op k => [14, k]
  | .kept => [15]
  | .why => [16]
  | .order => [17]
  | .since => [18]
  | .now => [19]
  | .safe => [20]
  | .state => [21]
theorem nat_of {a : Int} {b : Nat} (h : Su153Neutral.natural a b = true) : ∃ n : Nat, a = n ∧ n < 2 ^ b := by
  unfold Su153Neutral.natural at h
  rw [Bool.and_eq_true, decide_eq_true_eq, decide_eq_true_eq] at h
  refine ⟨a.toNat, by omega, ?_⟩
  have h2 := h.2
  have e : ((2 ^ b : Nat) : Int) = (2 : Int) ^ b := by simp
  omega
/-- the call's numbers are below 2 ^ 32 -/
def small (x : Call) : Prop := ∀ i ∈ (enc x).drop 1, 0 ≤ i ∧ i < 4294967296
theorem asked_enc {c : List Int} (h : Su153Neutral.asked1 c = true) : ∃ x : Call, c = enc x ∧ Su153Neutral.callOf c = some x ∧ small x := by
  unfold Su153Neutral.asked1 at h
  split at h
  · rename_i p a b c d e
    simp only [Bool.and_eq_true] at h
    obtain ⟨hp, ha, hb, hc, hd, he⟩ := h
    obtain ⟨a, rfl, ha⟩ := nat_of ha
    obtain ⟨b, rfl, hb⟩ := nat_of hb
    obtain ⟨c, rfl, hc⟩ := nat_of hc
    obtain ⟨d, rfl, hd⟩ := nat_of hd
    obtain ⟨e, rfl, he⟩ := nat_of he
    have e1 : p = 0 := by simpa using hp
    subst e1
    refine ⟨.begin_ a b c d e, rfl, ?_, ?_⟩
    · simp [Su153Neutral.callOf]
    · intro i hi
      simp [enc] at hi
      omega
  · rename_i p a b
    simp only [Bool.and_eq_true] at h
    obtain ⟨hp, ha, hb⟩ := h
    obtain ⟨a, rfl, ha⟩ := nat_of ha
    obtain ⟨b, rfl, hb⟩ := nat_of hb
    have e1 : p = 1 := by simpa using hp
    subst e1
    refine ⟨.write a b, rfl, ?_, ?_⟩
    · simp [Su153Neutral.callOf]
    · intro i hi
      simp [enc] at hi
      omega
  · rename_i p a
    simp only [Bool.and_eq_true] at h
    obtain ⟨hp, ha⟩ := h
    obtain ⟨a, rfl, ha⟩ := nat_of ha
    have e1 : p = 2 ∨ p = 3 ∨ p = 4 ∨ p = 5 ∨ p = 6 ∨ p = 7 ∨ p = 8 ∨ p = 9 ∨ p = 10 ∨ p = 11 ∨ p = 12 ∨ p = 13 ∨ p = 14 := by simpa using hp
    rcases e1 with rfl | rfl | rfl | rfl | rfl | rfl | rfl | rfl | rfl | rfl | rfl | rfl | rfl
    · exact ⟨.read a, rfl, by simp [Su153Neutral.callOf], by intro i hi; simp [enc] at hi; omega⟩
    · exact ⟨.deliver a, rfl, by simp [Su153Neutral.callOf], by intro i hi; simp [enc] at hi; omega⟩
    · exact ⟨.lose a, rfl, by simp [Su153Neutral.callOf], by intro i hi; simp [enc] at hi; omega⟩
    · exact ⟨.again a, rfl, by simp [Su153Neutral.callOf], by intro i hi; simp [enc] at hi; omega⟩
    · exact ⟨.halt_ a, rfl, by simp [Su153Neutral.callOf], by intro i hi; simp [enc] at hi; omega⟩
    · exact ⟨.wake a, rfl, by simp [Su153Neutral.callOf], by intro i hi; simp [enc] at hi; omega⟩
    · exact ⟨.quit a, rfl, by simp [Su153Neutral.callOf], by intro i hi; simp [enc] at hi; omega⟩
    · exact ⟨.resend a, rfl, by simp [Su153Neutral.callOf], by intro i hi; simp [enc] at hi; omega⟩
    · exact ⟨.alone a, rfl, by simp [Su153Neutral.callOf], by intro i hi; simp [enc] at hi; omega⟩
    · exact ⟨.message a, rfl, by simp [Su153Neutral.callOf], by intro i hi; simp [enc] at hi; omega⟩
    · exact ⟨.machine a, rfl, by simp [Su153Neutral.callOf], by intro i hi; simp [enc] at hi; omega⟩
    · exact ⟨.customer a, rfl, by simp [Su153Neutral.callOf], by intro i hi; simp [enc] at hi; omega⟩
    · exact ⟨.op a, rfl, by simp [Su153Neutral.callOf], by intro i hi; simp [enc] at hi; omega⟩
  · rename_i p
    have e1 : p = 15 ∨ p = 16 ∨ p = 17 ∨ p = 18 ∨ p = 19 ∨ p = 20 ∨ p = 21 := by simpa using h
    rcases e1 with rfl | rfl | rfl | rfl | rfl | rfl | rfl
    · exact ⟨.kept, rfl, by simp [Su153Neutral.callOf], by intro i hi; simp [enc] at hi⟩
    · exact ⟨.why, rfl, by simp [Su153Neutral.callOf], by intro i hi; simp [enc] at hi⟩
    · exact ⟨.order, rfl, by simp [Su153Neutral.callOf], by intro i hi; simp [enc] at hi⟩
    · exact ⟨.since, rfl, by simp [Su153Neutral.callOf], by intro i hi; simp [enc] at hi⟩
    · exact ⟨.now, rfl, by simp [Su153Neutral.callOf], by intro i hi; simp [enc] at hi⟩
    · exact ⟨.safe, rfl, by simp [Su153Neutral.callOf], by intro i hi; simp [enc] at hi⟩
    · exact ⟨.state, rfl, by simp [Su153Neutral.callOf], by intro i hi; simp [enc] at hi⟩
  · cases h
/-- one call's answer: its numbers -/
def said (s : Option Abs) (x : Call) : List Int := (Su153.step s x).2.value :: Su153Neutral.outs (Su153.step s x).2.out
/-- the answers of a list of calls, from a state -/
def run : Option Abs → List Call → List Int
  | _, [] => []
  | s, x :: r => ((said s x).length : Int) :: said s x ++ run (Su153.step s x).1 r
/-- the state behind a list of calls -/
def after : Option Abs → List Call → Option Abs
  | s, [] => s
  | s, x :: r => after (Su153.step s x).1 r
theorem run_append : ∀ (a b : List Call) (s : Option Abs), run s (a ++ b) = run s a ++ run (after s a) b
  | [], _, _ => rfl
  | x :: a, b, s => by
    show _ :: said s x ++ run _ (a ++ b) = _
    rw [run_append a b]
    show _ = (_ :: said s x ++ run _ a) ++ _
    rw [List.append_assoc]
    rfl
theorem after_append : ∀ (a b : List Call) (s : Option Abs), after s (a ++ b) = after (after s a) b
  | [], _, _ => rfl
  | x :: a, b, s => after_append a b _
theorem encs : ∀ (cs : List (List Int)), (∀ c ∈ cs, Su153Neutral.asked1 c = true) → ∃ xs : List Call, cs = xs.map enc ∧ (∀ x ∈ xs, small x) ∧ ∀ s, PyFlat.told (PyFlat.played (fun s c => Su153Neutral.step s (c.headD [])) s (cs.map fun c => [c])) = run s xs
  | [], _ => ⟨[], rfl, fun _ h => (by cases h), fun _ => rfl⟩
  | c :: cs, h => by
    obtain ⟨x, e1, e2, e3⟩ := asked_enc (h c (List.mem_cons_self ..))
    obtain ⟨xs, d1, d2, d3⟩ := encs cs fun c hc => h c (List.mem_cons_of_mem _ hc)
    refine ⟨x :: xs, by rw [d1, e1]; rfl, ?_, ?_⟩
    · intro y hy
      rcases List.mem_cons.mp hy with rfl | hy
      · exact e3
      · exact d2 y hy
    · intro s
      have st : Su153Neutral.step s c = ((Su153.step s x).1, said s x) := by
        unfold Su153Neutral.step
        rw [e2]
        rfl
      show PyFlat.told ((Su153Neutral.step s c).2 :: PyFlat.played _ (Su153Neutral.step s c).1 (cs.map fun c => [c])) = _
      rw [st]
      show ((said s x).length : Int) :: said s x ++ PyFlat.told _ = _
      rw [d3]
      rfl
/-- all that is asked of what is handed in -/
theorem asked_calls {l : List Int} (h : PySu153.answers_asked l = true) : ∃ xs : List Call, l = (xs.map enc).flatten ∧ xs.length ≤ 400 ∧ (∀ x ∈ xs, small x) ∧ PySu153.answers l = run none xs ∧ (run none xs).length ≤ 10000000 := by
  unfold PySu153.answers_asked at h
  split at h
  · cases h
  · rename_i raw hraw
    obtain ⟨cs, e1, e2⟩ := calls_flat _ _ _ hraw
    simp only [Bool.and_eq_true] at h
    obtain ⟨⟨⟨⟨_, h2⟩, _⟩, h4⟩, h5⟩ := h
    have em : raw.map PySu153.whole = raw := by
      have : PySu153.whole = id := funext whole_id
      rw [this, List.map_id]
    have eh : (raw.map PySu153.whole).map (fun c => c.headD []) = cs := by
      rw [em, e1, List.map_map]
      exact (List.map_congr_left (fun c _ => rfl)).trans (List.map_id _)
    rw [eh] at h4
    unfold Su153Neutral.asked at h4
    simp only [Bool.and_eq_true] at h4
    obtain ⟨xs, d1, d2, d3⟩ := encs cs fun c hc => List.all_eq_true.mp h4.2 c hc
    have ea : PySu153.answers l = run none xs := by
      unfold PySu153.answers PySu153.calls
      rw [hraw]
      show PyFlat.told (PyFlat.played _ Su153Neutral.start (raw.map PySu153.whole)) = _
      rw [em, e1]
      exact d3 none
    refine ⟨xs, by rw [← d1]; exact e2, ?_, d2, ea, ?_⟩
    · have := of_decide_eq_true h4.1.2
      rw [d1, List.length_map] at this
      exact this
    · rw [← ea]
      exact of_decide_eq_true h5
end Ea

/-! What holds of every state that calls lead to. -/
namespace Ea
open Su153
structure CustOk (a : Abs) (c : Nat) (z : Customer) : Prop where
  st : z.st ≤ 3
  v : z.v ≤ 40
  got : z.got.length ≤ 5
  ask : z.st = 1 → z.got.length < a.ask
  tell : z.st = 2 → z.got.length < a.tell
  op : z.st = 1 ∨ z.st = 2 → ∃ o, a.ops[z.k]? = some o ∧ o.who = c ∧ o.til = none
  own : z.st = 2 → ∀ o, a.ops[z.k]? = some o → o.wr = true → z.v = o.v
  idle : z.st = 0 → z.got = [] ∧ z.tag = none_ ∧ z.v = 0
structure MsgOk (a : Abs) (x : Msg) : Prop where
  kind : x.kind ≤ 3
  m : x.m < a.machines.length
  c : x.c < a.customers.length
  v : x.v ≤ 40
  op : ∃ o, a.ops[x.k]? = some o ∧ o.who = x.c
structure OpOk (a : Abs) (o : Op) : Prop where
  v : o.v ≤ 40
  wr : o.wr = true → 1 ≤ o.v
  who : o.who < a.customers.length
  s1 : 1 ≤ o.since
  s2 : o.since ≤ a.time
  til : ∀ t, o.til = some t → o.since ≤ t ∧ t ≤ a.time
structure Good (a : Abs) : Prop where
  n : 1 ≤ a.machines.length ∧ a.machines.length ≤ 5
  cs : 1 ≤ a.customers.length ∧ a.customers.length ≤ 4
  ask : 1 ≤ a.ask ∧ a.ask ≤ a.machines.length
  tell : 1 ≤ a.tell ∧ a.tell ≤ a.machines.length
  ops : a.ops.length ≤ 20
  cust : ∀ c z, a.customers[c]? = some z → CustOk a c z
  msg : ∀ x, x ∈ a.msgs → MsgOk a x
  op : ∀ (k : Nat) o, a.ops[k]? = some o → OpOk a o
  mach : ∀ (i : Nat) m, a.machines[i]? = some m → m.v ≤ 40
  uniq : ∀ (i j : Nat) o p, a.ops[i]? = some o → a.ops[j]? = some p → o.wr = true → p.wr = true → o.v = p.v → i = j
  mono : ∀ (i j : Nat) o p, a.ops[i]? = some o → a.ops[j]? = some p → i < j → o.since < p.since
theorem getD_some {α : Type} {l : List α} {i : Nat} {d x : α} (h : l[i]? = some x) : l.getD i d = x := by
  rw [List.getD_eq_getElem?_getD, h]
  rfl
theorem get_of_lt {α : Type} {l : List α} {i : Nat} (h : i < l.length) : ∃ x, l[i]? = some x := ⟨l[i], List.getElem?_eq_getElem h⟩
theorem lt_of_get {α : Type} {l : List α} {i : Nat} {x : α} (h : l[i]? = some x) : i < l.length := by
  rcases Nat.lt_or_ge i l.length with k | k
  · exact k
  · rw [List.getElem?_eq_none k] at h
    cases h
theorem customer_at {a : Abs} {c : Nat} {z : Customer} (h : a.customers[c]? = some z) : a.customer c = z := getD_some h
theorem machine_at {a : Abs} {c : Nat} {z : Machine} (h : a.machines[c]? = some z) : a.machine c = z := getD_some h
theorem op_at {a : Abs} {k : Nat} {o : Op} (h : a.ops[k]? = some o) : a.op k = o := getD_some h
theorem msg_at {a : Abs} {k : Nat} {o : Msg} (h : a.msgs[k]? = some o) : a.msg k = o := getD_some h
theorem set_get {α : Type} {l : List α} {i j : Nat} {x y : α} (h : (l.set i x)[j]? = some y) : (i = j ∧ y = x ∧ i < l.length) ∨ (i ≠ j ∧ l[j]? = some y) := by
  rw [List.getElem?_set] at h
  by_cases e : i = j
  · rw [if_pos e] at h
    by_cases k : i < l.length
    · rw [if_pos k] at h
      exact .inl ⟨e, (Option.some.inj h).symm, k⟩
    · rw [if_neg k] at h
      cases h
  · rw [if_neg e] at h
    exact .inr ⟨e, h⟩
theorem snoc_get {α : Type} {l : List α} {j : Nat} {x y : α} (h : (l ++ [x])[j]? = some y) : (j = l.length ∧ y = x) ∨ (j < l.length ∧ l[j]? = some y) := by
  rcases Nat.lt_or_ge j l.length with k | k
  · rw [List.getElem?_append_left k] at h
    exact .inr ⟨k, h⟩
  · rw [List.getElem?_append_right k] at h
    have e : j - l.length = 0 := by
      rcases Nat.eq_zero_or_pos (j - l.length) with e | e
      · exact e
      · rw [List.getElem?_eq_none (by simp; omega)] at h
        cases h
    rw [e] at h
    exact .inl ⟨by omega, (Option.some.inj h).symm⟩
/-- how the operations may change while messages come: told apart from the rest -/
theorem Good.tick {a : Abs} (g : Good a) : Good a.tick where
  n := g.n
  cs := g.cs
  ask := g.ask
  tell := g.tell
  ops := g.ops
  cust := fun c z h => let q := g.cust c z h; ⟨q.st, q.v, q.got, q.ask, q.tell, q.op, q.own, q.idle⟩
  msg := fun x h => let q := g.msg x h; ⟨q.kind, q.m, q.c, q.v, q.op⟩
  op := fun k o h => let q := g.op k o h; ⟨q.v, q.wr, q.who, q.s1, Nat.le_succ_of_le q.s2, fun t e => ⟨(q.til t e).1, Nat.le_succ_of_le (q.til t e).2⟩⟩
  mach := g.mach
  uniq := g.uniq
  mono := g.mono
theorem Good.send {a : Abs} (g : Good a) {l : List Msg} (h : ∀ x ∈ l, MsgOk a x) : Good (a.send l) where
  n := g.n
  cs := g.cs
  ask := g.ask
  tell := g.tell
  ops := g.ops
  cust := fun c z h => let q := g.cust c z h; ⟨q.st, q.v, q.got, q.ask, q.tell, q.op, q.own, q.idle⟩
  msg := fun x hx => by
    rcases List.mem_append.mp hx with hx | hx
    · exact let q := g.msg x hx; ⟨q.kind, q.m, q.c, q.v, q.op⟩
    · exact let q := h x hx; ⟨q.kind, q.m, q.c, q.v, q.op⟩
  op := fun k o h => let q := g.op k o h; ⟨q.v, q.wr, q.who, q.s1, q.s2, q.til⟩
  mach := g.mach
  uniq := g.uniq
  mono := g.mono
theorem Good.drop {a : Abs} (g : Good a) (i : Nat) : Good (a.drop i) where
  n := g.n
  cs := g.cs
  ask := g.ask
  tell := g.tell
  ops := g.ops
  cust := fun c z h => let q := g.cust c z h; ⟨q.st, q.v, q.got, q.ask, q.tell, q.op, q.own, q.idle⟩
  msg := fun x hx => let q := g.msg x (List.mem_of_mem_eraseIdx hx); ⟨q.kind, q.m, q.c, q.v, q.op⟩
  op := fun k o h => let q := g.op k o h; ⟨q.v, q.wr, q.who, q.s1, q.s2, q.til⟩
  mach := g.mach
  uniq := g.uniq
  mono := g.mono
theorem Good.setC {a : Abs} (g : Good a) {c : Nat} {z : Customer} (h : CustOk a c z) : Good (a.setC c z) where
  n := g.n
  cs := by
    show 1 ≤ (a.customers.set c z).length ∧ (a.customers.set c z).length ≤ 4
    rw [List.length_set]
    exact g.cs
  ask := g.ask
  tell := g.tell
  ops := g.ops
  cust := fun d y hd => by
    rcases set_get hd with ⟨rfl, rfl, _⟩ | ⟨_, hd⟩
    · exact ⟨h.st, h.v, h.got, h.ask, h.tell, h.op, h.own, h.idle⟩
    · exact let q := g.cust d y hd; ⟨q.st, q.v, q.got, q.ask, q.tell, q.op, q.own, q.idle⟩
  msg := fun x hx => let q := g.msg x hx; ⟨q.kind, q.m, (by show x.c < (a.customers.set c z).length; rw [List.length_set]; exact q.c), q.v, q.op⟩
  op := fun k o h => let q := g.op k o h; ⟨q.v, q.wr, (by show o.who < (a.customers.set c z).length; rw [List.length_set]; exact q.who), q.s1, q.s2, q.til⟩
  mach := g.mach
  uniq := g.uniq
  mono := g.mono
theorem Good.setM {a : Abs} (g : Good a) {i : Nat} {m : Machine} (h : m.v ≤ 40) : Good (a.setM i m) where
  n := by
    show 1 ≤ (a.machines.set i m).length ∧ (a.machines.set i m).length ≤ 5
    rw [List.length_set]
    exact g.n
  cs := g.cs
  ask := by
    show 1 ≤ a.ask ∧ a.ask ≤ (a.machines.set i m).length
    rw [List.length_set]
    exact g.ask
  tell := by
    show 1 ≤ a.tell ∧ a.tell ≤ (a.machines.set i m).length
    rw [List.length_set]
    exact g.tell
  ops := g.ops
  cust := fun c z h => let q := g.cust c z h; ⟨q.st, q.v, q.got, q.ask, q.tell, q.op, q.own, q.idle⟩
  msg := fun x hx => let q := g.msg x hx; ⟨q.kind, (by show x.m < (a.machines.set i m).length; rw [List.length_set]; exact q.m), q.c, q.v, q.op⟩
  op := fun k o h => let q := g.op k o h; ⟨q.v, q.wr, q.who, q.s1, q.s2, q.til⟩
  mach := fun j y hy => by
    rcases set_get hy with ⟨_, rfl, _⟩ | ⟨_, hy⟩
    · exact h
    · exact g.mach j y hy
  uniq := g.uniq
  mono := g.mono
theorem calls_msg {a : Abs} (g : Good a) {c : Nat} {z : Customer} (hz : a.customers[c]? = some z) (hs : z.st = 1 ∨ z.st = 2) : ∀ x ∈ a.calls c, MsgOk a x := by
  intro x hx
  unfold Abs.calls at hx
  obtain ⟨m, hm, rfl⟩ := List.mem_map.mp hx
  have hm := List.mem_range.mp hm
  have q := g.cust c z hz
  obtain ⟨o, ho, hw, _⟩ := q.op hs
  rw [customer_at hz]
  by_cases e : z.st = 1
  · rw [if_pos e]
    exact ⟨Nat.zero_le _, hm, lt_of_get hz, Nat.zero_le _, o, ho, hw⟩
  · rw [if_neg e]
    exact ⟨Nat.le_succ _, hm, lt_of_get hz, q.v, o, ho, hw⟩
theorem calls_len (a : Abs) (c : Nat) : (a.calls c).length = a.machines.length := by
  unfold Abs.calls
  simp [Abs.n]
theorem setC_at {a : Abs} {c : Nat} {z y : Customer} (hz : a.customers[c]? = some z) : (a.setC c y).customers[c]? = some y := by
  show (a.customers.set c y)[c]? = some y
  rw [List.getElem?_set, if_pos rfl, if_pos (lt_of_get hz)]
theorem ended_eq {a : Abs} {c : Nat} {z : Customer} {o : Op} (hz : a.customers[c]? = some z) (ho : a.ops[z.k]? = some o) :
    a.ended c = { a with ops := a.ops.set z.k { o with v := z.v, til := some a.time }, customers := a.customers.set c ⟨0, z.k, [], none_, 0⟩ } := by
  unfold Abs.ended
  dsimp only
  rw [customer_at hz, op_at ho]
  rfl
theorem ended_set {a : Abs} {c : Nat} {z y : Customer} {o : Op} (hz : a.customers[c]? = some z) (ho : a.ops[y.k]? = some o) :
    (a.setC c y).ended c = { a with ops := a.ops.set y.k { o with v := y.v, til := some a.time }, customers := a.customers.set c ⟨0, y.k, [], none_, 0⟩ } := by
  rw [ended_eq (setC_at hz) (show (a.setC c y).ops[y.k]? = some o from ho)]
  unfold Abs.setC
  simp
/-- the operation has ended: of a customer whose record is y just now -/
theorem Good.ended {a : Abs} (g : Good a) {c : Nat} {z y : Customer} (hz : a.customers[c]? = some z) (hs : z.st = 1 ∨ z.st = 2) (hk : y.k = z.k) (hv40 : y.v ≤ 40)
    (hv : ∀ o, a.ops[z.k]? = some o → o.wr = true → y.v = o.v) : Good ((a.setC c y).ended c) := by
  have q := g.cust c z hz
  obtain ⟨o, ho, hw, hn⟩ := q.op hs
  have hv := hv o ho
  have qo := g.op _ o ho
  rw [ended_set hz (by rw [hk]; exact ho), hk]
  have hsame : ∀ (j : Nat) p, (a.ops.set z.k { o with v := y.v, til := some a.time })[j]? = some p → ∃ p0, a.ops[j]? = some p0 ∧ p.who = p0.who ∧ p.wr = p0.wr ∧ p.since = p0.since ∧ (p.wr = true → p.v = p0.v) ∧ (j ≠ z.k → p = p0) ∧ (j = z.k → p = { o with v := y.v, til := some a.time }) := by
    intro j p hp
    rcases set_get hp with ⟨rfl, rfl, _⟩ | ⟨ne, hp⟩
    · exact ⟨o, ho, rfl, rfl, rfl, hv, fun x => absurd rfl x, fun _ => rfl⟩
    · exact ⟨p, hp, rfl, rfl, rfl, fun _ => rfl, fun _ => rfl, fun x => absurd x.symm ne⟩
  refine ⟨g.n, ?_, g.ask, g.tell, ?_, ?_, ?_, ?_, g.mach, ?_, ?_⟩
  · show 1 ≤ (a.customers.set c _).length ∧ (a.customers.set c _).length ≤ 4
    rw [List.length_set]
    exact g.cs
  · show (a.ops.set z.k _).length ≤ 20
    rw [List.length_set]
    exact g.ops
  · intro d x hd
    rcases set_get hd with ⟨rfl, rfl, _⟩ | ⟨ne, hd⟩
    · exact ⟨Nat.zero_le _, Nat.zero_le _, Nat.zero_le _, (fun e => by cases e), (fun e => by cases e), (fun e => by rcases e with e | e <;> cases e), (fun e => by cases e), fun _ => ⟨rfl, rfl, rfl⟩⟩
    · have r := g.cust d x hd
      refine ⟨r.st, r.v, r.got, r.ask, r.tell, ?_, ?_, r.idle⟩
      · intro e
        obtain ⟨p, hp, hpw, hpn⟩ := r.op e
        have nk : z.k ≠ x.k := by
          intro ek
          rw [← ek, ho] at hp
          cases hp
          exact ne (hw.symm.trans hpw)
        refine ⟨p, ?_, hpw, hpn⟩
        show (a.ops.set z.k _)[x.k]? = some p
        rw [List.getElem?_set, if_neg nk]
        exact hp
      · intro e p hp w
        obtain ⟨p0, h0, _, h1, _, h2, _⟩ := hsame _ _ hp
        rw [h2 w]
        exact r.own e p0 h0 (h1 ▸ w)
  · intro x hx
    have r := g.msg x hx
    obtain ⟨p, hp, hpw⟩ := r.op
    refine ⟨r.kind, r.m, ?_, r.v, ?_⟩
    · show x.c < (a.customers.set c _).length
      rw [List.length_set]
      exact r.c
    · by_cases e : z.k = x.k
      · refine ⟨{ o with v := y.v, til := some a.time }, ?_, ?_⟩
        · show (a.ops.set z.k _)[x.k]? = _
          rw [List.getElem?_set, if_pos e, if_pos (lt_of_get ho)]
        · rw [← e, ho] at hp
          cases hp
          exact hpw
      · refine ⟨p, ?_, hpw⟩
        show (a.ops.set z.k _)[x.k]? = _
        rw [List.getElem?_set, if_neg e]
        exact hp
  · intro k p hp
    rcases set_get hp with ⟨rfl, rfl, _⟩ | ⟨ne, hp⟩
    · refine ⟨hv40, fun w => ?_, ?_, qo.s1, qo.s2, ?_⟩
      · rw [hv w]
        exact qo.wr w
      · show o.who < (a.customers.set c _).length
        rw [List.length_set]
        exact qo.who
      · intro t e
        cases e
        exact ⟨qo.s2, Nat.le_refl _⟩
    · have r := g.op k p hp
      refine ⟨r.v, r.wr, ?_, r.s1, r.s2, r.til⟩
      show p.who < (a.customers.set c _).length
      rw [List.length_set]
      exact r.who
  · intro i j p r hp hr wp wr e
    obtain ⟨p0, h0, _, h1, _, h2, _⟩ := hsame _ _ hp
    obtain ⟨r0, k0, _, k1, _, k2, _⟩ := hsame _ _ hr
    exact g.uniq i j p0 r0 h0 k0 (h1 ▸ wp) (k1 ▸ wr) (by rw [← h2 wp, ← k2 wr]; exact e)
  · intro i j p r hp hr e
    obtain ⟨p0, h0, _, _, h1, _⟩ := hsame _ _ hp
    obtain ⟨r0, k0, _, _, k1, _⟩ := hsame _ _ hr
    rw [h1, k1]
    exact g.mono i j p0 r0 h0 k0 e

theorem setC_setC {a : Abs} {c : Nat} {y z : Customer} : (a.setC c y).setC c z = a.setC c z := by
  unfold Abs.setC
  simp
/-- what a customer tells who has asked enough -/
def tells (o : Op) (c : Nat) (y : Customer) : Customer := if o.wr = true then ⟨2, y.k, [], ⟨y.tag.n + 1, c⟩, o.v⟩ else ⟨2, y.k, [], y.tag, y.v⟩
theorem asked_set {a : Abs} {c : Nat} {z y : Customer} {o : Op} (hz : a.customers[c]? = some z) (ho : a.ops[y.k]? = some o) :
    (a.setC c y).asked c = if o.wr = false ∧ a.on = false then ((a.setC c y).ended c, 4) else ((a.setC c (tells o c y)).send ((a.setC c (tells o c y)).calls c), 3) := by
  unfold Abs.asked
  dsimp only
  rw [customer_at (setC_at hz), op_at (show (a.setC c y).ops[y.k]? = some o from ho), setC_setC]
  rfl
theorem Good.asked {a : Abs} (g : Good a) {c : Nat} {z y : Customer} (hz : a.customers[c]? = some z) (hs : z.st = 1) (hk : y.k = z.k) (hv40 : y.v ≤ 40) : Good ((a.setC c y).asked c).1 := by
  have q := g.cust c z hz
  obtain ⟨o, ho, hw, hn⟩ := q.op (.inl hs)
  rw [asked_set hz (by rw [hk]; exact ho)]
  by_cases h : o.wr = false ∧ a.on = false
  · rw [if_pos h]
    exact g.ended hz (.inl hs) hk hv40 (fun p hp w => by rw [ho] at hp; cases hp; rw [h.1] at w; cases w)
  · rw [if_neg h]
    have hy : CustOk a c (tells o c y) := by
      unfold tells
      by_cases w : o.wr = true
      · rw [if_pos w]
        refine ⟨(by show 2 ≤ 3; decide), (g.op _ o ho).v, Nat.zero_le _, (fun x => by cases x), fun _ => g.tell.1, fun _ => ⟨o, by rw [hk]; exact ho, hw, hn⟩, fun _ p hp _ => ?_, (fun e => by cases e)⟩
        have hp : a.ops[y.k]? = some p := hp
        rw [hk, ho] at hp
        cases hp
        rfl
      · rw [if_neg w]
        refine ⟨(by show 2 ≤ 3; decide), hv40, Nat.zero_le _, (fun x => by cases x), fun _ => g.tell.1, fun _ => ⟨o, by rw [hk]; exact ho, hw, hn⟩, fun _ p hp wp => ?_, (fun e => by cases e)⟩
        have hp : a.ops[y.k]? = some p := hp
        rw [hk, ho] at hp
        cases hp
        exact absurd wp w
    refine (g.setC hy).send (calls_msg (g.setC hy) (setC_at hz) (.inr ?_))
    unfold tells
    split <;> rfl
theorem tells_k (o : Op) (c : Nat) (y : Customer) : (tells o c y).k = y.k := by
  unfold tells
  split <;> rfl
/-- what comes: the message's own facts -/
theorem Good.comes {a : Abs} (g : Good a) {x : Msg} (hx : MsgOk a x) : Good (a.comes x).1 := by
  obtain ⟨m, hm⟩ := get_of_lt hx.m
  obtain ⟨z, hz⟩ := get_of_lt hx.c
  have qm := g.mach _ m hm
  have q := g.cust _ z hz
  unfold Abs.comes
  dsimp only
  rw [machine_at hm, customer_at hz]
  by_cases k0 : x.kind = 0
  · rw [if_pos k0]
    by_cases u : m.up = true
    · rw [if_pos u]
      refine g.send fun y hy => ?_
      cases List.mem_singleton.mp hy
      exact ⟨(by show 1 ≤ 3; decide), hx.m, hx.c, qm, hx.op⟩
    · rw [if_neg u]
      exact g
  rw [if_neg k0]
  by_cases k2 : x.kind = 2
  · rw [if_pos k2]
    by_cases u : m.up = true
    · rw [if_pos u]
      have g2 : Good (if newer x.tag m.tag = true then a.setM x.m ⟨true, x.tag, x.v⟩ else a) := by
        by_cases n : newer x.tag m.tag = true
        · rw [if_pos n]
          exact g.setM hx.v
        · rw [if_neg n]
          exact g
      refine g2.send fun y hy => ?_
      cases List.mem_singleton.mp hy
      by_cases n : newer x.tag m.tag = true
      · rw [if_pos n]
        exact ⟨(by show 3 ≤ 3; decide), (by show x.m < (a.machines.set _ _).length; rw [List.length_set]; exact hx.m), hx.c, hx.v, hx.op⟩
      · rw [if_neg n]
        exact ⟨(by show 3 ≤ 3; decide), hx.m, hx.c, hx.v, hx.op⟩
    · rw [if_neg u]
      exact g
  rw [if_neg k2]
  by_cases k1 : x.kind = 1
  · rw [if_pos k1]
    by_cases w : z.st ≠ 1 ∨ z.k ≠ x.k ∨ z.got.contains x.m = true
    · rw [if_pos w]
      exact g
    rw [if_neg w]
    have w1 : z.st = 1 := Classical.not_not.mp fun e => w (.inl e)
    have hl := q.ask w1
    generalize hy : (if newer x.tag z.tag = true then ({ z with got := z.got ++ [x.m], tag := x.tag, v := x.v } : Customer) else { z with got := z.got ++ [x.m] }) = y
    have hy1 : y.st = 1 ∧ y.k = z.k ∧ y.v ≤ 40 ∧ y.got = z.got ++ [x.m] := by
      rw [← hy]
      by_cases n : newer x.tag z.tag = true
      · rw [if_pos n]
        exact ⟨w1, rfl, hx.v, rfl⟩
      · rw [if_neg n]
        exact ⟨w1, rfl, q.v, rfl⟩
    by_cases e : y.got.length < a.ask
    · rw [if_pos e]
      refine g.setC ⟨by omega, hy1.2.2.1, ?_, fun _ => e, (fun e => by omega), fun _ => ?_, (fun e => by omega), (fun e => by omega)⟩
      · have := g.ask.2
        have := g.n.2
        omega
      · rw [hy1.2.1]
        exact q.op (.inl w1)
    · rw [if_neg e]
      exact g.asked hz w1 hy1.2.1 hy1.2.2.1
  rw [if_neg k1]
  by_cases w : z.st ≠ 2 ∨ z.k ≠ x.k ∨ z.got.contains x.m = true
  · rw [if_pos w]
    exact g
  rw [if_neg w]
  have w1 : z.st = 2 := Classical.not_not.mp fun e => w (.inl e)
  by_cases e : z.got.length + 1 < a.tell
  · rw [if_pos e]
    refine g.setC ⟨q.st, q.v, ?_, fun e => absurd (w1.symm.trans e) (by decide), fun _ => ?_, q.op, q.own, fun e => absurd (w1.symm.trans e) (by decide)⟩
    · have := g.tell.2
      have := g.n.2
      show (z.got ++ [x.m]).length ≤ 5
      rw [List.length_append]
      show z.got.length + 1 ≤ 5
      omega
    · show (z.got ++ [x.m]).length < _
      rw [List.length_append]
      exact e
  · rw [if_neg e]
    exact g.ended hz (.inr w1) rfl q.v fun o ho wr => q.own w1 o ho wr
theorem Good.msgOk {a : Abs} (g : Good a) {i : Nat} (h : i < a.msgs.length) : MsgOk a (a.msg i) := by
  obtain ⟨x, hx⟩ := get_of_lt h
  rw [msg_at hx]
  exact g.msg x (List.mem_of_getElem? hx)
theorem MsgOk.drop {a : Abs} {x : Msg} (h : MsgOk a x) (i : Nat) : MsgOk (a.drop i) x := ⟨h.kind, h.m, h.c, h.v, h.op⟩
theorem Good.deliver {a : Abs} (g : Good a) {i : Nat} (h : i < a.msgs.length) : Good (a.deliver i).1 := (g.drop i).comes ((g.msgOk h).drop i)
theorem find_lt {α : Type} {p : α → Bool} {l : List α} {i : Nat} (h : l.findIdx? p = some i) : i < l.length := by
  have := List.findIdx?_eq_some_iff_getElem.mp h
  exact this.1
theorem Good.alone (c : Nat) : ∀ (f : Nat) (a : Abs) (d : Nat), Good a → Good (Abs.alone c f a d).1
  | 0, _, _, g => g
  | f + 1, a, d, g => by
    unfold Abs.alone
    split
    · exact g
    · split
      · rename_i i hi
        exact Good.alone c f _ _ (g.deliver (find_lt hi))
      · exact g
theorem Good.begun {a : Abs} (g : Good a) {c : Nat} {z : Customer} {o : Op} (hz : a.customers[c]? = some z) (hi : z.st = 0) (ho : o.who = c) (hn : o.til = none) (ht : o.since = a.time) (h1 : 1 ≤ a.time)
    (hlate : ∀ (k : Nat) p, a.ops[k]? = some p → p.since < a.time) (hv : o.v ≤ 40) (hw : o.wr = true → 1 ≤ o.v) (hu : ∀ (k : Nat) p, a.ops[k]? = some p → p.wr = true → o.wr = true → p.v ≠ o.v) (hl : a.ops.length < 20) : Good (a.begun c o) := by
  have g1 : Good (({ a with ops := a.ops ++ [o] } : Abs).setC c ⟨1, a.ops.length, [], none_, 0⟩) := by
    have old : ∀ {k : Nat} {p}, a.ops[k]? = some p → (a.ops ++ [o])[k]? = some p := fun {k p} h => by
      rw [List.getElem?_append_left (lt_of_get h)]
      exact h
    have new : (a.ops ++ [o])[a.ops.length]? = some o := by simp
    refine ⟨g.n, ?_, g.ask, g.tell, ?_, ?_, ?_, ?_, g.mach, ?_, ?_⟩
    · show 1 ≤ (a.customers.set c _).length ∧ (a.customers.set c _).length ≤ 4
      rw [List.length_set]
      exact g.cs
    · show (a.ops ++ [o]).length ≤ 20
      rw [List.length_append]
      exact hl
    · intro d y hd
      rcases set_get hd with ⟨rfl, rfl, _⟩ | ⟨ne, hd⟩
      · exact ⟨(by show 1 ≤ 3; decide), Nat.zero_le _, Nat.zero_le _, fun _ => g.ask.1, (fun e => by cases e), fun _ => ⟨o, new, ho, hn⟩, (fun e => by cases e), (fun e => by cases e)⟩
      · have r := g.cust d y hd
        refine ⟨r.st, r.v, r.got, r.ask, r.tell, ?_, ?_, r.idle⟩
        · intro e
          obtain ⟨p, hp, h2, h3⟩ := r.op e
          exact ⟨p, old hp, h2, h3⟩
        · intro e p hp w
          obtain ⟨p', hp', h2, h3⟩ := r.op (.inr e)
          have e2 : (a.ops ++ [o])[y.k]? = some p := hp
          rw [old hp'] at e2
          cases e2
          exact r.own e _ hp' w
    · intro x hx
      have r := g.msg x hx
      obtain ⟨p, hp, h2⟩ := r.op
      exact ⟨r.kind, r.m, (by show x.c < (a.customers.set c _).length; rw [List.length_set]; exact r.c), r.v, p, old hp, h2⟩
    · intro k p hp
      have hc : c < (a.customers.set c ⟨1, a.ops.length, [], none_, 0⟩).length := by rw [List.length_set]; exact lt_of_get hz
      rcases snoc_get hp with ⟨_, rfl⟩ | ⟨_, hp⟩
      · exact ⟨hv, hw, by rw [ho]; exact hc, by omega, Nat.le_of_eq ht, fun t e => by rw [hn] at e; cases e⟩
      · have r := g.op k p hp
        exact ⟨r.v, r.wr, (by show p.who < (a.customers.set c _).length; rw [List.length_set]; exact r.who), r.s1, r.s2, r.til⟩
    · intro i j p r hp hr wp wr e
      rcases snoc_get hp with ⟨e1, rfl⟩ | ⟨_, hp⟩
      · rcases snoc_get hr with ⟨e2, rfl⟩ | ⟨_, hr⟩
        · omega
        · exact absurd e.symm (hu j r hr wr wp)
      · rcases snoc_get hr with ⟨e2, rfl⟩ | ⟨_, hr⟩
        · exact absurd e (hu i p (by assumption) wp wr)
        · exact g.uniq i j p r hp hr wp wr e
    · intro i j p r hp hr e
      rcases snoc_get hp with ⟨e1, rfl⟩ | ⟨_, hp⟩
      · rcases snoc_get hr with ⟨e2, rfl⟩ | ⟨_, hr⟩
        · omega
        · omega
      · rcases snoc_get hr with ⟨e2, rfl⟩ | ⟨_, hr⟩
        · rw [ht]
          exact hlate i p (by assumption)
        · exact g.mono i j p r hp hr e
  have hz2 : (({ a with ops := a.ops ++ [o] } : Abs).setC c ⟨1, a.ops.length, [], none_, 0⟩).customers[c]? = some ⟨1, a.ops.length, [], none_, 0⟩ := setC_at (a := { a with ops := a.ops ++ [o] }) hz
  exact g1.send (calls_msg g1 hz2 (.inl rfl))
theorem Good.new {n c q t on : Nat} (h : okBegin n c q t on = true) : Good (Abs.new n c q t (on == 1)) := by
  unfold okBegin at h
  simp only [Bool.and_eq_true, decide_eq_true_eq] at h
  obtain ⟨h1, h2, h3, h4, h5⟩ := h
  have e1 : (Abs.new n c q t (on == 1)).machines.length = n := List.length_replicate ..
  have e2 : (Abs.new n c q t (on == 1)).customers.length = c := List.length_replicate ..
  refine ⟨by rw [e1]; exact h1, by rw [e2]; exact h2, by rw [e1]; exact h3, by rw [e1]; exact h4, Nat.zero_le _, ?_, ?_, ?_, ?_, ?_, ?_⟩
  · intro d z hz
    have : z = ⟨0, 0, [], none_, 0⟩ := List.eq_of_mem_replicate (List.mem_of_getElem? hz)
    subst this
    exact ⟨Nat.zero_le _, Nat.zero_le _, Nat.zero_le _, (fun e => by cases e), (fun e => by cases e), (fun e => by rcases e with e | e <;> cases e), (fun e => by cases e), fun _ => ⟨rfl, rfl, rfl⟩⟩
  · intro x hx
    cases hx
  · intro k o ho
    cases ho
  · intro i m hm
    have : m = ⟨true, none_, 0⟩ := List.eq_of_mem_replicate (List.mem_of_getElem? hm)
    subst this
    exact Nat.zero_le _
  · intro i j o p ho
    cases ho
  · intro i j o p ho
    cases ho
/-- what calls do keeps what holds -/
theorem Good.does {a : Abs} (g : Good a) (x : Call) : Good (does a x).1 := by
  have late : ∀ (k : Nat) p, a.tick.ops[k]? = some p → p.since < a.tick.time := fun k p hp => Nat.lt_succ_of_le (g.op k p hp).s2
  cases x with
  | begin_ n c q t on =>
    unfold Su153.does
    dsimp only
    by_cases h : okBegin n c q t on = false
    · rw [if_pos h]
      exact g
    · rw [if_neg h]
      exact Good.new (by simpa using h)
  | write c v =>
    unfold Su153.does
    dsimp only
    split
    · exact g
    split
    · exact g
    split
    · exact g
    split
    · exact g
    split
    · exact g
    rename_i h1 h2 h3 h4 h5
    obtain ⟨z, hz⟩ := get_of_lt (Nat.lt_of_not_le h1)
    rw [customer_at hz] at h3
    refine g.tick.begun (o := ⟨c, true, v, a.time + 1, none⟩) hz (by omega) rfl rfl rfl (Nat.succ_le_succ (Nat.zero_le _)) late (by show v ≤ 40; omega) (fun _ => (by show 1 ≤ v; omega)) ?_ ?_
    · intro k p hp hw _ e
      refine h4 (List.any_eq_true.mpr ⟨p, List.mem_of_getElem? hp, ?_⟩)
      rw [hw, show p.v = v from e]
      simp
    · show a.ops.length < 20
      have : ¬ (20 ≤ a.ops.length) := fun e => h5 (.inl e)
      omega
  | read c =>
    unfold Su153.does
    dsimp only
    split
    · exact g
    split
    · exact g
    split
    · exact g
    rename_i h1 h3 h5
    obtain ⟨z, hz⟩ := get_of_lt (Nat.lt_of_not_le h1)
    rw [customer_at hz] at h3
    refine g.tick.begun (o := ⟨c, false, 0, a.time + 1, none⟩) hz (by omega) rfl rfl rfl (Nat.succ_le_succ (Nat.zero_le _)) late (Nat.zero_le _) (fun e => by cases e) (fun k p hp _ e => by cases e) ?_
    show a.ops.length < 20
    have : ¬ (20 ≤ a.ops.length) := fun e => h5 (.inl e)
    omega
  | deliver i =>
    unfold Su153.does
    dsimp only
    split
    · exact g
    · rename_i h
      exact g.tick.deliver (Nat.lt_of_not_le h)
  | lose i =>
    unfold Su153.does
    dsimp only
    split
    · exact g
    · exact g.tick.drop i
  | again i =>
    unfold Su153.does
    dsimp only
    split
    · exact g
    split
    · exact g
    rename_i h h2
    refine g.tick.send fun x hx => ?_
    cases List.mem_singleton.mp hx
    exact g.tick.msgOk (Nat.lt_of_not_le h)
  | halt_ m =>
    unfold Su153.does
    dsimp only
    split
    · exact g
    split
    · exact g
    rename_i h h2
    obtain ⟨z, hz⟩ := get_of_lt (Nat.lt_of_not_le h)
    rw [machine_at hz]
    exact g.tick.setM (g.mach _ z hz)
  | wake m =>
    unfold Su153.does
    dsimp only
    split
    · exact g
    split
    · exact g
    rename_i h h2
    obtain ⟨z, hz⟩ := get_of_lt (Nat.lt_of_not_le h)
    rw [machine_at hz]
    exact g.tick.setM (g.mach _ z hz)
  | quit c =>
    unfold Su153.does
    dsimp only
    split
    · exact g
    split
    · exact g
    rename_i h h2
    obtain ⟨z, hz⟩ := get_of_lt (Nat.lt_of_not_le h)
    rw [customer_at hz]
    have q := g.tick.cust _ z hz
    exact g.tick.setC ⟨Nat.le_refl _, q.v, q.got, (fun e => by cases e), (fun e => by cases e), (fun e => by rcases e with e | e <;> cases e), (fun e => by cases e), (fun e => by cases e)⟩
  | resend c =>
    unfold Su153.does
    dsimp only
    split
    · exact g
    split
    · exact g
    split
    · exact g
    rename_i h h2 h3
    obtain ⟨z, hz⟩ := get_of_lt (Nat.lt_of_not_le h)
    refine g.tick.send (calls_msg g.tick hz ?_)
    unfold Abs.busy at h2
    rw [customer_at hz] at h2
    simp at h2
    omega
  | alone c =>
    unfold Su153.does
    dsimp only
    split
    · exact g
    split
    · exact g
    exact Good.alone c _ _ _ g.tick
  | message i =>
    unfold Su153.does
    dsimp only
    split <;> exact g
  | machine i =>
    unfold Su153.does
    dsimp only
    split <;> exact g
  | customer i =>
    unfold Su153.does
    dsimp only
    split <;> exact g
  | op i =>
    unfold Su153.does
    dsimp only
    split <;> exact g
  | kept => exact g
  | why => exact g
  | order =>
    unfold Su153.does
    dsimp only
    split <;> exact g
  | since => exact g
  | now => exact g
  | safe => exact g
  | state => exact g
end Ea

/-! How long the row of messages and the time may grow. -/
namespace Ea
open Su153
theorem send_len (a : Abs) (l : List Msg) : (a.send l).msgs.length = a.msgs.length + l.length := List.length_append
theorem ended_msgs (a : Abs) (c : Nat) : (a.ended c).msgs = a.msgs := rfl
theorem ended_mach (a : Abs) (c : Nat) : (a.ended c).machines = a.machines := rfl
theorem ended_time (a : Abs) (c : Nat) : (a.ended c).time = a.time := rfl
theorem asked_len (a : Abs) (c : Nat) : (a.asked c).1.msgs.length ≤ a.msgs.length + a.machines.length ∧ (a.asked c).1.machines = a.machines ∧ (a.asked c).1.time = a.time := by
  unfold Abs.asked
  dsimp only
  split
  · exact ⟨Nat.le_add_right _ _, rfl, rfl⟩
  · refine ⟨?_, rfl, rfl⟩
    rw [send_len, calls_len]
    exact Nat.le_refl _
theorem comes_len (a : Abs) (x : Msg) (h1 : 1 ≤ a.machines.length) : (a.comes x).1.msgs.length ≤ a.msgs.length + a.machines.length ∧ (a.comes x).1.machines.length = a.machines.length ∧ (a.comes x).1.time = a.time := by
  have z : a.msgs.length ≤ a.msgs.length + a.machines.length ∧ a.machines.length = a.machines.length ∧ a.time = a.time := ⟨Nat.le_add_right _ _, rfl, rfl⟩
  unfold Abs.comes
  dsimp only
  split
  · split
    · refine ⟨?_, rfl, rfl⟩
      rw [send_len]
      exact Nat.add_le_add_left h1 _
    · exact z
  split
  · split
    · split
      · refine ⟨?_, List.length_set, rfl⟩
        rw [send_len]
        exact Nat.add_le_add_left h1 _
      · refine ⟨?_, rfl, rfl⟩
        rw [send_len]
        exact Nat.add_le_add_left h1 _
    · exact z
  split
  · split
    · exact z
    · generalize (if newer x.tag (a.customer x.c).tag = true then ({ a.customer x.c with got := (a.customer x.c).got ++ [x.m], tag := x.tag, v := x.v } : Customer) else { a.customer x.c with got := (a.customer x.c).got ++ [x.m] }) = y
      split
      · exact z
      · have q := asked_len (a.setC x.c y) x.c
        exact ⟨q.1, congrArg List.length q.2.1, q.2.2⟩
  split
  · exact z
  · split <;> exact z
theorem drop_len (a : Abs) (i : Nat) : (a.drop i).msgs.length ≤ a.msgs.length := List.length_eraseIdx_le ..
theorem deliver_len (a : Abs) (i : Nat) (h1 : 1 ≤ a.machines.length) : (a.deliver i).1.msgs.length ≤ a.msgs.length + a.machines.length ∧ (a.deliver i).1.machines.length = a.machines.length ∧ (a.deliver i).1.time = a.time := by
  have q := comes_len (a.drop i) (a.msg i) h1
  exact ⟨Nat.le_trans q.1 (Nat.add_le_add_right (drop_len a i) _), q.2⟩
theorem alone_len (c : Nat) : ∀ (f : Nat) (a : Abs) (d : Nat), 1 ≤ a.machines.length → (Abs.alone c f a d).1.msgs.length ≤ a.msgs.length + f * a.machines.length ∧ (Abs.alone c f a d).1.time = a.time
  | 0, a, d, _ => ⟨by rw [Nat.zero_mul]; exact Nat.le_refl _, rfl⟩
  | f + 1, a, d, h1 => by
    unfold Abs.alone
    split
    · exact ⟨Nat.le_add_right _ _, rfl⟩
    · split
      · rename_i i _
        have q := deliver_len a i h1
        have r := alone_len c f (a.deliver i).1 (d + 1) (by rw [q.2.1]; exact h1)
        refine ⟨?_, r.2.trans q.2.2⟩
        have r1 := r.1
        rw [q.2.1] at r1
        rw [Nat.succ_mul]
        omega
      · exact ⟨Nat.le_add_right _ _, rfl⟩
theorem does_len {a : Abs} (g : Good a) {n : Nat} (h : a.msgs.length ≤ 60 + 2000 * n) (x : Call) : (does a x).1.msgs.length ≤ 60 + 2000 * (n + 1) := by
  have g5 := g.n
  have keep : a.msgs.length ≤ 60 + 2000 * (n + 1) := by omega
  cases x with
  | begin_ n c q t on =>
    unfold Su153.does
    dsimp only
    split
    · exact keep
    · exact Nat.zero_le _
  | write c v =>
    unfold Su153.does
    dsimp only
    repeat' split
    all_goals first
      | exact keep
      | (show (a.msgs ++ _).length ≤ _
         rw [List.length_append, calls_len]
         show a.msgs.length + a.machines.length ≤ _
         omega)
  | read c =>
    unfold Su153.does
    dsimp only
    repeat' split
    all_goals first
      | exact keep
      | (show (a.msgs ++ _).length ≤ _
         rw [List.length_append, calls_len]
         show a.msgs.length + a.machines.length ≤ _
         omega)
  | deliver i =>
    unfold Su153.does
    dsimp only
    split
    · exact keep
    · have q := (deliver_len a.tick i g5.1).1
      have e : a.tick.msgs = a.msgs := rfl
      have e2 : a.tick.machines = a.machines := rfl
      rw [e, e2] at q
      show (a.tick.deliver i).1.msgs.length ≤ _
      omega
  | lose i =>
    unfold Su153.does
    dsimp only
    split
    · exact keep
    · exact Nat.le_trans (drop_len a.tick i) keep
  | again i =>
    unfold Su153.does
    dsimp only
    repeat' split
    all_goals first
      | exact keep
      | (rw [send_len]
         show a.msgs.length + 1 ≤ _
         omega)
  | resend c =>
    unfold Su153.does
    dsimp only
    repeat' split
    all_goals first
      | exact keep
      | (rw [send_len, calls_len]
         show a.msgs.length + a.machines.length ≤ _
         omega)
  | alone c =>
    unfold Su153.does
    dsimp only
    split
    · exact keep
    split
    · exact keep
    have q := (alone_len c FUEL a.tick 0 g5.1).1
    have e : a.tick.msgs = a.msgs := rfl
    have e2 : a.tick.machines = a.machines := rfl
    have e3 : FUEL = 400 := rfl
    rw [e, e2, e3] at q
    have : 400 * a.machines.length ≤ 400 * 5 := Nat.mul_le_mul_left _ g5.2
    rw [e3]
    show (Abs.alone c 400 a.tick 0).1.msgs.length ≤ _
    omega
  | halt_ m =>
    unfold Su153.does
    dsimp only
    repeat' split
    all_goals exact keep
  | wake m =>
    unfold Su153.does
    dsimp only
    repeat' split
    all_goals exact keep
  | quit c =>
    unfold Su153.does
    dsimp only
    repeat' split
    all_goals exact keep
  | message i =>
    unfold Su153.does
    dsimp only
    split <;> exact keep
  | machine i =>
    unfold Su153.does
    dsimp only
    split <;> exact keep
  | customer i =>
    unfold Su153.does
    dsimp only
    split <;> exact keep
  | op i =>
    unfold Su153.does
    dsimp only
    split <;> exact keep
  | kept => exact keep
  | why => exact keep
  | order =>
    unfold Su153.does
    dsimp only
    split <;> exact keep
  | since => exact keep
  | now => exact keep
  | safe => exact keep
  | state => exact keep
theorem does_time {a : Abs} (g : Good a) (x : Call) : (does a x).1.time ≤ a.time + 1 := by
  have g5 := g.n
  cases x with
  | deliver i =>
    unfold Su153.does
    dsimp only
    split
    · exact Nat.le_succ _
    · exact Nat.le_of_eq (deliver_len a.tick i g5.1).2.2
  | alone c =>
    unfold Su153.does
    dsimp only
    split
    · exact Nat.le_succ _
    split
    · exact Nat.le_succ _
    exact Nat.le_of_eq (alone_len c FUEL a.tick 0 g5.1).2
  | kept => exact Nat.le_succ _
  | why => exact Nat.le_succ _
  | since => exact Nat.le_succ _
  | now => exact Nat.le_succ _
  | safe => exact Nat.le_succ _
  | state => exact Nat.le_succ _
  | _ =>
    unfold Su153.does
    dsimp only
    repeat' split
    all_goals first
      | exact Nat.le_succ _
      | exact Nat.le_refl _
      | exact Nat.zero_le _
theorem begin_bad {a : Abs} {m p q t on : Nat} (k : okBegin m p q t on = false) : does a (.begin_ m p q t on) = (a, no (-22)) := if_pos k
theorem begin_ok {a : Abs} {m p q t on : Nat} (k : ¬ okBegin m p q t on = false) : does a (.begin_ m p q t on) = (Abs.new m p q t (on == 1), num 0 []) := if_neg k
/-- what holds behind n calls -/
structure Sound (n : Nat) (a : Abs) : Prop where
  good : Good a
  time : a.time ≤ n
  msgs : a.msgs.length ≤ 60 + 2000 * n
def SoundO (n : Nat) (s : Option Abs) : Prop := ∀ a, s = some a → Sound n a
theorem Sound.does {n : Nat} {a : Abs} (h : Sound n a) (x : Call) : Sound (n + 1) (does a x).1 :=
  ⟨h.good.does x, Nat.le_trans (does_time h.good x) (Nat.succ_le_succ h.time), does_len h.good h.msgs x⟩
theorem SoundO.step {n : Nat} {s : Option Abs} (h : SoundO n s) (x : Call) : SoundO (n + 1) (step s x).1 := by
  cases s with
  | some a =>
    intro b e
    have e : some (does a x).1 = some b := by cases x <;> exact e
    cases e
    exact (h a rfl).does x
  | none =>
    intro b e
    cases x with
    | begin_ m p q t on =>
      have e : (if (does (Abs.new 1 1 1 1 true) (.begin_ m p q t on)).2.value < 0 then none else some (does (Abs.new 1 1 1 1 true) (.begin_ m p q t on)).1) = some b := e
      by_cases k : okBegin m p q t on = false
      · rw [begin_bad k] at e
        exact absurd e (by intro z; cases z)
      · rw [begin_ok k] at e
        have e : some (Abs.new m p q t (on == 1)) = some b := e
        cases e
        exact ⟨Good.new (by simpa using k), Nat.zero_le _, Nat.zero_le _⟩
    | _ => cases e
end Ea

/-! What comes does to its customer; alone. -/
namespace Ea
open Su153
structure Came (c k : Nat) (z : Customer) (r : Abs × Nat) : Prop where
  le : r.2 ≤ 4
  at_ : ∃ z', r.1.customers[c]? = some z' ∧ z'.k = z.k ∧ (r.2 = 4 → z.k = k ∧ z'.st = 0) ∧ (r.2 ≠ 4 → z.st = 1 ∨ z.st = 2 → z'.st = 1 ∨ z'.st = 2)
theorem ended_came {a : Abs} {c k : Nat} {z y : Customer} {o : Op} (hz : a.customers[c]? = some z) (hk : y.k = z.k) (ho : a.ops[z.k]? = some o) (hkk : z.k = k) : Came c k z ((a.setC c y).ended c, 4) := by
  rw [ended_set hz (by rw [hk]; exact ho)]
  refine ⟨Nat.le_refl _, ⟨0, y.k, [], none_, 0⟩, ?_, hk, fun _ => ⟨hkk, rfl⟩, fun h => absurd rfl h⟩
  show (a.customers.set c _)[c]? = _
  rw [List.getElem?_set, if_pos rfl, if_pos (lt_of_get hz)]
theorem asked_came {a : Abs} {c k : Nat} {z y : Customer} {o : Op} (hz : a.customers[c]? = some z) (hk : y.k = z.k) (ho : a.ops[z.k]? = some o) (hkk : z.k = k) : Came c k z ((a.setC c y).asked c) := by
  rw [asked_set hz (by rw [hk]; exact ho)]
  by_cases h : o.wr = false ∧ a.on = false
  · rw [if_pos h]
    exact ended_came hz hk ho hkk
  · rw [if_neg h]
    refine ⟨(by decide : 3 ≤ 4), tells o c y, setC_at hz, by rw [tells_k, hk], (fun e => (by cases e)), fun _ _ => .inr ?_⟩
    unfold tells
    split <;> rfl
theorem same_came {a : Abs} {c k e : Nat} {z : Customer} (hz : a.customers[c]? = some z) (he : e ≤ 3) : Came c k z (a, e) :=
  ⟨Nat.le_trans he (by decide), z, hz, rfl, fun h => absurd he (by have : e = 4 := h; omega), fun _ h => h⟩
theorem set_came {a : Abs} {c k e : Nat} {z y : Customer} (hz : a.customers[c]? = some z) (hk : y.k = z.k) (hs : y.st = z.st) (he : e ≤ 3) : Came c k z (a.setC c y, e) :=
  ⟨Nat.le_trans he (by decide), y, setC_at hz, hk, fun h => absurd he (by have : e = 4 := h; omega), fun _ h => by rw [hs]; exact h⟩
theorem comes_came {a : Abs} (g : Good a) {x : Msg} {z : Customer} (ok : MsgOk a x) (hz : a.customers[x.c]? = some z) : Came x.c x.k z (a.comes x) := by
  have q := g.cust _ z hz
  unfold Abs.comes
  dsimp only
  rw [customer_at hz]
  split
  · split
    · exact same_came (a := a.send _) hz (by decide)
    · exact same_came hz (by decide)
  split
  · split
    · split
      · exact same_came (a := (a.setM _ _).send _) hz (by decide)
      · exact same_came (a := a.send _) hz (by decide)
    · exact same_came hz (by decide)
  split
  · split
    · exact same_came hz (by decide)
    · rename_i w
      have w1 : z.st = 1 := Classical.not_not.mp fun e => w (.inl e)
      have w2 : z.k = x.k := Classical.not_not.mp fun e => w (.inr (.inl e))
      obtain ⟨o, ho, _⟩ := q.op (.inl w1)
      generalize hy : (if newer x.tag z.tag = true then ({ z with got := z.got ++ [x.m], tag := x.tag, v := x.v } : Customer) else { z with got := z.got ++ [x.m] }) = y
      have hyk : y.k = z.k ∧ y.st = z.st := by
        rw [← hy]
        split <;> exact ⟨rfl, rfl⟩
      split
      · exact set_came hz hyk.1 hyk.2 (by decide)
      · exact asked_came hz hyk.1 ho w2
  split
  · exact same_came hz (by decide)
  · rename_i w
    have w1 : z.st = 2 := Classical.not_not.mp fun e => w (.inl e)
    have w2 : z.k = x.k := Classical.not_not.mp fun e => w (.inr (.inl e))
    obtain ⟨o, ho, _⟩ := q.op (.inr w1)
    split
    · exact set_came hz rfl rfl (by decide)
    · exact ended_came hz rfl ho w2
theorem deliver_came {a : Abs} (g : Good a) {i : Nat} {x : Msg} {z : Customer} (hx : a.msgs[i]? = some x) (hz : a.customers[x.c]? = some z) : Came x.c x.k z (a.deliver i) := by
  have ok := g.msg x (List.mem_of_getElem? hx)
  unfold Abs.deliver
  rw [msg_at hx]
  exact comes_came (g.drop i) (ok.drop i) hz
/-- the place of the first message of an operation -/
theorem find_same {a : Abs} (g : Good a) {c : Nat} {z : Customer} (hz : a.customers[c]? = some z) (hb : z.st = 1 ∨ z.st = 2) :
    a.msgs.findIdx? (fun x => x.c == c && x.k == (a.customer c).k) = a.msgs.findIdx? (fun x => x.k == z.k) := by
  rw [customer_at hz]
  obtain ⟨o, ho, hw, _⟩ := (g.cust c z hz).op hb
  have key : ∀ l : List Msg, (∀ x ∈ l, x ∈ a.msgs) → l.findIdx? (fun x => x.c == c && x.k == z.k) = l.findIdx? (fun x => x.k == z.k) := by
    intro l
    induction l with
    | nil => intro _; rfl
    | cons x l ih =>
      intro h
      have e : (x.c == c && x.k == z.k) = (x.k == z.k) := by
        by_cases ek : x.k = z.k
        · obtain ⟨p, hp, hpw⟩ := (g.msg x (h x (List.mem_cons_self ..))).op
          rw [ek, ho] at hp
          cases hp
          have : x.c = c := hpw.symm.trans hw
          simp [this, ek]
        · simp [ek]
      rw [List.findIdx?_cons, List.findIdx?_cons, e, ih fun y hy => h y (List.mem_cons_of_mem _ hy)]
  exact key _ fun _ h => h
/-- one turn of alone -/
theorem alone_none {a : Abs} (g : Good a) {c f d : Nat} {z : Customer} (hz : a.customers[c]? = some z) (hb : z.st = 1 ∨ z.st = 2) (h : a.msgs.findIdx? (fun x => x.k == z.k) = none) : Abs.alone c f a d = (a, d) := by
  cases f with
  | zero => rfl
  | succ f =>
    unfold Abs.alone
    rw [find_same g hz hb, h]
    split <;> rfl
theorem busy_of {a : Abs} {c : Nat} {z : Customer} (hz : a.customers[c]? = some z) : a.busy c = true ↔ z.st = 1 ∨ z.st = 2 := by
  unfold Abs.busy
  rw [customer_at hz]
  simp
theorem alone_some {a : Abs} (g : Good a) {c f d i : Nat} {z : Customer} (hz : a.customers[c]? = some z) (hb : z.st = 1 ∨ z.st = 2) (h : a.msgs.findIdx? (fun x => x.k == z.k) = some i) : Abs.alone c (f + 1) a d = Abs.alone c f (a.deliver i).1 (d + 1) := by
  have e : ¬ a.busy c = false := by rw [(busy_of hz).mpr hb]; decide
  rw [Abs.alone, if_neg e, find_same g hz hb, h]
theorem alone_ended {a : Abs} {c f d : Nat} {z : Customer} (hz : a.customers[c]? = some z) (hb : z.st = 0) : Abs.alone c f a d = (a, d) := by
  cases f with
  | zero => rfl
  | succ f =>
    unfold Abs.alone
    have e : a.busy c = false := by
      unfold Abs.busy
      rw [customer_at hz, hb]
      rfl
    rw [if_pos e]
end Ea
namespace Ea
open Su153
theorem ended_ops (a : Abs) (c : Nat) : (a.ended c).ops.length = a.ops.length := by
  show (a.ops.set _ _).length = _
  rw [List.length_set]
theorem asked_ops (a : Abs) (c : Nat) : (a.asked c).1.ops.length = a.ops.length := by
  unfold Abs.asked
  dsimp only
  split
  · exact ended_ops a c
  · rfl
theorem comes_ops (a : Abs) (x : Msg) : (a.comes x).1.ops.length = a.ops.length := by
  unfold Abs.comes
  dsimp only
  split
  · split <;> rfl
  split
  · split
    · split <;> rfl
    · rfl
  split
  · split
    · rfl
    · generalize (if newer x.tag (a.customer x.c).tag = true then ({ a.customer x.c with got := (a.customer x.c).got ++ [x.m], tag := x.tag, v := x.v } : Customer) else { a.customer x.c with got := (a.customer x.c).got ++ [x.m] }) = y
      split
      · rfl
      · exact asked_ops (a.setC x.c y) x.c
  split
  · rfl
  · split
    · rfl
    · exact ended_ops (a.setC x.c { a.customer x.c with got := (a.customer x.c).got ++ [x.m] }) x.c
theorem deliver_ops (a : Abs) (i : Nat) : (a.deliver i).1.ops.length = a.ops.length := comes_ops (a.drop i) (a.msg i)
end Ea

/-! What was told, by the operations' own numbers: a history is S.map F, S the numbers, the least first, F what each tells. -/
namespace Ea
section
variable (S : List Nat) (F : Nat → Su149.Op)
/-- who counts -/
def cntD (k : Nat) : Bool := (F k).til.isSome || S.any fun j => !(F j).wr && (F j).v == (F k).v
def ofD (v : Nat) : List Nat := S.filter fun k => (F k).v == v && cntD S F k
def valuesD : List Nat := (List.range 41).filter fun v => v == 0 || S.any fun k => cntD S F k && ((F k).wr && (F k).v == v)
def firstD (v : Nat) : Nat := if v = 0 then 0 else (ofD S F v).foldl (fun m k => min m (F k).upto) 1000001
def lastD (v : Nat) : Nat := (ofD S F v).foldl (fun m k => max m (F k).since) 0
def clashD (u v : Nat) : Bool := u != v && (decide (firstD S F u < lastD S F v) && decide (firstD S F v < lastD S F u))
def writtenD (v : Nat) : Bool := S.any fun j => (F j).wr && (F j).v == v
def nowhereD (k : Nat) : Bool := !(F k).wr && ((F k).v != 0 && !(writtenD S F (F k).v))
def earlyD (j k : Nat) : Bool := (F j).wr && (!(F k).wr && ((F j).v == (F k).v && decide ((F k).upto < (F j).since)))
def firstNowhereD : Option Nat := S.find? (nowhereD S F)
def firstEarlyD : Option (Nat × Nat) := (S.flatMap fun k => S.map fun j => (k, j)).find? fun p => earlyD F p.2 p.1
def firstClashD : Option (Nat × Nat) := ((valuesD S F).flatMap fun u => (valuesD S F).map fun v => (u, v)).find? fun p => clashD S F p.1 p.2
def keptD : Bool := (firstNowhereD S F).isNone && ((firstEarlyD S F).isNone && (firstClashD S F).isNone)
def enderD (v : Nat) : List Nat := ((ofD S F v).filter fun k => (F k).upto == firstD S F v).take 1
def beginnerD (v : Nat) : List Nat := ((ofD S F v).filter fun k => (F k).since == lastD S F v).take 1
def writerD (v : Nat) : List Nat := (ofD S F v).filter fun k => (F k).wr
def fewD : List Nat := match firstNowhereD S F with
  | some k => [k]
  | none => match firstEarlyD S F with
    | some p => Su149.sortBy id [p.1, p.2]
    | none => match firstClashD S F with
      | some p => Su149.sortBy id (Su149.once (enderD S F p.1 ++ (beginnerD S F p.1 ++ (writerD S F p.1 ++ (enderD S F p.2 ++ (beginnerD S F p.2 ++ writerD S F p.2))))))
      | none => []
def whyD : Nat := if (firstNowhereD S F).isSome then 1 else if (firstEarlyD S F).isSome then 2 else if (firstClashD S F).isSome then 3 else 0
def inOrderD : Nat → List Nat → List Nat
  | 0, _ => []
  | f + 1, vs => match vs.find? (fun v => !(vs.any fun u => u != v && decide (firstD S F u < lastD S F v))) with
    | some v => v :: inOrderD f (vs.filter fun u => u != v)
    | none => vs
def blockD (v : Nat) : List Nat := writerD S F v ++ Su149.sortBy (fun k => (F k).since) ((ofD S F v).filter fun k => !(F k).wr)
def orderD : List Nat := (inOrderD S F (valuesD S F).length (valuesD S F)).flatMap (blockD S F)
end
/-! ### lists by place -/
theorem range_succ_map (n : Nat) : List.range (n + 1) = 0 :: (List.range n).map (· + 1) := List.range_succ_eq_map
theorem getD_cons_succ {α : Type} (x : α) (l : List α) (i : Nat) (d : α) : (x :: l).getD (i + 1) d = l.getD i d := by
  simp [List.getD_eq_getElem?_getD]
theorem map_range_getD : ∀ (S : List Nat), (List.range S.length).map (fun i => S.getD i 0) = S
  | [] => rfl
  | x :: S => by
    rw [List.length_cons, range_succ_map, List.map_cons, List.map_map]
    have : ((fun i => (x :: S).getD i 0) ∘ (· + 1)) = fun i => S.getD i 0 := by
      funext i
      exact getD_cons_succ x S i 0
    rw [this, map_range_getD S]
    rfl
theorem mem_range_lt {n i : Nat} (h : i ∈ List.range n) : i < n := List.mem_range.mp h
/-- what is picked by place is picked by number -/
theorem filter_by (S : List Nat) {P P' : Nat → Bool} (h : ∀ i, i < S.length → P i = P' (S.getD i 0)) : ((List.range S.length).filter P).map (fun i => S.getD i 0) = S.filter P' := by
  have e : (List.range S.length).filter P = (List.range S.length).filter (P' ∘ fun i => S.getD i 0) := List.filter_congr fun i hi => h i (mem_range_lt hi)
  rw [e, ← List.filter_map, map_range_getD]
theorem find_map_by {α β : Type} (g : α → β) : ∀ (l : List α) (P : α → Bool) (P' : β → Bool), (∀ x ∈ l, P x = P' (g x)) → (l.find? P).map g = (l.map g).find? P'
  | [], _, _, _ => rfl
  | x :: l, P, P', h => by
    rw [List.map_cons, List.find?_cons, List.find?_cons, h x (List.mem_cons_self ..)]
    cases P' (g x) with
    | true => rfl
    | false => exact find_map_by g l P P' fun y hy => h y (List.mem_cons_of_mem _ hy)
theorem any_map_by {α β : Type} (g : α → β) (l : List α) (P : α → Bool) (P' : β → Bool) (h : ∀ x ∈ l, P x = P' (g x)) : l.any P = (l.map g).any P' := by
  rw [List.any_map, Bool.eq_iff_iff, List.any_eq_true, List.any_eq_true]
  constructor
  · rintro ⟨x, hx, p⟩
    exact ⟨x, hx, by rw [← p]; exact (h x hx).symm⟩
  · rintro ⟨x, hx, p⟩
    exact ⟨x, hx, by rw [← p]; exact h x hx⟩
theorem foldl_by {α β γ : Type} (g : α → β) (f : γ → α → γ) (f' : γ → β → γ) : ∀ (l : List α) (c : γ), (∀ x ∈ l, ∀ c, f c x = f' c (g x)) → l.foldl f c = (l.map g).foldl f' c
  | [], _, _ => rfl
  | x :: l, c, h => by
    rw [List.foldl_cons, List.map_cons, List.foldl_cons, h x (List.mem_cons_self ..)]
    exact foldl_by g f f' l _ fun y hy => h y (List.mem_cons_of_mem _ hy)
theorem insert_by {f f' g : Nat → Nat} (k : Nat) : ∀ (l : List Nat), (∀ x ∈ k :: l, f x = f' (g x)) → (Su149.insertBy f k l).map g = Su149.insertBy f' (g k) (l.map g)
  | [], _ => rfl
  | j :: l, h => by
    unfold Su149.insertBy
    rw [h k (List.mem_cons_self ..), h j (List.mem_cons_of_mem _ (List.mem_cons_self ..)), List.map_cons]
    by_cases c : f' (g k) < f' (g j)
    · rw [if_pos c]
      show _ = if f' (g k) < f' (g j) then _ else _
      rw [if_pos c]
      rfl
    · rw [if_neg c]
      show _ = if f' (g k) < f' (g j) then _ else _
      rw [if_neg c, List.map_cons, insert_by k l fun x hx => h x (by
        rcases List.mem_cons.mp hx with rfl | hx
        · exact List.mem_cons_self ..
        · exact List.mem_cons_of_mem _ (List.mem_cons_of_mem _ hx))]
theorem mem_insert {f : Nat → Nat} {k x : Nat} : ∀ {l : List Nat}, x ∈ Su149.insertBy f k l ↔ x = k ∨ x ∈ l
  | [] => by simp [Su149.insertBy]
  | j :: l => by
    unfold Su149.insertBy
    by_cases c : f k < f j
    · rw [if_pos c]
      simp
    · rw [if_neg c, List.mem_cons, mem_insert, List.mem_cons]
      constructor
      · rintro (h | h | h)
        · exact .inr (.inl h)
        · exact .inl h
        · exact .inr (.inr h)
      · rintro (h | h | h)
        · exact .inr (.inl h)
        · exact .inl h
        · exact .inr (.inr h)
theorem sortBy_from {f : Nat → Nat} {x : Nat} : ∀ {l m : List Nat}, x ∈ l.foldl (fun m k => Su149.insertBy f k m) m ↔ x ∈ l ∨ x ∈ m
  | [], m => by simp
  | k :: l, m => by
    rw [List.foldl_cons, sortBy_from, mem_insert, List.mem_cons]
    constructor
    · rintro (h | h | h)
      · exact .inl (.inr h)
      · exact .inl (.inl h)
      · exact .inr h
    · rintro ((h | h) | h)
      · exact .inr (.inl h)
      · exact .inl h
      · exact .inr (.inr h)
theorem mem_sortBy {f : Nat → Nat} {x : Nat} {l : List Nat} : x ∈ Su149.sortBy f l ↔ x ∈ l := by
  unfold Su149.sortBy
  rw [sortBy_from]
  simp
theorem sort_by {f f' g : Nat → Nat} (l : List Nat) (h : ∀ x ∈ l, f x = f' (g x)) : (Su149.sortBy f l).map g = Su149.sortBy f' (l.map g) := by
  have key : ∀ (l m : List Nat), (∀ x, x ∈ l ∨ x ∈ m → f x = f' (g x)) → (l.foldl (fun m k => Su149.insertBy f k m) m).map g = (l.map g).foldl (fun m k => Su149.insertBy f' k m) (m.map g) := by
    intro l
    induction l with
    | nil => intro m _; rfl
    | cons k l ih =>
      intro m h
      rw [List.foldl_cons, List.map_cons, List.foldl_cons, ih]
      · rw [insert_by k m fun x hx => h x (by
          rcases List.mem_cons.mp hx with rfl | hx
          · exact .inl (List.mem_cons_self ..)
          · exact .inr hx)]
      · intro x hx
        rcases hx with hx | hx
        · exact h x (.inl (List.mem_cons_of_mem _ hx))
        · rcases mem_insert.mp hx with rfl | hx
          · exact h x (.inl (List.mem_cons_self ..))
          · exact h x (.inr hx)
  exact key l [] fun x hx => h x (by simpa using hx)
/-- sorted by places is sorted by numbers -/
theorem insert_mono {g : Nat → Nat} (k : Nat) : ∀ (l : List Nat), (∀ x ∈ l, (k < x ↔ g k < g x)) → (Su149.insertBy id k l).map g = Su149.insertBy id (g k) (l.map g)
  | [], _ => rfl
  | j :: l, h => by
    have hj := h j (List.mem_cons_self ..)
    unfold Su149.insertBy
    rw [List.map_cons]
    by_cases c : id k < id j
    · rw [if_pos c]
      show _ = if id (g k) < id (g j) then _ else _
      rw [if_pos (show id (g k) < id (g j) from hj.mp c)]
      rfl
    · rw [if_neg c]
      show _ = if id (g k) < id (g j) then _ else _
      rw [if_neg (show ¬ id (g k) < id (g j) from fun q => c (hj.mpr q)), List.map_cons, insert_mono k l fun x hx => h x (List.mem_cons_of_mem _ hx)]
theorem sort_mono {g : Nat → Nat} (l : List Nat) (h : ∀ x ∈ l, ∀ y ∈ l, (x < y ↔ g x < g y)) : (Su149.sortBy id l).map g = Su149.sortBy id (l.map g) := by
  have key : ∀ (l m : List Nat), (∀ x, (x ∈ l ∨ x ∈ m) → ∀ y, (y ∈ l ∨ y ∈ m) → (x < y ↔ g x < g y)) → (l.foldl (fun m k => Su149.insertBy id k m) m).map g = (l.map g).foldl (fun m k => Su149.insertBy id k m) (m.map g) := by
    intro l
    induction l with
    | nil => intro m _; rfl
    | cons k l ih =>
      intro m h
      rw [List.foldl_cons, List.map_cons, List.foldl_cons, ih]
      · rw [insert_mono k m fun x hx => h k (.inl (List.mem_cons_self ..)) x (.inr hx)]
      · have up : ∀ {x}, (x ∈ l ∨ x ∈ Su149.insertBy id k m) → x ∈ k :: l ∨ x ∈ m := fun {x} hx => by
          rcases hx with hx | hx
          · exact .inl (List.mem_cons_of_mem _ hx)
          · rcases mem_insert.mp hx with rfl | hx
            · exact .inl (List.mem_cons_self ..)
            · exact .inr hx
        exact fun x hx y hy => h x (up hx) y (up hy)
  exact key l [] fun x hx y hy => h x (by simpa using hx) y (by simpa using hy)
theorem mem_once {x : Nat} : ∀ {l : List Nat}, x ∈ Su149.once l ↔ x ∈ l
  | [] => by simp [Su149.once]
  | y :: l => by
    unfold Su149.once
    rw [List.mem_cons, List.mem_filter, mem_once, List.mem_cons]
    constructor
    · rintro (h | ⟨h, _⟩)
      · exact .inl h
      · exact .inr h
    · rintro (h | h)
      · exact .inl h
      · by_cases e : x = y
        · exact .inl e
        · exact .inr ⟨h, by simpa using e⟩
theorem once_by {g : Nat → Nat} : ∀ (l : List Nat), (∀ x ∈ l, ∀ y ∈ l, g x = g y → x = y) → (Su149.once l).map g = Su149.once (l.map g)
  | [], _ => rfl
  | y :: l, h => by
    unfold Su149.once
    rw [List.map_cons, List.map_cons]
    show g y :: _ = g y :: (Su149.once (l.map g)).filter _
    rw [← once_by l fun a ha b hb => h a (List.mem_cons_of_mem _ ha) b (List.mem_cons_of_mem _ hb), List.filter_map]
    congr 2
    refine List.filter_congr fun x hx => ?_
    have hx := mem_once.mp hx
    show (x != y) = (g x != g y)
    by_cases e : x = y
    · rw [e]
      simp
    · have : g x ≠ g y := fun q => e (h x (List.mem_cons_of_mem _ hx) y (List.mem_cons_self ..) q)
      rw [bne_iff_ne.mpr e, bne_iff_ne.mpr this]
/-! ### the specification's words over S.map F -/
section
variable {S : List Nat} {F : Nat → Su149.Op}
theorem op_map {i : Nat} (h : i < S.length) : Su149.op (S.map F) i = F (S.getD i 0) := by
  unfold Su149.op
  rw [List.getD_eq_getElem?_getD, List.getD_eq_getElem?_getD, List.getElem?_map, List.getElem?_eq_getElem h]
  rfl
theorem any_F (P : Su149.Op → Bool) : (S.map F).any P = S.any fun k => P (F k) := by
  rw [List.any_map]
  rfl
theorem counts_map {i : Nat} (h : i < S.length) : Su149.counts (S.map F) i = cntD S F (S.getD i 0) := by
  unfold Su149.counts cntD
  rw [op_map h, any_F]
abbrev num (S : List Nat) : Nat → Nat := fun i => S.getD i 0
theorem of_lt {v i : Nat} (h : i ∈ Su149.of (S.map F) v) : i < S.length := by
  unfold Su149.of at h
  have := mem_range_lt (List.mem_filter.mp h).1
  rwa [List.length_map] at this
theorem of_map (v : Nat) : (Su149.of (S.map F) v).map (num S) = ofD S F v := by
  unfold Su149.of ofD
  rw [List.length_map]
  refine filter_by S fun i hi => ?_
  rw [op_map hi, counts_map hi]
theorem first_map (v : Nat) : Su149.first (S.map F) v = firstD S F v := by
  unfold Su149.first firstD
  by_cases e : v = 0
  · rw [if_pos e, if_pos e]
  · rw [if_neg e, if_neg e, ← of_map]
    exact foldl_by (num S) _ _ _ _ fun x hx c => by rw [op_map (of_lt hx)]
theorem last_map (v : Nat) : Su149.last (S.map F) v = lastD S F v := by
  unfold Su149.last lastD
  rw [← of_map]
  exact foldl_by (num S) _ _ _ _ fun x hx c => by rw [op_map (of_lt hx)]
theorem before_map (u v : Nat) : Su149.before (S.map F) u v = decide (firstD S F u < lastD S F v) := by
  unfold Su149.before
  rw [first_map, last_map]
theorem clash_map (u v : Nat) : Su149.clash (S.map F) u v = clashD S F u v := by
  unfold Su149.clash clashD
  rw [before_map, before_map]
theorem values_map : Su149.values (S.map F) = valuesD S F := by
  unfold Su149.values valuesD
  refine List.filter_congr fun v _ => ?_
  congr 1
  unfold Su149.playing
  rw [List.any_filter, List.length_map, any_map_by (num S) (P' := fun k => cntD S F k && ((F k).wr && (F k).v == v)), map_range_getD]
  intro i hi
  have hi := mem_range_lt hi
  rw [counts_map hi, op_map hi]
theorem written_map (v : Nat) : Su149.written (S.map F) v = writtenD S F v := by
  unfold Su149.written writtenD
  exact any_F _
theorem all_lt {i : Nat} (h : i ∈ Su149.all (S.map F)) : i < S.length := by
  unfold Su149.all at h
  have := mem_range_lt h
  rwa [List.length_map] at this
theorem all_map : (Su149.all (S.map F)).map (num S) = S := by
  unfold Su149.all
  rw [List.length_map]
  exact map_range_getD S
theorem nowhere_map {i : Nat} (h : i < S.length) : Su149.nowhere (S.map F) i = nowhereD S F (S.getD i 0) := by
  unfold Su149.nowhere nowhereD
  rw [op_map h, written_map]
theorem early_map {i j : Nat} (hi : i < S.length) (hj : j < S.length) : Su149.early (S.map F) j i = earlyD F (S.getD j 0) (S.getD i 0) := by
  unfold Su149.early earlyD
  rw [op_map hi, op_map hj]
theorem firstNowhere_map : (Su149.firstNowhere (S.map F)).map (num S) = firstNowhereD S F := by
  unfold Su149.firstNowhere firstNowhereD
  rw [find_map_by (num S) _ _ (nowhereD S F) (fun i hi => nowhere_map (all_lt hi)), all_map]
abbrev num2 (S : List Nat) : Nat × Nat → Nat × Nat := fun p => (S.getD p.1 0, S.getD p.2 0)
theorem pairs_map : ((Su149.all (S.map F)).flatMap fun k => (Su149.all (S.map F)).map fun j => (k, j)).map (num2 S) = S.flatMap fun k => S.map fun j => (k, j) := by
  have e1 : ∀ k, ((Su149.all (S.map F)).map fun j => (k, j)).map (num2 S) = S.map fun j => (num S k, j) := fun k => by
    have z := congrArg (List.map fun j => (num S k, j)) (all_map (S := S) (F := F))
    rw [← z, List.map_map, List.map_map]
    rfl
  have z := congrArg (List.flatMap fun k => S.map fun j => (k, j)) (all_map (S := S) (F := F))
  rw [List.map_flatMap, funext e1, ← z, List.flatMap_map]
theorem mem_pairs {p : Nat × Nat} {l m : List Nat} (h : p ∈ l.flatMap fun k => m.map fun j => (k, j)) : p.1 ∈ l ∧ p.2 ∈ m := by
  obtain ⟨k, hk, hp⟩ := List.mem_flatMap.mp h
  obtain ⟨j, hj, rfl⟩ := List.mem_map.mp hp
  exact ⟨hk, hj⟩
theorem firstEarly_map : (Su149.firstEarly (S.map F)).map (num2 S) = firstEarlyD S F := by
  unfold Su149.firstEarly firstEarlyD
  rw [find_map_by (num2 S) _ _ (fun p => earlyD F p.2 p.1) (fun p hp => ?_), pairs_map]
  have := mem_pairs hp
  exact early_map (all_lt this.1) (all_lt this.2)
theorem firstClash_map : Su149.firstClash (S.map F) = firstClashD S F := by
  unfold Su149.firstClash firstClashD
  rw [values_map]
  congr 1
  funext p
  exact clash_map _ _
theorem kept_map : Su149.kept (S.map F) = keptD S F := by
  unfold Su149.kept keptD
  rw [← firstNowhere_map, ← firstEarly_map, firstClash_map]
  rw [Option.isNone_map, Option.isNone_map]
theorem why_map : Su149.why (S.map F) = whyD S F := by
  unfold Su149.why whyD
  rw [← firstNowhere_map, ← firstEarly_map, firstClash_map, Option.isSome_map, Option.isSome_map]
/-- numbers go up with places -/
def Up (S : List Nat) : Prop := ∀ i j, i < S.length → j < S.length → (i < j ↔ S.getD i 0 < S.getD j 0)
theorem Up.inj (u : Up S) {i j : Nat} (hi : i < S.length) (hj : j < S.length) (e : num S i = num S j) : i = j := by
  have h1 := u i j hi hj
  have h2 := u j i hj hi
  have e : S.getD i 0 = S.getD j 0 := e
  omega
theorem ender_map (v : Nat) : (Su149.ender (S.map F) v).map (num S) = enderD S F v := by
  unfold Su149.ender enderD
  rw [List.map_take, ← of_map, List.filter_map]
  congr 2
  refine List.filter_congr fun i hi => ?_
  show _ = ((F (num S i)).upto == firstD S F v)
  rw [op_map (of_lt hi), first_map]
theorem beginner_map (v : Nat) : (Su149.beginner (S.map F) v).map (num S) = beginnerD S F v := by
  unfold Su149.beginner beginnerD
  rw [List.map_take, ← of_map, List.filter_map]
  congr 2
  refine List.filter_congr fun i hi => ?_
  show _ = ((F (num S i)).since == lastD S F v)
  rw [op_map (of_lt hi), last_map]
theorem writer_map (v : Nat) : (Su149.writer (S.map F) v).map (num S) = writerD S F v := by
  unfold Su149.writer writerD
  rw [← of_map, List.filter_map]
  congr 1
  refine List.filter_congr fun i hi => ?_
  show _ = (F (num S i)).wr
  rw [op_map (of_lt hi)]
theorem ender_lt {v i : Nat} (h : i ∈ Su149.ender (S.map F) v) : i < S.length := by
  unfold Su149.ender at h
  exact of_lt (List.mem_filter.mp (List.mem_of_mem_take h)).1
theorem beginner_lt {v i : Nat} (h : i ∈ Su149.beginner (S.map F) v) : i < S.length := by
  unfold Su149.beginner at h
  exact of_lt (List.mem_filter.mp (List.mem_of_mem_take h)).1
theorem writer_lt {v i : Nat} (h : i ∈ Su149.writer (S.map F) v) : i < S.length := by
  unfold Su149.writer at h
  exact of_lt (List.mem_filter.mp h).1
theorem few_map (u : Up S) : (Su149.few (S.map F)).map (num S) = fewD S F := by
  unfold Su149.few fewD
  rw [← firstNowhere_map, ← firstEarly_map, firstClash_map]
  cases h1 : Su149.firstNowhere (S.map F) with
  | some k => rfl
  | none =>
    cases h2 : Su149.firstEarly (S.map F) with
    | some p =>
      have m : p ∈ (Su149.all (S.map F)).flatMap fun k => (Su149.all (S.map F)).map fun j => (k, j) := by
        unfold Su149.firstEarly at h2
        exact List.mem_of_find?_eq_some h2
      have q := mem_pairs m
      have l1 := all_lt q.1
      have l2 := all_lt q.2
      show (Su149.sortBy id [p.1, p.2]).map (num S) = Su149.sortBy id [(num2 S p).1, (num2 S p).2]
      rw [sort_mono]
      · rfl
      · have lt : ∀ x ∈ [p.1, p.2], x < S.length := fun x hx => by
          simp at hx
          rcases hx with rfl | rfl
          · exact l1
          · exact l2
        exact fun x hx y hy => u x y (lt x hx) (lt y hy)
    | none =>
      show _ = match firstClashD S F with
        | some p => Su149.sortBy id (Su149.once (enderD S F p.1 ++ (beginnerD S F p.1 ++ (writerD S F p.1 ++ (enderD S F p.2 ++ (beginnerD S F p.2 ++ writerD S F p.2))))))
        | none => []
      cases firstClashD S F with
      | none => rfl
      | some p =>
        have lt : ∀ x ∈ Su149.ender (S.map F) p.1 ++ (Su149.beginner (S.map F) p.1 ++ (Su149.writer (S.map F) p.1 ++ (Su149.ender (S.map F) p.2 ++ (Su149.beginner (S.map F) p.2 ++ Su149.writer (S.map F) p.2)))), x < S.length := fun x hx => by
          simp only [List.mem_append] at hx
          rcases hx with h | h | h | h | h | h
          · exact ender_lt h
          · exact beginner_lt h
          · exact writer_lt h
          · exact ender_lt h
          · exact beginner_lt h
          · exact writer_lt h
        show (Su149.sortBy id _).map (num S) = _
        rw [sort_mono _ fun x hx y hy => u x y (lt x (mem_once.mp hx)) (lt y (mem_once.mp hy)), once_by _ fun x hx y hy e => u.inj (lt x hx) (lt y hy) e]
        simp only [List.map_append, ender_map, beginner_map, writer_map]
theorem inOrder_map : ∀ (f : Nat) (vs : List Nat), Su149.inOrder (S.map F) f vs = inOrderD S F f vs
  | 0, _ => rfl
  | f + 1, vs => by
    unfold Su149.inOrder inOrderD
    have e : (fun v => !(vs.any fun u => u != v && Su149.before (S.map F) u v)) = fun v => !(vs.any fun u => u != v && decide (firstD S F u < lastD S F v)) := by
      funext v
      congr 2
      funext u
      rw [before_map]
    rw [e]
    cases vs.find? fun v => !(vs.any fun u => u != v && decide (firstD S F u < lastD S F v)) with
    | none => rfl
    | some v =>
      show v :: _ = v :: _
      rw [inOrder_map f]
theorem block_map (v : Nat) : (Su149.block (S.map F) v).map (num S) = blockD S F v := by
  unfold Su149.block blockD
  rw [List.map_append, writer_map, sort_by (f' := fun k => (F k).since) (g := num S), ← of_map, List.filter_map]
  · congr 2
    congr 1
    refine List.filter_congr fun i hi => ?_
    show _ = !(F (num S i)).wr
    rw [op_map (of_lt hi)]
  · intro i hi
    rw [op_map (of_lt (List.mem_filter.mp hi).1)]
theorem order_map : (Su149.order (S.map F)).map (num S) = orderD S F := by
  unfold Su149.order orderD
  rw [List.map_flatMap, values_map, inOrder_map]
  congr 1
  funext v
  exact block_map v
end
/-! ### the state's own history -/
open Su153 (Abs)
def toldD (a : Abs) (k : Nat) : Bool := (a.op k).wr || (a.op k).til.isSome
def opD (a : Abs) (k : Nat) : Su149.Op := ⟨(a.op k).wr, (a.op k).v, (a.op k).since, (a.op k).til⟩
theorem hist_is (a : Abs) : a.hist = a.shown.map (opD a) := rfl
theorem up_filter_range (P : Nat → Bool) (n : Nat) : Up ((List.range n).filter P) := by
  have pw : ((List.range n).filter P).Pairwise (· < ·) := List.Pairwise.sublist List.filter_sublist List.pairwise_lt_range
  intro i j hi hj
  have gi : ((List.range n).filter P).getD i 0 = ((List.range n).filter P)[i] := by
    rw [List.getD_eq_getElem?_getD, List.getElem?_eq_getElem hi]
    rfl
  have gj : ((List.range n).filter P).getD j 0 = ((List.range n).filter P)[j] := by
    rw [List.getD_eq_getElem?_getD, List.getElem?_eq_getElem hj]
    rfl
  rw [gi, gj]
  have key := List.pairwise_iff_getElem.mp pw
  constructor
  · exact fun h => key i j hi hj h
  · intro h
    rcases Nat.lt_trichotomy i j with q | q | q
    · exact q
    · subst q
      exact absurd h (Nat.lt_irrefl _)
    · exact absurd (key j i hj hi q) (by omega)
theorem up_shown (a : Abs) : Up a.shown := up_filter_range _ _
theorem kept_is (a : Abs) : a.kept = keptD a.shown (opD a) := kept_map
theorem why_is (a : Abs) : Su149.why a.hist = whyD a.shown (opD a) := why_map
theorem few_is (a : Abs) : (Su149.few a.hist).map (fun i => a.shown.getD i 0) = fewD a.shown (opD a) := few_map (up_shown a)
theorem order_is (a : Abs) : (Su149.order a.hist).map (fun i => a.shown.getD i 0) = orderD a.shown (opD a) := order_map
/-! ### what is known at a time -/
def cutF (F : Nat → Su149.Op) (t : Nat) (k : Nat) : Su149.Op := if (F k).upto ≤ t then F k else { F k with til := none }
def cutS (S : List Nat) (F : Nat → Su149.Op) (t : Nat) : List Nat := S.filter fun k => decide ((F k).since ≤ t) && ((F k).wr || decide ((F k).upto ≤ t))
theorem cut_map (S : List Nat) (F : Nat → Su149.Op) (t : Nat) : Su149.cut (S.map F) t = (cutS S F t).map (cutF F t) := by
  unfold Su149.cut cutS
  rw [List.filter_map, List.filter_map, List.map_map, List.filter_filter]
  congr 1
  refine List.filter_congr fun k _ => ?_
  rw [Bool.and_comm]
  rfl
def sinceD (S : List Nat) (F : Nat → Su149.Op) : Nat := ((Su149.sortBy id (S.map fun k => (F k).upto)).find? fun t => decide (t ≤ 1000000) && !(keptD (cutS S F t) (cutF F t))).getD 0
theorem since_map (S : List Nat) (F : Nat → Su149.Op) : Su149.since (S.map F) = sinceD S F := by
  unfold Su149.since sinceD
  have e1 : ((Su149.all (S.map F)).map fun k => (Su149.op (S.map F) k).upto) = S.map fun k => (F k).upto := by
    have z := congrArg (List.map fun k => (F k).upto) (all_map (S := S) (F := F))
    rw [← z, List.map_map]
    refine List.map_congr_left fun i hi => ?_
    rw [op_map (all_lt hi)]
    rfl
  rw [e1]
  congr 2
  funext t
  rw [cut_map, kept_map]
  rfl
theorem since_is (a : Abs) : Su149.since a.hist = sinceD a.shown (opD a) := since_map _ _
end Ea

/-! Sorting by insertion is sorting; among values that don't clash one is the least. -/
namespace Ea
theorem insert_perm (f : Nat → Nat) (k : Nat) : ∀ l : List Nat, (Su149.insertBy f k l).Perm (k :: l)
  | [] => .refl _
  | j :: l => by
    unfold Su149.insertBy
    by_cases c : f k < f j
    · rw [if_pos c]
    · rw [if_neg c]
      exact ((insert_perm f k l).cons j).trans (.swap k j l)
theorem sort_perm (f : Nat → Nat) (l : List Nat) : (Su149.sortBy f l).Perm l := by
  have key : ∀ l m : List Nat, (l.foldl (fun m k => Su149.insertBy f k m) m).Perm (l ++ m) := by
    intro l
    induction l with
    | nil => intro m; exact .refl _
    | cons k l ih =>
      intro m
      rw [List.foldl_cons]
      refine (ih _).trans ?_
      refine ((insert_perm f k m).append_left l).trans ?_
      exact List.perm_middle
  have := key l []
  rwa [List.append_nil] at this
theorem insert_sorted (f : Nat → Nat) (k : Nat) : ∀ l : List Nat, l.Pairwise (fun a b => f a ≤ f b) → (Su149.insertBy f k l).Pairwise (fun a b => f a ≤ f b)
  | [], _ => List.pairwise_singleton ..
  | j :: l, h => by
    unfold Su149.insertBy
    obtain ⟨h1, h2⟩ := List.pairwise_cons.mp h
    by_cases c : f k < f j
    · rw [if_pos c]
      refine List.pairwise_cons.mpr ⟨fun x hx => ?_, h⟩
      rcases List.mem_cons.mp hx with rfl | hx
      · exact Nat.le_of_lt c
      · exact Nat.le_trans (Nat.le_of_lt c) (h1 x hx)
    · rw [if_neg c]
      refine List.pairwise_cons.mpr ⟨fun x hx => ?_, insert_sorted f k l h2⟩
      rcases mem_insert.mp hx with rfl | hx
      · exact Nat.le_of_not_lt c
      · exact h1 x hx
theorem sort_sorted (f : Nat → Nat) (l : List Nat) : (Su149.sortBy f l).Pairwise (fun a b => f a ≤ f b) := by
  have key : ∀ l m : List Nat, m.Pairwise (fun a b => f a ≤ f b) → (l.foldl (fun m k => Su149.insertBy f k m) m).Pairwise (fun a b => f a ≤ f b) := by
    intro l
    induction l with
    | nil => intro m h; exact h
    | cons k l ih =>
      intro m h
      rw [List.foldl_cons]
      exact ih _ (insert_sorted f k m h)
  exact key l [] List.Pairwise.nil
/-- the one sorted list -/
theorem sort_one {l m : List Nat} (p : m.Perm l) (h : m.Pairwise (· ≤ ·)) : m = Su149.sortBy id l :=
  List.Perm.eq_of_pairwise (fun a b _ _ h1 h2 => Nat.le_antisymm h1 h2) h (sort_sorted id l) (p.trans (sort_perm id l).symm)
/-- a list that is in order is its own sort -/
theorem sort_self {f : Nat → Nat} {l : List Nat} (h : l.Pairwise (fun a b => f a < f b)) : Su149.sortBy f l = l :=
  List.Perm.eq_of_pairwise (le := fun a b => f a ≤ f b) (fun a b ha hb h1 h2 => by
    have hb : b ∈ l := hb
    have ha : a ∈ l := (sort_perm f l).mem_iff.mp ha
    have e : f a = f b := Nat.le_antisymm h1 h2
    obtain ⟨i, hi, rfl⟩ := List.mem_iff_getElem.mp ha
    obtain ⟨j, hj, rfl⟩ := List.mem_iff_getElem.mp hb
    have key := List.pairwise_iff_getElem.mp h
    rcases Nat.lt_trichotomy i j with q | q | q
    · have := key i j hi hj q
      omega
    · subst q
      rfl
    · have := key j i hj hi q
      omega) (sort_sorted f l) (h.imp fun q => Nat.le_of_lt q) (sort_perm f l)
/-- of values that don't clash one comes ahead of none of the others' needs -/
theorem least_of {vs : List Nat} {A B : Nat → Nat} (hne : vs ≠ []) (hc : ∀ u ∈ vs, ∀ v ∈ vs, u ≠ v → ¬ (A u < B v ∧ A v < B u)) : ∃ v ∈ vs, ∀ u ∈ vs, u ≠ v → ¬ A u < B v := by
  have hm : ∃ m ∈ vs, ∀ x ∈ vs, A m ≤ A x := by
    clear hc
    induction vs with
    | nil => exact absurd rfl hne
    | cons x l ih =>
      cases l with
      | nil => exact ⟨x, List.mem_cons_self .., fun y hy => by rw [List.mem_singleton.mp hy]; exact Nat.le_refl _⟩
      | cons y l =>
        obtain ⟨m, hm, h⟩ := ih (List.cons_ne_nil _ _)
        by_cases c : A x ≤ A m
        · refine ⟨x, List.mem_cons_self .., fun z hz => ?_⟩
          rcases List.mem_cons.mp hz with rfl | hz
          · exact Nat.le_refl _
          · exact Nat.le_trans c (h z hz)
        · refine ⟨m, List.mem_cons_of_mem _ hm, fun z hz => ?_⟩
          rcases List.mem_cons.mp hz with rfl | hz
          · omega
          · exact h z hz
  obtain ⟨m, hm, hmin⟩ := hm
  by_cases c : ∃ x ∈ vs, x ≠ m ∧ A x < B m
  · obtain ⟨x, hx, hxm, hlt⟩ := c
    refine ⟨x, hx, fun u hu hux h => ?_⟩
    have := hc x hx m hm hxm
    have h1 : ¬ A m < B x := fun q => this ⟨hlt, q⟩
    have := hmin u hu
    omega
  · exact ⟨m, hm, fun u hu hum h => c ⟨u, hu, hum, h⟩⟩
section
variable (S : List Nat) (F : Nat → Su149.Op)
/-- where nothing clashes the order goes on to its end -/
theorem clash_none {u v : Nat} (h : firstClashD S F = none) (hu : u ∈ valuesD S F) (hv : v ∈ valuesD S F) : clashD S F u v = false := by
  unfold firstClashD at h
  have := List.find?_eq_none.mp h (u, v) (List.mem_flatMap.mpr ⟨u, hu, List.mem_map.mpr ⟨v, hv, rfl⟩⟩)
  simpa using this
theorem order_goes {vs : List Nat} (h : firstClashD S F = none) (hs : ∀ v ∈ vs, v ∈ valuesD S F) (hne : vs ≠ []) : ∃ v, vs.find? (fun v => !(vs.any fun u => u != v && decide (firstD S F u < lastD S F v))) = some v ∧ v ∈ vs := by
  obtain ⟨v, hv, h2⟩ := least_of (A := firstD S F) (B := lastD S F) hne (fun u hu v hv n => by
    have c := clash_none S F h (hs u hu) (hs v hv)
    unfold clashD at c
    rw [bne_iff_ne.mpr n] at c
    simp at c
    omega)
  cases e : vs.find? (fun v => !(vs.any fun u => u != v && decide (firstD S F u < lastD S F v))) with
  | some x => exact ⟨x, rfl, List.mem_of_find?_eq_some e⟩
  | none =>
    have := List.find?_eq_none.mp e v hv
    refine absurd ?_ this
    rw [Bool.not_eq_true', List.any_eq_false]
    intro u hu
    by_cases n : u = v
    · simp [n]
    · have := h2 u hu n
      simp
      omega
end
end Ea

/-! A history as the program sees it: what holds of it, and what its loops find. -/
namespace Ea
open Su153 (Abs)
theorem memf {α : Type} {p : α → Bool} {l : List α} {x : α} (h : x ∈ l.filter p) : x ∈ l := (List.mem_filter.mp h).1
theorem find_filter {α : Type} (p q : α → Bool) : ∀ l : List α, (l.filter p).find? q = l.find? fun x => p x && q x
  | [] => rfl
  | x :: l => by
    have ih := find_filter p q l
    cases e : p x with
    | true =>
      rw [List.filter_cons_of_pos e, List.find?_cons, List.find?_cons, e, Bool.true_and, ih]
    | false =>
      rw [List.filter_cons_of_neg (by rw [e]; exact Bool.false_ne_true), List.find?_cons, e, Bool.false_and, ih]
structure Hist (S : List Nat) (F : Nat → Su149.Op) : Prop where
  up : S.Pairwise (· < ·)
  len : S.length ≤ 20
  v : ∀ k ∈ S, (F k).v ≤ 40
  wr : ∀ k ∈ S, (F k).wr = true → 1 ≤ (F k).v
  til : ∀ k ∈ S, ∀ t, (F k).til = some t → 0 < t ∧ t ≤ 1000000
  rd : ∀ k ∈ S, (F k).wr = false → (F k).til.isSome = true
  uniq : ∀ i ∈ S, ∀ j ∈ S, (F i).wr = true → (F j).wr = true → (F i).v = (F j).v → i = j
  mono : ∀ i ∈ S, ∀ j ∈ S, i < j → (F i).since < (F j).since
theorem upto_none {o : Su149.Op} (h : o.til = none) : o.upto = 1000001 := by
  unfold Su149.Op.upto
  rw [h]
  rfl
theorem upto_some {o : Su149.Op} {t : Nat} (h : o.til = some t) : o.upto = t := by
  unfold Su149.Op.upto
  rw [h]
  rfl
theorem Hist.nodup {S : List Nat} {F : Nat → Su149.Op} (h : Hist S F) : S.Nodup := h.up.imp fun q => Nat.ne_of_lt q
theorem Hist.upto {S : List Nat} {F : Nat → Su149.Op} (h : Hist S F) {k : Nat} (hk : k ∈ S) : 0 < (F k).upto ∧ (F k).upto ≤ 1000001 ∧ ((F k).upto < 1000001 ↔ (F k).til.isSome = true) := by
  cases e : (F k).til with
  | none =>
    rw [upto_none e]
    exact ⟨by decide, Nat.le_refl _, ⟨fun q => absurd q (Nat.lt_irrefl _), fun q => by cases q⟩⟩
  | some t =>
    rw [upto_some e]
    have := h.til k hk t e
    exact ⟨this.1, by omega, ⟨fun _ => rfl, fun _ => by omega⟩⟩
/-! ### what is known at a time -/
theorem shown_at {a : Abs} {k : Nat} (h : k ∈ a.shown) : ∃ o, a.ops[k]? = some o ∧ a.op k = o ∧ (o.wr || o.til.isSome) = true := by
  unfold Su153.Abs.shown at h
  obtain ⟨h1, h2⟩ := List.mem_filter.mp h
  obtain ⟨o, ho⟩ := get_of_lt (List.mem_range.mp h1)
  rw [op_at ho] at h2
  exact ⟨o, ho, op_at ho, h2⟩
theorem opD_eq {a : Abs} {k : Nat} {o : Su153.Op} (h : a.op k = o) : opD a k = ⟨o.wr, o.v, o.since, o.til⟩ := by
  unfold opD
  rw [h]
theorem cut_fields (F : Nat → Su149.Op) (t k : Nat) : (cutF F t k).wr = (F k).wr ∧ (cutF F t k).v = (F k).v ∧ (cutF F t k).since = (F k).since := by
  unfold cutF
  split <;> exact ⟨rfl, rfl, rfl⟩
theorem hist_cut {a : Abs} (g : Good a) (ht : a.time ≤ 1000000) {t : Nat} (h6 : t ≤ 1000000) : Hist (cutS a.shown (opD a) t) (cutF (opD a) t) := by
  have mem : ∀ k ∈ cutS a.shown (opD a) t, k ∈ a.shown ∧ ((opD a k).wr || decide ((opD a k).upto ≤ t)) = true := fun k hk => by
    obtain ⟨h1, h2⟩ := List.mem_filter.mp hk
    rw [Bool.and_eq_true] at h2
    exact ⟨h1, h2.2⟩
  have at_ : ∀ k ∈ cutS a.shown (opD a) t, ∃ o, a.ops[k]? = some o ∧ opD a k = ⟨o.wr, o.v, o.since, o.til⟩ := fun k hk => by
    obtain ⟨o, h1, h2, _⟩ := shown_at (mem k hk).1
    exact ⟨o, h1, opD_eq h2⟩
  have cw := fun k => (cut_fields (opD a) t k).1
  have cv := fun k => (cut_fields (opD a) t k).2.1
  have cs := fun k => (cut_fields (opD a) t k).2.2
  refine ⟨?_, ?_, ?_, ?_, ?_, ?_, ?_, ?_⟩
  · exact (List.Pairwise.filter _ ((List.pairwise_lt_range).filter _))
  · have l1 := List.length_filter_le (fun k => decide ((opD a k).since ≤ t) && ((opD a k).wr || decide ((opD a k).upto ≤ t))) a.shown
    have l2 := List.length_filter_le (fun k => (a.op k).wr || (a.op k).til.isSome) (List.range a.ops.length)
    rw [List.length_range] at l2
    exact Nat.le_trans l1 (Nat.le_trans l2 g.ops)
  · intro k hk
    obtain ⟨o, h1, h2⟩ := at_ k hk
    rw [cv, h2]
    exact (g.op k o h1).v
  · intro k hk hw
    obtain ⟨o, h1, h2⟩ := at_ k hk
    rw [cw, h2] at hw
    rw [cv, h2]
    exact (g.op k o h1).wr hw
  · intro k hk u hu
    obtain ⟨o, h1, h2⟩ := at_ k hk
    unfold cutF at hu
    split at hu
    · rw [h2] at hu
      have a1 := (g.op k o h1).til u hu
      have a2 := (g.op k o h1).s1
      omega
    · cases hu
  · intro k hk hw
    have := (mem k hk).2
    rw [cw] at hw
    rw [hw, Bool.false_or] at this
    have := of_decide_eq_true this
    unfold cutF
    rw [if_pos this]
    cases e : (opD a k).til with
    | some u => rfl
    | none =>
      rw [upto_none e] at this
      omega
  · intro i hi j hj h1 h2 h3
    obtain ⟨o, a1, a2⟩ := at_ i hi
    obtain ⟨p, b1, b2⟩ := at_ j hj
    rw [cw, a2] at h1
    rw [cw, b2] at h2
    rw [cv, cv, a2, b2] at h3
    exact g.uniq i j o p a1 b1 h1 h2 h3
  · intro i hi j hj h
    obtain ⟨o, a1, a2⟩ := at_ i hi
    obtain ⟨p, b1, b2⟩ := at_ j hj
    rw [cs, cs, a2, b2]
    exact g.mono i j o p a1 b1 h
theorem cut_now {a : Abs} (g : Good a) : cutS a.shown (opD a) a.time = a.shown ∧ cutF (opD a) a.time = opD a := by
  constructor
  · refine List.filter_eq_self.mpr fun k hk => ?_
    obtain ⟨o, h1, h2, h3⟩ := shown_at hk
    rw [opD_eq h2, Bool.and_eq_true]
    refine ⟨decide_eq_true (g.op k o h1).s2, ?_⟩
    cases ht : o.til with
    | none =>
      rw [ht] at h3
      have : o.wr = true := by simpa using h3
      rw [this]
      rfl
    | some u =>
      have := ((g.op k o h1).til u ht).2
      rw [Bool.or_eq_true]
      exact .inr (decide_eq_true (by rw [upto_some (t := u) rfl]; exact this))
  · funext k
    unfold cutF
    split
    · rfl
    · cases e : (opD a k).til with
      | none =>
        generalize opD a k = z at e
        cases z
        simp only at e
        rw [e]
      | some u =>
        have hk : ∃ o, a.ops[k]? = some o := by
          cases q : a.ops[k]? with
          | some o => exact ⟨o, rfl⟩
          | none =>
            have : a.op k = ⟨0, false, 0, 0, none⟩ := by
              unfold Su153.Abs.op
              rw [List.getD_eq_getElem?_getD, q]
              rfl
            rw [opD_eq this] at e
            cases e
        obtain ⟨o, ho⟩ := hk
        have e2 : o.til = some u := by rw [opD_eq (op_at ho)] at e; exact e
        have := ((g.op k o ho).til u e2).2
        rename_i hn
        rw [upto_some e] at hn
        exact absurd this hn
/-! ### the least, the greatest -/
theorem fold_min {f : Nat → Nat} {m : Nat} : ∀ (l : List Nat) (M : Nat), m ≤ M → (∀ k ∈ l, m ≤ f k) → ((∃ k ∈ l, f k = m) ∨ M = m) → l.foldl (fun m k => min m (f k)) M = m
  | [], M, h, _, e => by
    rcases e with ⟨_, h, _⟩ | e
    · cases h
    · exact e
  | k :: l, M, h, hl, e => by
    rw [List.foldl_cons]
    have hk := hl k (List.mem_cons_self ..)
    refine fold_min l (min M (f k)) (Nat.le_min.mpr ⟨h, hk⟩) (fun j hj => hl j (List.mem_cons_of_mem _ hj)) ?_
    rcases e with ⟨j, hj, ej⟩ | e
    · rcases List.mem_cons.mp hj with rfl | hj
      · right
        omega
      · exact .inl ⟨j, hj, ej⟩
    · right
      omega
theorem fold_max {f : Nat → Nat} {m : Nat} : ∀ (l : List Nat) (M : Nat), M ≤ m → (∀ k ∈ l, f k ≤ m) → ((∃ k ∈ l, f k = m) ∨ M = m) → l.foldl (fun m k => max m (f k)) M = m
  | [], M, h, _, e => by
    rcases e with ⟨_, h, _⟩ | e
    · cases h
    · exact e
  | k :: l, M, h, hl, e => by
    rw [List.foldl_cons]
    have hk := hl k (List.mem_cons_self ..)
    refine fold_max l (max M (f k)) (Nat.max_le.mpr ⟨h, hk⟩) (fun j hj => hl j (List.mem_cons_of_mem _ hj)) ?_
    rcases e with ⟨j, hj, ej⟩ | e
    · rcases List.mem_cons.mp hj with rfl | hj
      · right
        omega
      · exact .inl ⟨j, hj, ej⟩
    · right
      omega
/-! ### the values -/
/-- sorted lists without doubles, of the same members -/
theorem same_sorted {l m : List Nat} (hl : l.Pairwise (· ≤ ·)) (nl : l.Nodup) (hm : m.Pairwise (· < ·)) (h : ∀ x, x ∈ l ↔ x ∈ m) : l = m := by
  have nm : m.Nodup := hm.imp fun q => Nat.ne_of_lt q
  have p : l.Perm m := (List.perm_ext_iff_of_nodup nl nm).mpr h
  exact List.Perm.eq_of_pairwise (le := (· ≤ ·)) (fun a b _ _ h1 h2 => Nat.le_antisymm h1 h2) hl (hm.imp fun q => Nat.le_of_lt q) p
section
variable {S : List Nat} {F : Nat → Su149.Op}
def cntL (S : List Nat) (F : Nat → Su149.Op) : List Nat := S.filter (cntD S F)
theorem ofD_cnt (v : Nat) : ofD S F v = (cntL S F).filter fun k => (F k).v == v := by
  unfold ofD cntL
  rw [List.filter_filter]
/-- the keys as the program writes them -/
def keysL (S : List Nat) (F : Nat → Su149.Op) : List Nat := 0 :: ((cntL S F).filter fun k => (F k).wr).map fun k => (F k).v
theorem valuesD_lt : (valuesD S F).Pairwise (· < ·) := (List.pairwise_lt_range).filter _
theorem valuesD_nodup : (valuesD S F).Nodup := valuesD_lt.imp fun q => Nat.ne_of_lt q
theorem map_nodup {l : List Nat} {f : Nat → Nat} (hl : l.Nodup) (h : ∀ x ∈ l, ∀ y ∈ l, f x = f y → x = y) : (l.map f).Nodup := by
  unfold List.Nodup
  rw [List.pairwise_map]
  exact List.Pairwise.imp_of_mem (fun hx hy n e => n (h _ hx _ hy e)) hl
theorem Hist.sub (h : Hist S F) {p : Nat → Bool} : Hist (S.filter p) F where
  up := h.up.filter _
  len := Nat.le_trans (List.length_filter_le ..) h.len
  v := fun k hk => h.v k (memf hk)
  wr := fun k hk => h.wr k (memf hk)
  til := fun k hk => h.til k (memf hk)
  rd := fun k hk => h.rd k (memf hk)
  uniq := fun i hi j hj => h.uniq i (memf hi) j (memf hj)
  mono := fun i hi j hj => h.mono i (memf hi) j (memf hj)
/-- the values written are different -/
theorem wrv_nodup (h : Hist S F) : ((S.filter fun k => (F k).wr).map fun k => (F k).v).Nodup :=
  map_nodup (h.sub.nodup) fun x hx y hy e => by
    obtain ⟨hx, wx⟩ := List.mem_filter.mp hx
    obtain ⟨hy, wy⟩ := List.mem_filter.mp hy
    exact h.uniq x hx y hy wx wy e
theorem keysL_nodup (h : Hist S F) : (keysL S F).Nodup := by
  refine List.nodup_cons.mpr ⟨fun h0 => ?_, wrv_nodup h.sub⟩
  obtain ⟨k, hk, e⟩ := List.mem_map.mp h0
  obtain ⟨hk, w⟩ := List.mem_filter.mp hk
  have := h.wr k (memf hk) w
  omega
theorem mem_valuesD (h : Hist S F) {v : Nat} : v ∈ valuesD S F ↔ v ∈ keysL S F := by
  unfold valuesD keysL cntL
  rw [List.mem_filter, List.mem_cons, List.mem_map, List.mem_range, Bool.or_eq_true, List.any_eq_true]
  constructor
  · rintro ⟨_, h0 | ⟨k, hk, q⟩⟩
    · exact .inl (by simpa using h0)
    · rw [Bool.and_eq_true, Bool.and_eq_true] at q
      exact .inr ⟨k, List.mem_filter.mpr ⟨List.mem_filter.mpr ⟨hk, q.1⟩, q.2.1⟩, by simpa using q.2.2⟩
  · rintro (rfl | ⟨k, hk, rfl⟩)
    · exact ⟨by decide, .inl rfl⟩
    · obtain ⟨hk, w⟩ := List.mem_filter.mp hk
      obtain ⟨hk, c⟩ := List.mem_filter.mp hk
      exact ⟨Nat.lt_succ_of_le (h.v k hk), .inr ⟨k, hk, by rw [c, w]; simp⟩⟩
/-- the keys sorted are the values -/
theorem keys_sorted (h : Hist S F) {l : List Nat} (p : l.Perm (keysL S F)) (s : l.Pairwise (· ≤ ·)) : l = valuesD S F :=
  same_sorted s (p.nodup_iff.mpr (keysL_nodup h)) valuesD_lt fun x => by rw [p.mem_iff, mem_valuesD h]
theorem mem_ofD {v k : Nat} : k ∈ ofD S F v ↔ k ∈ S ∧ (F k).v = v ∧ cntD S F k = true := by
  unfold ofD
  rw [List.mem_filter, Bool.and_eq_true, beq_iff_eq]
theorem ofD_ne (h : Hist S F) {v : Nat} (hv : v ∈ valuesD S F) (h0 : v ≠ 0) : ofD S F v ≠ [] := fun e => by
  rw [mem_valuesD h] at hv
  rcases List.mem_cons.mp hv with q | q
  · exact h0 q
  · obtain ⟨k, hk, ev⟩ := List.mem_map.mp q
    obtain ⟨hk, _⟩ := List.mem_filter.mp hk
    obtain ⟨hk, c⟩ := List.mem_filter.mp hk
    have : k ∈ ofD S F v := mem_ofD.mpr ⟨hk, ev, c⟩
    rw [e] at this
    cases this
theorem firstD_is (h : Hist S F) {v m : Nat} (h0 : v ≠ 0) (hm : ∃ k ∈ ofD S F v, (F k).upto = m) (hl : ∀ k ∈ ofD S F v, m ≤ (F k).upto) : firstD S F v = m := by
  unfold firstD
  rw [if_neg h0]
  obtain ⟨k, hk, e⟩ := hm
  have := (h.upto (mem_ofD.mp hk).1).2.1
  exact fold_min _ _ (by omega) hl (.inl ⟨k, hk, e⟩)
theorem lastD_is {v m : Nat} (hm : (∃ k ∈ ofD S F v, (F k).since = m) ∨ 0 = m) (hl : ∀ k ∈ ofD S F v, (F k).since ≤ m) : lastD S F v = m :=
  fold_max _ _ (Nat.zero_le _) hl hm
/-! ### why -/
def R0 (S : List Nat) (F : Nat → Su149.Op) : List Nat := (S.filter fun k => !(F k).wr).filter fun k => (F k).v != 0
theorem nowhere_R0 : firstNowhereD S F = (R0 S F).find? fun k => !(writtenD S F (F k).v) := by
  unfold firstNowhereD R0
  rw [find_filter, find_filter]
  rfl
theorem find_prod {l m : List Nat} {p : Nat × Nat → Bool} : (l.flatMap fun u => m.map fun v => (u, v)).find? p = l.findSome? fun u => (m.find? fun v => p (u, v)).map fun v => (u, v) := by
  rw [List.find?_flatMap]
  congr 1
  funext u
  rw [List.find?_map]
  rfl
theorem findSome_filter {β : Type} {f : Nat → Option β} {p : Nat → Bool} : ∀ (l : List Nat), (∀ k ∈ l, p k = false → f k = none) → l.findSome? f = (l.filter p).findSome? f
  | [], _ => rfl
  | k :: l, h => by
    have ih := findSome_filter l fun j hj => h j (List.mem_cons_of_mem _ hj)
    rw [List.findSome?_cons]
    cases e : p k with
    | true =>
      rw [List.filter_cons_of_pos e, List.findSome?_cons, ih]
    | false =>
      rw [List.filter_cons_of_neg (by rw [e]; exact Bool.false_ne_true), h k (List.mem_cons_self ..) e, ih]
def earlyAt (S : List Nat) (F : Nat → Su149.Op) (k : Nat) : Option Nat := S.find? fun j => earlyD F j k
theorem early_R0 (h : Hist S F) : firstEarlyD S F = (R0 S F).findSome? fun k => (earlyAt S F k).map fun j => (k, j) := by
  have ef : R0 S F = S.filter fun k => ((F k).v != 0) && !(F k).wr := by
    unfold R0
    rw [List.filter_filter]
  unfold firstEarlyD
  rw [find_prod, ef]
  refine findSome_filter S fun k hk hp => ?_
  rw [Option.map_eq_none_iff, List.find?_eq_none]
  intro j hj hE
  have hE : earlyD F j k = true := hE
  unfold earlyD at hE
  rw [Bool.and_eq_true, Bool.and_eq_true, Bool.and_eq_true] at hE
  obtain ⟨w, nw, ev, _⟩ := hE
  rw [nw, Bool.and_true, bne_eq_false_iff_eq] at hp
  have e2 : (F j).v = (F k).v := by simpa using ev
  have := h.wr j hj w
  omega
theorem early_at (h : Hist S F) {k j : Nat} (hj : j ∈ S) (w : (F j).wr = true) (nk : (F k).wr = false) (ev : (F j).v = (F k).v) : earlyAt S F k = if (F k).upto < (F j).since then some j else none := by
  have only : ∀ i ∈ S, earlyD F i k = true → i = j := fun i hi hE => by
    unfold earlyD at hE
    rw [Bool.and_eq_true, Bool.and_eq_true, Bool.and_eq_true] at hE
    obtain ⟨wi, _, evi, _⟩ := hE
    exact h.uniq i hi j hj wi w (by rw [ev]; simpa using evi)
  have atj : earlyD F j k = decide ((F k).upto < (F j).since) := by
    unfold earlyD
    rw [w, nk, ev]
    simp
  split
  · rename_i q
    cases e : earlyAt S F k with
    | none =>
      have := List.find?_eq_none.mp e j hj
      rw [atj] at this
      exact absurd (decide_eq_true q) this
    | some i =>
      rw [only i (List.mem_of_find?_eq_some e) (List.find?_some (p := fun j => earlyD F j k) e)]
  · rename_i q
    refine List.find?_eq_none.mpr fun i hi hE => ?_
    have := only i hi hE
    subst this
    rw [atj] at hE
    exact q (of_decide_eq_true hE)
theorem clash_sym (u v : Nat) : clashD S F u v = clashD S F v u := by
  unfold clashD
  rw [Bool.and_comm (decide (firstD S F u < lastD S F v))]
  congr 1
  exact bne_comm
theorem clash_self (u : Nat) : clashD S F u u = false := by
  unfold clashD
  simp
theorem clash_none_of (h : ∀ u ∈ valuesD S F, ∀ v ∈ valuesD S F, clashD S F u v = false) : firstClashD S F = none := by
  unfold firstClashD
  refine List.find?_eq_none.mpr fun p hp => ?_
  obtain ⟨h1, h2⟩ := mem_pairs hp
  rw [h p.1 h1 p.2 h2]
  exact Bool.false_ne_true
theorem clash_some_of {A B C D : List Nat} {u v : Nat} (e : valuesD S F = A ++ u :: B) (hA : ∀ x ∈ A, ∀ y ∈ valuesD S F, clashD S F x y = false) (eB : valuesD S F = C ++ v :: D) (hC : ∀ y ∈ C, clashD S F u y = false) (h : clashD S F u v = true) : firstClashD S F = some (u, v) := by
  unfold firstClashD
  rw [find_prod]
  have f1 : (valuesD S F).find? (fun y => clashD S F u y) = some v := by
    rw [eB, List.find?_append]
    have : C.find? (fun y => clashD S F u y) = none := List.find?_eq_none.mpr fun y hy => by rw [hC y hy]; exact Bool.false_ne_true
    rw [this, List.find?_cons_of_pos h]
    rfl
  have gen : ∀ L : List Nat, (L = A ++ u :: B) → L.findSome? (fun x => ((valuesD S F).find? fun y => clashD S F x y).map fun y => (x, y)) = some (u, v) := by
    intro L eL
    rw [eL, List.findSome?_append]
    have : A.findSome? (fun x => ((valuesD S F).find? fun y => clashD S F x y).map fun y => (x, y)) = none := by
      rw [List.findSome?_eq_none_iff]
      intro x hx
      rw [Option.map_eq_none_iff, List.find?_eq_none]
      intro y hy
      rw [hA x hx y hy]
      exact Bool.false_ne_true
    rw [this, List.findSome?_cons, f1]
    rfl
  exact gen _ e
/-- sorted, without doubles, of the same members as a list once -/
theorem sort_once {l m : List Nat} (hs : m.Pairwise (· < ·)) (h : ∀ x, x ∈ m ↔ x ∈ l) : m = Su149.sortBy id (Su149.once l) := by
  have nd : ∀ l : List Nat, (Su149.once l).Nodup := by
    intro l
    induction l with
    | nil => exact List.nodup_nil
    | cons x l ih =>
      unfold Su149.once
      refine List.nodup_cons.mpr ⟨fun q => ?_, ih.filter _⟩
      have := (List.mem_filter.mp q).2
      simp at this
  have nm : m.Nodup := hs.imp fun q => Nat.ne_of_lt q
  refine sort_one ((List.perm_ext_iff_of_nodup nm (nd l)).mpr fun x => ?_) (hs.imp fun q => Nat.le_of_lt q)
  rw [h x, mem_once]
/-! ### since -/
theorem since_sorted {E L : List Nat} {P : Nat → Bool} {m : List Nat} (hE : L.filter (fun t => decide (t ≤ 1000000)) = E) (p : m.Perm E) (s : m.Pairwise (· ≤ ·)) :
    (Su149.sortBy id L).find? (fun t => decide (t ≤ 1000000) && P t) = m.find? P := by
  rw [← find_filter (fun t => decide (t ≤ 1000000))]
  congr 1
  have e1 : ((Su149.sortBy id L).filter fun t => decide (t ≤ 1000000)).Perm m := ((sort_perm id L).filter _).trans (hE ▸ p.symm)
  exact List.Perm.eq_of_pairwise (le := (· ≤ ·)) (fun a b _ _ h1 h2 => Nat.le_antisymm h1 h2) ((sort_sorted id L).filter _) s e1
theorem ends_of {a : Abs} (g : Good a) (ht : a.time ≤ 1000000) : (a.shown.map fun k => (opD a k).upto).filter (fun t => decide (t ≤ 1000000)) = ((a.ops.filter fun o => decide (0 < o.til.getD 0)).map fun o => o.til.getD 0) := by
  have key : ∀ (l : List Nat), (∀ k ∈ l, k < a.ops.length) → (((l.filter fun k => (a.op k).wr || (a.op k).til.isSome).map fun k => (opD a k).upto).filter fun t => decide (t ≤ 1000000)) = ((l.map fun k => a.op k).filter fun o => decide (0 < o.til.getD 0)).map fun o => o.til.getD 0 := by
    intro l
    induction l with
    | nil => intro _; rfl
    | cons k l ih =>
      intro h
      have ih := ih fun j hj => h j (List.mem_cons_of_mem _ hj)
      obtain ⟨o, ho⟩ := get_of_lt (h k (List.mem_cons_self ..))
      have eo := op_at ho
      rw [List.map_cons, eo]
      cases e : o.til with
      | some u =>
        have b := (g.op k o ho).til u e
        have s1 := (g.op k o ho).s1
        have eu : (opD a k).upto = u := upto_some (by rw [opD_eq eo]; exact e)
        rw [List.filter_cons_of_pos (by rw [eo, e]; simp), List.map_cons, eu, List.filter_cons_of_pos (p := fun t => decide (t ≤ 1000000)) (decide_eq_true (by omega)), List.filter_cons_of_pos (p := fun o : Su153.Op => decide (0 < o.til.getD 0)) (by rw [e]; exact decide_eq_true (by show 0 < u; omega)), List.map_cons, ih, e]
        rfl
      | none =>
        have eu : (opD a k).upto = 1000001 := upto_none (by rw [opD_eq eo]; exact e)
        have r : ((o :: l.map fun k => a.op k).filter fun o => decide (0 < o.til.getD 0)) = (l.map fun k => a.op k).filter fun o => decide (0 < o.til.getD 0) := List.filter_cons_of_neg (p := fun o : Su153.Op => decide (0 < o.til.getD 0)) (by rw [e]; decide)
        rw [r, ← ih]
        cases w : o.wr with
        | true => rw [List.filter_cons_of_pos (by rw [eo, w]; rfl), List.map_cons, eu, List.filter_cons_of_neg (p := fun t => decide (t ≤ 1000000)) (by decide)]
        | false => rw [List.filter_cons_of_neg (by rw [eo, w, e]; exact Bool.false_ne_true)]
  have e2 : (List.range a.ops.length).map (fun k => a.op k) = a.ops := by
    apply List.ext_getElem
    · rw [List.length_map, List.length_range]
    · intro i h1 h2
      rw [List.getElem_map, List.getElem_range]
      exact op_at (List.getElem?_eq_getElem h2)
  have := key (List.range a.ops.length) fun k hk => List.mem_range.mp hk
  rw [e2] at this
  exact this
/-! ### an order -/
theorem block_is (h : Hist S F) (v : Nat) : blockD S F v = ((ofD S F v).filter fun k => (F k).wr) ++ (ofD S F v).filter fun k => !(F k).wr := by
  unfold blockD writerD
  congr 1
  refine sort_self ?_
  have sub : ∀ k ∈ (ofD S F v).filter (fun k => !(F k).wr), k ∈ S := fun k hk => (mem_ofD.mp (memf hk)).1
  have up : ((ofD S F v).filter fun k => !(F k).wr).Pairwise (· < ·) := ((h.up.filter _).filter _)
  exact List.Pairwise.imp_of_mem (fun hx hy q => h.mono _ (sub _ hx) _ (sub _ hy) q) up
def nextD (S : List Nat) (F : Nat → Su149.Op) (vs : List Nat) (v : Nat) : Bool := !(vs.any fun u => u != v && decide (firstD S F u < lastD S F v))
theorem filter_len {vs : List Nat} {v : Nat} (nd : vs.Nodup) (hv : v ∈ vs) : (vs.filter fun u => u != v).length + 1 = vs.length := by
  induction vs with
  | nil => cases hv
  | cons x l ih =>
    obtain ⟨n1, n2⟩ := List.nodup_cons.mp nd
    by_cases e : x = v
    · subst e
      rw [List.filter_cons_of_neg (by simp)]
      have : (l.filter fun u => u != x) = l := List.filter_eq_self.mpr fun u hu => bne_iff_ne.mpr fun q => n1 (q ▸ hu)
      rw [this]
      rfl
    · rw [List.filter_cons_of_pos (by simpa using e)]
      have hl : v ∈ l := by
        rcases List.mem_cons.mp hv with q | q
        · exact absurd q.symm e
        · exact q
      have := ih n2 hl
      rw [List.length_cons, List.length_cons]
      omega
theorem order_step {vs : List Nat} {v : Nat} (nd : vs.Nodup) (hv : v ∈ vs) (hf : vs.find? (nextD S F vs) = some v) : inOrderD S F vs.length vs = v :: inOrderD S F (vs.filter fun u => u != v).length (vs.filter fun u => u != v) := by
  rw [← filter_len nd hv]
  show (match vs.find? (nextD S F vs) with | some v => _ | none => _) = _
  rw [hf]
theorem order_nil : inOrderD S F ([] : List Nat).length [] = [] := rfl
/-- one value after another -/
theorem order_next {vs : List Nat} (h : firstClashD S F = none) (hs : ∀ v ∈ vs, v ∈ valuesD S F) (hne : vs ≠ []) : ∃ v, vs.find? (nextD S F vs) = some v ∧ v ∈ vs := order_goes S F h hs hne
end
/-! ### just now -/
theorem now_is {a : Abs} (g : Good a) {l : List Nat} {m : List Nat} (nd : l.Nodup) (hl : ∀ v, v ∈ l ↔ ∃ x ∈ a.machines.filter Su153.Machine.up, x.v = v ∧ a.ask ≤ ((a.machines.filter Su153.Machine.up).filter fun k => !(Su153.newer k.tag x.tag)).length)
    (p : m.Perm l) (s : m.Pairwise (· ≤ ·)) : m = a.now := by
  unfold Su153.Abs.now
  refine same_sorted s (p.nodup_iff.mpr nd) ((List.pairwise_lt_range).filter _) fun v => ?_
  rw [p.mem_iff, hl, List.mem_filter, List.mem_range, List.any_eq_true]
  constructor
  · rintro ⟨x, hx, e, q⟩
    obtain ⟨i, hi⟩ := List.getElem?_of_mem (memf hx)
    have := g.mach i x hi
    exact ⟨by omega, x, hx, by rw [e]; simpa using q⟩
  · rintro ⟨_, x, hx, q⟩
    rw [Bool.and_eq_true, beq_iff_eq, decide_eq_true_iff] at q
    exact ⟨x, hx, q.1, q.2⟩
end Ea

/-! How a state lies in the heap. -/
namespace Ea
open PySem PySem.Spec PyProof.Rows L2
/-- the classes' addresses -/
structure CA where
  S : Addr
  M : Addr
  C : Addr
  O : Addr
  G : Addr
def mF (m : Su153.Machine) (tg : Addr) : List (Str × V) := [("up", .bl m.up), ("tag", .ref tg), ("value", .int m.v)]
def cF (z : Su153.Customer) (ct tg : Addr) : List (Str × V) := [("how", .int z.st), ("op", .int z.k), ("counted", .ref ct), ("tag", .ref tg), ("value", .int z.v)]
def oF (o : Su153.Op) : List (Str × V) := [("writing", .bl o.wr), ("customer", .int o.who), ("value", .int o.v), ("began", .int o.since), ("ended", .int (o.til.getD 0 : Nat))]
def gF (x : Su153.Msg) (tg : Addr) : List (Str × V) := [("kind", .int x.kind), ("customer", .int x.c), ("machine", .int x.m), ("op", .int x.k), ("tag", .ref tg), ("value", .int x.v)]
structure Lay where
  mL : Addr
  cL : Addr
  gL : Addr
  oL : Addr
  ms : List Addr
  cs : List Addr
  cts : List Addr
  gs : List Addr
  os : List Addr
def onI (b : Bool) : Int := if b = true then 1 else 0
def sF (a : Su153.Abs) (L : Lay) : List (Str × V) := [("time", .int a.time), ("machines", .ref L.mL), ("customers", .ref L.cL), ("asked", .int a.ask), ("told", .int a.tell), ("on", .int (onI a.on)), ("under_way", .ref L.gL), ("ops", .ref L.oL)]
def tagV (t : Su153.Tag) : List V := [V.int t.n, V.int t.c]
def TagAt (H : Hp) (q : Addr) (t : Su153.Tag) : Prop := H q = some (.tup (tagV t))
def natV (l : List Nat) : List V := l.map fun (n : Nat) => V.int (n : Int)
def MachAt (c : CA) (H : Hp) (q : Addr) (m : Su153.Machine) : Prop := ∃ dx tg, H q = some (.ins c.M dx (mF m tg)) ∧ TagAt H tg m.tag
def CustAt (c : CA) (H : Hp) (q ct : Addr) (z : Su153.Customer) : Prop := ∃ dx tg, H q = some (.ins c.C dx (cF z ct tg)) ∧ TagAt H tg z.tag ∧ H ct = some (.lst (natV z.got))
def OpAt (c : CA) (H : Hp) (q : Addr) (o : Su153.Op) : Prop := ∃ dx, H q = some (.ins c.O dx (oF o))
def MsgAt (c : CA) (H : Hp) (q : Addr) (x : Su153.Msg) : Prop := ∃ dx tg, H q = some (.ins c.G dx (gF x tg)) ∧ TagAt H tg x.tag
structure StoreAt (c : CA) (H : Hp) (st : Addr) (L : Lay) (a : Su153.Abs) : Prop where
  obj : ∃ dx, H st = some (.ins c.S dx (sF a L))
  mL : H L.mL = some (.lst (L.ms.map V.ref))
  cL : H L.cL = some (.lst (L.cs.map V.ref))
  gL : H L.gL = some (.lst (L.gs.map V.ref))
  oL : H L.oL = some (.lst (L.os.map V.ref))
  ml : L.ms.length = a.machines.length
  cl : L.cs.length = a.customers.length
  tl : L.cts.length = a.customers.length
  gl : L.gs.length = a.msgs.length
  ol : L.os.length = a.ops.length
  mAt : ∀ (i : Nat) q m, L.ms[i]? = some q → a.machines[i]? = some m → MachAt c H q m
  cAt : ∀ (i : Nat) q t z, L.cs[i]? = some q → L.cts[i]? = some t → a.customers[i]? = some z → CustAt c H q t z
  gAt : ∀ (i : Nat) q x, L.gs[i]? = some q → a.msgs[i]? = some x → MsgAt c H q x
  oAt : ∀ (i : Nat) q o, L.os[i]? = some q → a.ops[i]? = some o → OpAt c H q o
  mN : L.ms.Nodup
  cN : L.cs.Nodup
  oN : L.os.Nodup
  lN : (L.mL :: L.cL :: L.gL :: L.oL :: L.cts).Nodup
def foot (st : Addr) (L : Lay) : List Addr := st :: L.mL :: L.cL :: L.gL :: L.oL :: (L.ms ++ (L.cs ++ (L.cts ++ L.os)))
/-- what stands elsewhere stands; what the state lies in is of before or new -/
structure Frm (H H' : Hp) (F F' : List Addr) : Prop where
  keep : ∀ b o, H b = some o → b ∉ F → H' b = some o
  foot : ∀ b, b ∈ F' → b ∈ F ∨ H b = none
theorem Frm.refl (H : Hp) (F : List Addr) : Frm H H F F := ⟨fun _ _ h _ => h, fun _ h => .inl h⟩
theorem Frm.trans {H H1 H2 : Hp} {F F1 F2 : List Addr} (a : Frm H H1 F F1) (b : Frm H1 H2 F1 F2) : Frm H H2 F F2 where
  keep := fun x o h n => b.keep x o (a.keep x o h n) fun hx => by
    rcases a.foot x hx with z | z
    · exact n z
    · rw [h] at z
      cases z
  foot := fun x hx => by
    rcases b.foot x hx with z | z
    · exact a.foot x z
    · cases e : H x with
      | none => exact .inr rfl
      | some o =>
        refine .inl (Classical.byContradiction fun n => ?_)
        rw [a.keep x o e n] at z
        cases z
theorem Frm.same {H H' : Hp} {F : List Addr} (s : Same H H') : Frm H H' F F := ⟨fun b o h _ => s b o h, fun _ h => .inl h⟩
/-- only p changes -/
def Chg (p : Addr) (H H' : Hp) : Prop := ∀ b o, H b = some o → b ≠ p → H' b = some o
theorem Chg.upd {p : Addr} {H : Hp} {o : HO} : Chg p H (upd H p o) := fun b u h n => by
  rw [upd_ne n]
  exact h
theorem Chg.frm {p : Addr} {H H' : Hp} {F : List Addr} (k : Chg p H H') (hp : p ∈ F) : Frm H H' F F := ⟨fun b o h n => k b o h fun e => n (e ▸ hp), fun _ h => .inl h⟩
/-- the first attribute's name tells the kind -/
def head : HO → Option Str
  | .ins _ _ ((k, _) :: _) => some k
  | _ => none
theorem ne_head {H : Hp} {p q : Addr} {o o' : HO} (h : H p = some o) (h' : H q = some o') (d : head o ≠ head o') : p ≠ q := fun e => by
  subst e
  rw [h] at h'
  cases h'
  exact d rfl
def tS : Option Str := some "time"
def tM : Option Str := some "up"
def tC : Option Str := some "how"
def tO : Option Str := some "writing"
def tG : Option Str := some "kind"
theorem d_SM : tS ≠ tM := by decide +kernel
theorem d_SC : tS ≠ tC := by decide +kernel
theorem d_SO : tS ≠ tO := by decide +kernel
theorem d_SG : tS ≠ tG := by decide +kernel
theorem d_MC : tM ≠ tC := by decide +kernel
theorem d_MO : tM ≠ tO := by decide +kernel
theorem d_MG : tM ≠ tG := by decide +kernel
theorem d_CO : tC ≠ tO := by decide +kernel
theorem d_CG : tC ≠ tG := by decide +kernel
theorem d_OG : tO ≠ tG := by decide +kernel
theorem d_some {x : Str} : (some x : Option Str) ≠ none := by intro h; cases h
/-- p is no tuple -/
def NoTup (H : Hp) (p : Addr) : Prop := ∀ xs, H p ≠ some (.tup xs)
theorem NoTup.lst {H : Hp} {p : Addr} {xs : List V} (h : H p = some (.lst xs)) : NoTup H p := fun ys e => by rw [h] at e; cases e
theorem NoTup.ins {H : Hp} {p : Addr} {C d : Addr} {fs : List (Str × V)} (h : H p = some (.ins C d fs)) : NoTup H p := fun ys e => by rw [h] at e; cases e
theorem TagAt.keep {H H' : Hp} {p q : Addr} {t : Su153.Tag} (k : Chg p H H') (np : NoTup H p) (h : TagAt H q t) : TagAt H' q t := k _ _ h fun e => by subst e; exact np _ h
theorem MachAt.keep {c : CA} {H H' : Hp} {p q : Addr} {m : Su153.Machine} (k : Chg p H H') (np : NoTup H p) (n : q ≠ p) (h : MachAt c H q m) : MachAt c H' q m :=
  let ⟨dx, tg, h1, h2⟩ := h; ⟨dx, tg, k _ _ h1 n, h2.keep k np⟩
theorem CustAt.keep {c : CA} {H H' : Hp} {p q t : Addr} {m : Su153.Customer} (k : Chg p H H') (np : NoTup H p) (n : q ≠ p) (n2 : t ≠ p) (h : CustAt c H q t m) : CustAt c H' q t m :=
  let ⟨dx, tg, h1, h2, h3⟩ := h; ⟨dx, tg, k _ _ h1 n, h2.keep k np, k _ _ h3 n2⟩
theorem MsgAt.keep {c : CA} {H H' : Hp} {p q : Addr} {m : Su153.Msg} (k : Chg p H H') (np : NoTup H p) (n : q ≠ p) (h : MsgAt c H q m) : MsgAt c H' q m :=
  let ⟨dx, tg, h1, h2⟩ := h; ⟨dx, tg, k _ _ h1 n, h2.keep k np⟩
theorem OpAt.keep {c : CA} {H H' : Hp} {p q : Addr} {m : Su153.Op} (k : Chg p H H') (n : q ≠ p) (h : OpAt c H q m) : OpAt c H' q m :=
  let ⟨dx, h1⟩ := h; ⟨dx, k _ _ h1 n⟩
theorem TagAt.same {H H' : Hp} {q : Addr} {t : Su153.Tag} (s : Same H H') (h : TagAt H q t) : TagAt H' q t := s _ _ h
theorem MachAt.same {c : CA} {H H' : Hp} {q : Addr} {m : Su153.Machine} (s : Same H H') (h : MachAt c H q m) : MachAt c H' q m := let ⟨dx, tg, h1, h2⟩ := h; ⟨dx, tg, s _ _ h1, s _ _ h2⟩
theorem CustAt.same {c : CA} {H H' : Hp} {q t : Addr} {m : Su153.Customer} (s : Same H H') (h : CustAt c H q t m) : CustAt c H' q t m := let ⟨dx, tg, h1, h2, h3⟩ := h; ⟨dx, tg, s _ _ h1, s _ _ h2, s _ _ h3⟩
theorem MsgAt.same {c : CA} {H H' : Hp} {q : Addr} {m : Su153.Msg} (s : Same H H') (h : MsgAt c H q m) : MsgAt c H' q m := let ⟨dx, tg, h1, h2⟩ := h; ⟨dx, tg, s _ _ h1, s _ _ h2⟩
theorem OpAt.same {c : CA} {H H' : Hp} {q : Addr} {m : Su153.Op} (s : Same H H') (h : OpAt c H q m) : OpAt c H' q m := let ⟨dx, h1⟩ := h; ⟨dx, s _ _ h1⟩
section
variable {c : CA} {H H' : Hp} {st : Addr} {L : Lay} {a : Su153.Abs}
theorem StoreAt.same (S : StoreAt c H st L a) (s : Same H H') : StoreAt c H' st L a where
  obj := let ⟨dx, h⟩ := S.obj; ⟨dx, s _ _ h⟩
  mL := s _ _ S.mL
  cL := s _ _ S.cL
  gL := s _ _ S.gL
  oL := s _ _ S.oL
  ml := S.ml
  cl := S.cl
  tl := S.tl
  gl := S.gl
  ol := S.ol
  mAt := fun i q m h1 h2 => (S.mAt i q m h1 h2).same s
  cAt := fun i q t m h1 h2 h3 => (S.cAt i q t m h1 h2 h3).same s
  gAt := fun i q m h1 h2 => (S.gAt i q m h1 h2).same s
  oAt := fun i q m h1 h2 => (S.oAt i q m h1 h2).same s
  mN := S.mN
  cN := S.cN
  oN := S.oN
  lN := S.lN
theorem StoreAt.n (S : StoreAt c H st L a) : L.mL ≠ L.cL ∧ L.mL ≠ L.gL ∧ L.mL ≠ L.oL ∧ L.cL ≠ L.gL ∧ L.cL ≠ L.oL ∧ L.gL ≠ L.oL ∧ L.mL ∉ L.cts ∧ L.cL ∉ L.cts ∧ L.gL ∉ L.cts ∧ L.oL ∉ L.cts ∧ L.cts.Nodup := by
  have h := S.lN
  simp only [List.nodup_cons, List.mem_cons, not_or] at h
  obtain ⟨⟨h1, h2, h3, h4⟩, ⟨h5, h6, h7⟩, ⟨h8, h9⟩, h10, h11⟩ := h
  exact ⟨h1, h2, h3, h5, h6, h8, h4, h7, h9, h10, h11⟩
theorem StoreAt.m_of (S : StoreAt c H st L a) {i : Nat} {q : Addr} (h : L.ms[i]? = some q) : ∃ m, a.machines[i]? = some m ∧ MachAt c H q m := by
  obtain ⟨m, hm⟩ := get_of_lt (l := a.machines) (i := i) (by rw [← S.ml]; exact lt_of_get h)
  exact ⟨m, hm, S.mAt i q m h hm⟩
theorem StoreAt.o_of (S : StoreAt c H st L a) {i : Nat} {q : Addr} (h : L.os[i]? = some q) : ∃ m, a.ops[i]? = some m ∧ OpAt c H q m := by
  obtain ⟨m, hm⟩ := get_of_lt (l := a.ops) (i := i) (by rw [← S.ol]; exact lt_of_get h)
  exact ⟨m, hm, S.oAt i q m h hm⟩
theorem StoreAt.g_of (S : StoreAt c H st L a) {i : Nat} {q : Addr} (h : L.gs[i]? = some q) : ∃ m, a.msgs[i]? = some m ∧ MsgAt c H q m := by
  obtain ⟨m, hm⟩ := get_of_lt (l := a.msgs) (i := i) (by rw [← S.gl]; exact lt_of_get h)
  exact ⟨m, hm, S.gAt i q m h hm⟩
theorem StoreAt.c_of (S : StoreAt c H st L a) {i : Nat} {q : Addr} (h : L.cs[i]? = some q) : ∃ t m, L.cts[i]? = some t ∧ a.customers[i]? = some m ∧ CustAt c H q t m := by
  obtain ⟨m, hm⟩ := get_of_lt (l := a.customers) (i := i) (by rw [← S.cl]; exact lt_of_get h)
  obtain ⟨t, ht⟩ := get_of_lt (l := L.cts) (i := i) (by rw [S.tl]; exact lt_of_get hm)
  exact ⟨t, m, ht, hm, S.cAt i q t m h ht hm⟩
theorem StoreAt.t_of (S : StoreAt c H st L a) {i : Nat} {t : Addr} (h : L.cts[i]? = some t) : ∃ q m, L.cs[i]? = some q ∧ a.customers[i]? = some m ∧ CustAt c H q t m := by
  obtain ⟨m, hm⟩ := get_of_lt (l := a.customers) (i := i) (by rw [← S.tl]; exact lt_of_get h)
  obtain ⟨q, hq⟩ := get_of_lt (l := L.cs) (i := i) (by rw [S.cl]; exact lt_of_get hm)
  exact ⟨q, m, hq, hm, S.cAt i q t m hq h hm⟩
theorem StoreAt.m_at (S : StoreAt c H st L a) {i : Nat} {m : Su153.Machine} (h : a.machines[i]? = some m) : ∃ q, L.ms[i]? = some q ∧ MachAt c H q m := by
  obtain ⟨q, hq⟩ := get_of_lt (l := L.ms) (i := i) (by rw [S.ml]; exact lt_of_get h)
  exact ⟨q, hq, S.mAt i q m hq h⟩
theorem StoreAt.o_at (S : StoreAt c H st L a) {i : Nat} {m : Su153.Op} (h : a.ops[i]? = some m) : ∃ q, L.os[i]? = some q ∧ OpAt c H q m := by
  obtain ⟨q, hq⟩ := get_of_lt (l := L.os) (i := i) (by rw [S.ol]; exact lt_of_get h)
  exact ⟨q, hq, S.oAt i q m hq h⟩
theorem StoreAt.g_at (S : StoreAt c H st L a) {i : Nat} {m : Su153.Msg} (h : a.msgs[i]? = some m) : ∃ q, L.gs[i]? = some q ∧ MsgAt c H q m := by
  obtain ⟨q, hq⟩ := get_of_lt (l := L.gs) (i := i) (by rw [S.gl]; exact lt_of_get h)
  exact ⟨q, hq, S.gAt i q m hq h⟩
theorem StoreAt.c_at (S : StoreAt c H st L a) {i : Nat} {m : Su153.Customer} (h : a.customers[i]? = some m) : ∃ q t, L.cs[i]? = some q ∧ L.cts[i]? = some t ∧ CustAt c H q t m := by
  obtain ⟨q, hq⟩ := get_of_lt (l := L.cs) (i := i) (by rw [S.cl]; exact lt_of_get h)
  obtain ⟨t, ht⟩ := get_of_lt (l := L.cts) (i := i) (by rw [S.tl]; exact lt_of_get h)
  exact ⟨q, t, hq, ht, S.cAt i q t m hq ht h⟩
/-- all that the state lies in is tracked -/
theorem StoreAt.foot_some (S : StoreAt c H st L a) {b : Addr} (h : b ∈ foot st L) : ∃ o, H b = some o ∧ head o ≠ tG ∧ NoTup H b := by
  have lst : ∀ {p : Addr} {xs : List V}, H p = some (.lst xs) → ∃ o, H p = some o ∧ head o ≠ tG ∧ NoTup H p := fun h => ⟨_, h, (fun e => by cases e), .lst h⟩
  unfold foot at h
  simp only [List.mem_cons, List.mem_append] at h
  rcases h with rfl | rfl | rfl | rfl | rfl | h | h | h | h
  · obtain ⟨dx, h⟩ := S.obj
    exact ⟨_, h, d_SG, .ins h⟩
  · exact lst S.mL
  · exact lst S.cL
  · exact lst S.gL
  · exact lst S.oL
  · obtain ⟨i, hi⟩ := List.getElem?_of_mem h
    obtain ⟨m, _, dx, tg, h, _⟩ := S.m_of hi
    exact ⟨_, h, d_MG, .ins h⟩
  · obtain ⟨i, hi⟩ := List.getElem?_of_mem h
    obtain ⟨t, m, _, _, dx, tg, h, _⟩ := S.c_of hi
    exact ⟨_, h, d_CG, .ins h⟩
  · obtain ⟨i, hi⟩ := List.getElem?_of_mem h
    obtain ⟨q, m, _, _, dx, tg, _, _, h⟩ := S.t_of hi
    exact lst h
  · obtain ⟨i, hi⟩ := List.getElem?_of_mem h
    obtain ⟨m, _, dx, h⟩ := S.o_of hi
    exact ⟨_, h, d_OG, .ins h⟩
theorem StoreAt.no_msg (S : StoreAt c H st L a) {q : Addr} {x : Su153.Msg} (h : MsgAt c H q x) : q ∉ foot st L := fun z => by
  obtain ⟨o, h1, h2, _⟩ := S.foot_some z
  obtain ⟨dx, tg, h3, _⟩ := h
  rw [h1] at h3
  cases h3
  exact h2 rfl
theorem StoreAt.no_tup (S : StoreAt c H st L a) {q : Addr} {xs : List V} (h : H q = some (.tup xs)) : q ∉ foot st L := fun z => by
  obtain ⟨o, h1, h2, h3⟩ := S.foot_some z
  exact h3 _ h
/-- a message stands whatever the state does -/
theorem MsgAt.frm {F' : List Addr} {q : Addr} {x : Su153.Msg} (S : StoreAt c H st L a) (f : Frm H H' (foot st L) F') (h : MsgAt c H q x) : MsgAt c H' q x := by
  have n := S.no_msg h
  obtain ⟨dx, tg, h1, h2⟩ := h
  exact ⟨dx, tg, f.keep _ _ h1 n, f.keep _ _ h2 (S.no_tup h2)⟩
/-- the store's own attributes change -/
theorem StoreAt.setS {a' : Su153.Abs} (S : StoreAt c H st L a) (k : Chg st H H') {dx : Addr} (h : H' st = some (.ins c.S dx (sF a' L))) (e1 : a'.machines = a.machines) (e2 : a'.customers = a.customers) (e3 : a'.msgs = a.msgs) (e4 : a'.ops = a.ops) : StoreAt c H' st L a' := by
  obtain ⟨d0, h0⟩ := S.obj
  have nt : NoTup H st := .ins h0
  have nl : ∀ {p : Addr} {xs : List V}, H p = some (.lst xs) → p ≠ st := fun h => ne_head h h0 (fun e => by cases e)
  refine ⟨⟨dx, h⟩, k _ _ S.mL (nl S.mL), k _ _ S.cL (nl S.cL), k _ _ S.gL (nl S.gL), k _ _ S.oL (nl S.oL), by rw [e1]; exact S.ml, by rw [e2]; exact S.cl, by rw [e2]; exact S.tl, by rw [e3]; exact S.gl, by rw [e4]; exact S.ol, ?_, ?_, ?_, ?_, S.mN, S.cN, S.oN, S.lN⟩
  · intro i q m h1 h2
    have z := S.mAt i q m h1 (e1 ▸ h2)
    obtain ⟨_, _, z1, _⟩ := id z
    exact z.keep k nt (ne_head z1 h0 d_SM.symm)
  · intro i q t m h1 h2 h3
    have z := S.cAt i q t m h1 h2 (e2 ▸ h3)
    obtain ⟨_, _, z1, _, z3⟩ := id z
    exact z.keep k nt (ne_head z1 h0 d_SC.symm) (nl z3)
  · intro i q m h1 h2
    have z := S.gAt i q m h1 (e3 ▸ h2)
    obtain ⟨_, _, z1, _⟩ := id z
    exact z.keep k nt (ne_head z1 h0 d_SG.symm)
  · intro i q m h1 h2
    have z := S.oAt i q m h1 (e4 ▸ h2)
    obtain ⟨_, z1⟩ := id z
    exact z.keep k (ne_head z1 h0 d_SO.symm)
/-- a machine changes -/
theorem StoreAt.setM {i : Nat} {p : Addr} {m : Su153.Machine} (S : StoreAt c H st L a) (hp : L.ms[i]? = some p) (k : Chg p H H') (h : MachAt c H' p m) : StoreAt c H' st L (a.setM i m) := by
  obtain ⟨m0, hm0, dx0, tg0, h0, _⟩ := S.m_of hp
  obtain ⟨ds, hs⟩ := S.obj
  have nt : NoTup H p := .ins h0
  have nl : ∀ {q : Addr} {xs : List V}, H q = some (.lst xs) → q ≠ p := fun h => ne_head h h0 (fun e => by cases e)
  refine ⟨⟨ds, k _ _ hs (ne_head hs h0 d_SM)⟩, k _ _ S.mL (nl S.mL), k _ _ S.cL (nl S.cL), k _ _ S.gL (nl S.gL), k _ _ S.oL (nl S.oL), ?_, S.cl, S.tl, S.gl, S.ol, ?_, ?_, ?_, ?_, S.mN, S.cN, S.oN, S.lN⟩
  · show L.ms.length = (a.machines.set i m).length
    rw [List.length_set]
    exact S.ml
  · intro j q y h1 h2
    rcases set_get h2 with ⟨rfl, rfl, _⟩ | ⟨ne, h2⟩
    · rw [hp] at h1
      cases h1
      exact h
    · refine (S.mAt j q y h1 h2).keep k nt fun e => ?_
      subst e
      exact ne (nd_ix S.mN hp h1)
  · intro i q t m h1 h2 h3
    have z := S.cAt i q t m h1 h2 h3
    obtain ⟨_, _, z1, _, z3⟩ := id z
    exact z.keep k nt (ne_head z1 h0 d_MC.symm) (nl z3)
  · intro i q m h1 h2
    have z := S.gAt i q m h1 h2
    obtain ⟨_, _, z1, _⟩ := id z
    exact z.keep k nt (ne_head z1 h0 d_MG.symm)
  · intro i q m h1 h2
    have z := S.oAt i q m h1 h2
    obtain ⟨_, z1⟩ := id z
    exact z.keep k (ne_head z1 h0 d_MO.symm)
/-- an operation changes -/
theorem StoreAt.setO {i : Nat} {p : Addr} {o : Su153.Op} (S : StoreAt c H st L a) (hp : L.os[i]? = some p) (k : Chg p H H') (h : OpAt c H' p o) : StoreAt c H' st L { a with ops := a.ops.set i o } := by
  obtain ⟨m0, hm0, dx0, h0⟩ := S.o_of hp
  obtain ⟨ds, hs⟩ := S.obj
  have nt : NoTup H p := .ins h0
  have nl : ∀ {q : Addr} {xs : List V}, H q = some (.lst xs) → q ≠ p := fun h => ne_head h h0 (fun e => by cases e)
  refine ⟨⟨ds, k _ _ hs (ne_head hs h0 d_SO)⟩, k _ _ S.mL (nl S.mL), k _ _ S.cL (nl S.cL), k _ _ S.gL (nl S.gL), k _ _ S.oL (nl S.oL), S.ml, S.cl, S.tl, S.gl, ?_, ?_, ?_, ?_, ?_, S.mN, S.cN, S.oN, S.lN⟩
  · show L.os.length = (a.ops.set i o).length
    rw [List.length_set]
    exact S.ol
  · intro i q m h1 h2
    have z := S.mAt i q m h1 h2
    obtain ⟨_, _, z1, _⟩ := id z
    exact z.keep k nt (ne_head z1 h0 d_MO)
  · intro i q t m h1 h2 h3
    have z := S.cAt i q t m h1 h2 h3
    obtain ⟨_, _, z1, _, z3⟩ := id z
    exact z.keep k nt (ne_head z1 h0 d_CO) (nl z3)
  · intro i q m h1 h2
    have z := S.gAt i q m h1 h2
    obtain ⟨_, _, z1, _⟩ := id z
    exact z.keep k nt (ne_head z1 h0 d_OG.symm)
  · intro j q y h1 h2
    rcases set_get h2 with ⟨rfl, rfl, _⟩ | ⟨ne, h2⟩
    · rw [hp] at h1
      cases h1
      exact h
    · refine (S.oAt j q y h1 h2).keep k fun e => ?_
      subst e
      exact ne (nd_ix S.oN hp h1)
/-- a customer changes; the list of those counted may be another, new one -/
theorem StoreAt.setC {i : Nat} {p ct : Addr} {z : Su153.Customer} (S : StoreAt c H st L a) (hp : L.cs[i]? = some p) (k : Chg p H H') (h : CustAt c H' p ct z) (hct : L.cts[i]? = some ct ∨ (ct ∉ L.cts ∧ ct ≠ L.mL ∧ ct ≠ L.cL ∧ ct ≠ L.gL ∧ ct ≠ L.oL)) :
    StoreAt c H' st { L with cts := L.cts.set i ct } (a.setC i z) := by
  obtain ⟨t0, m0, ht0, hm0, dx0, tg0, h0, _, _⟩ := S.c_of hp
  obtain ⟨ds, hs⟩ := S.obj
  have nt : NoTup H p := .ins h0
  have nl : ∀ {q : Addr} {xs : List V}, H q = some (.lst xs) → q ≠ p := fun h => ne_head h h0 (fun e => by cases e)
  refine ⟨⟨ds, k _ _ hs (ne_head hs h0 d_SC)⟩, k _ _ S.mL (nl S.mL), k _ _ S.cL (nl S.cL), k _ _ S.gL (nl S.gL), k _ _ S.oL (nl S.oL), S.ml, ?_, ?_, S.gl, S.ol, ?_, ?_, ?_, ?_, S.mN, S.cN, S.oN, ?_⟩
  · show L.cs.length = (a.customers.set i z).length
    rw [List.length_set]
    exact S.cl
  · show (L.cts.set i ct).length = (a.customers.set i z).length
    rw [List.length_set, List.length_set]
    exact S.tl
  · intro i q m h1 h2
    have z := S.mAt i q m h1 h2
    obtain ⟨_, _, z1, _⟩ := id z
    exact z.keep k nt (ne_head z1 h0 d_MC)
  · intro j q t y h1 h2 h3
    rcases set_get h3 with ⟨rfl, rfl, _⟩ | ⟨ne, h3⟩
    · rw [hp] at h1
      cases h1
      rcases set_get h2 with ⟨_, rfl, _⟩ | ⟨ne, _⟩
      · exact h
      · exact absurd rfl ne
    · rcases set_get h2 with ⟨e, _⟩ | ⟨_, h2⟩
      · exact absurd e ne
      · have w := S.cAt j q t y h1 h2 h3
        obtain ⟨_, _, _, _, w3⟩ := id w
        refine w.keep k nt (fun e => ?_) (nl w3)
        subst e
        exact ne (nd_ix S.cN hp h1)
  · intro i q m h1 h2
    have z := S.gAt i q m h1 h2
    obtain ⟨_, _, z1, _⟩ := id z
    exact z.keep k nt (ne_head z1 h0 d_CG.symm)
  · intro i q m h1 h2
    have z := S.oAt i q m h1 h2
    obtain ⟨_, z1⟩ := id z
    exact z.keep k (ne_head z1 h0 d_CO.symm)
  · show (L.mL :: L.cL :: L.gL :: L.oL :: L.cts.set i ct).Nodup
    rcases hct with e | ⟨f0, f1, f2, f3, f4⟩
    · have e2 : L.cts.set i ct = L.cts := by
        apply List.ext_getElem?
        intro j
        rw [List.getElem?_set]
        by_cases q : i = j
        · subst q
          rw [if_pos rfl, if_pos (lt_of_get e), e]
        · rw [if_neg q]
      rw [e2]
      exact S.lN
    · have n := S.n
      have mem : ∀ {b : Addr}, b ∈ L.cts.set i ct → b ∈ L.cts ∨ b = ct := fun hb => List.mem_or_eq_of_mem_set hb
      have nin : ∀ {b : Addr}, b ∉ L.cts → ct ≠ b → b ∉ L.cts.set i ct := fun h1 h2 hb => by
        rcases mem hb with z | z
        · exact h1 z
        · exact h2 z.symm
      have nd : (L.cts.set i ct).Nodup := by
        refine List.pairwise_iff_getElem.mpr fun x y hx hy hxy e => ?_
        have hv : (L.cts.set i ct)[y]? = some (L.cts.set i ct)[y] := List.getElem?_eq_getElem hy
        have hx : (L.cts.set i ct)[x]? = some (L.cts.set i ct)[y] := by rw [← e]; exact List.getElem?_eq_getElem hx
        rcases set_get hv with ⟨q1, q2, _⟩ | ⟨q1, q2⟩
        · rcases set_get hx with ⟨r1, _⟩ | ⟨r1, r2⟩
          · omega
          · exact f0 (q2 ▸ List.mem_of_getElem? r2)
        · rcases set_get hx with ⟨r1, r2, _⟩ | ⟨r1, r2⟩
          · exact f0 (r2 ▸ List.mem_of_getElem? q2)
          · have := nd_ix n.2.2.2.2.2.2.2.2.2.2 r2 q2
            omega
      obtain ⟨n1, n2, n3, n4, n5, n6, n7, n8, n9, n10, _⟩ := n
      simp only [List.nodup_cons, List.mem_cons, not_or]
      exact ⟨⟨n1, n2, n3, nin n7 f1⟩, ⟨n4, n5, nin n8 f2⟩, ⟨n6, nin n9 f3⟩, nin n10 f4, nd⟩
/-- the row of messages changes -/
theorem StoreAt.setG {gs : List Addr} {l : List Su153.Msg} (S : StoreAt c H st L a) (k : Chg L.gL H H') (h : H' L.gL = some (.lst (gs.map V.ref))) (hl : gs.length = l.length) (hg : ∀ (i : Nat) q x, gs[i]? = some q → l[i]? = some x → MsgAt c H q x) :
    StoreAt c H' st { L with gs := gs } { a with msgs := l } := by
  obtain ⟨ds, hs⟩ := S.obj
  have nt : NoTup H L.gL := .lst S.gL
  have ni : ∀ {q C dx : Addr} {f : Str} {v : V} {r : List (Str × V)}, H q = some (.ins C dx ((f, v) :: r)) → q ≠ L.gL := fun h => ne_head h S.gL (fun e => by cases e)
  obtain ⟨n1, n2, n3, n4, n5, n6, n7, n8, n9, n10, n11⟩ := S.n
  refine ⟨⟨ds, k _ _ hs (ni hs)⟩, k _ _ S.mL n2, k _ _ S.cL n4, h, k _ _ S.oL n6.symm, S.ml, S.cl, S.tl, hl, S.ol, ?_, ?_, ?_, ?_, S.mN, S.cN, S.oN, S.lN⟩
  · intro i q m h1 h2
    have z := S.mAt i q m h1 h2
    obtain ⟨_, _, z1, _⟩ := id z
    exact z.keep k nt (ni z1)
  · intro i q t m h1 h2 h3
    have z := S.cAt i q t m h1 h2 h3
    obtain ⟨_, _, z1, _, z3⟩ := id z
    exact z.keep k nt (ni z1) fun e => n9 (e ▸ List.mem_of_getElem? h2)
  · intro i q x h1 h2
    have z := hg i q x h1 h2
    obtain ⟨_, _, z1, _⟩ := id z
    exact z.keep k nt (ni z1)
  · intro i q m h1 h2
    have z := S.oAt i q m h1 h2
    obtain ⟨_, z1⟩ := id z
    exact z.keep k (ni z1)
/-- one operation more -/
theorem StoreAt.addO {p : Addr} {o : Su153.Op} (S : StoreAt c H st L a) (k : Chg L.oL H H') (h : H' L.oL = some (.lst ((L.os ++ [p]).map V.ref))) (ho : OpAt c H p o) (hn : p ∉ L.os) :
    StoreAt c H' st { L with os := L.os ++ [p] } { a with ops := a.ops ++ [o] } := by
  obtain ⟨ds, hs⟩ := S.obj
  have nt : NoTup H L.oL := .lst S.oL
  have ni : ∀ {q C dx : Addr} {f : Str} {v : V} {r : List (Str × V)}, H q = some (.ins C dx ((f, v) :: r)) → q ≠ L.oL := fun h => ne_head h S.oL (fun e => by cases e)
  obtain ⟨n1, n2, n3, n4, n5, n6, n7, n8, n9, n10, n11⟩ := S.n
  refine ⟨⟨ds, k _ _ hs (ni hs)⟩, k _ _ S.mL n3, k _ _ S.cL n5, k _ _ S.gL n6, h, S.ml, S.cl, S.tl, S.gl, ?_, ?_, ?_, ?_, ?_, S.mN, S.cN, ?_, S.lN⟩
  · show (L.os ++ [p]).length = (a.ops ++ [o]).length
    rw [List.length_append, List.length_append, S.ol]
    rfl
  · intro i q m h1 h2
    have z := S.mAt i q m h1 h2
    obtain ⟨_, _, z1, _⟩ := id z
    exact z.keep k nt (ni z1)
  · intro i q t m h1 h2 h3
    have z := S.cAt i q t m h1 h2 h3
    obtain ⟨_, _, z1, _, z3⟩ := id z
    exact z.keep k nt (ni z1) fun e => n10 (e ▸ List.mem_of_getElem? h2)
  · intro i q x h1 h2
    have z := S.gAt i q x h1 h2
    obtain ⟨_, _, z1, _⟩ := id z
    exact z.keep k nt (ni z1)
  · intro i q m h1 h2
    have z : OpAt c H q m := by
      rcases snoc_get h1 with ⟨e1, rfl⟩ | ⟨l1, h1⟩
      · rcases snoc_get h2 with ⟨_, rfl⟩ | ⟨l2, h2⟩
        · exact ho
        · rw [← S.ol] at l2
          omega
      · rcases snoc_get h2 with ⟨e2, rfl⟩ | ⟨l2, h2⟩
        · rw [← S.ol] at e2
          omega
        · exact S.oAt i q m h1 h2
    obtain ⟨_, z1⟩ := id z
    exact z.keep k (ni z1)
  · show (L.os ++ [p]).Nodup
    rw [List.nodup_append]
    exact ⟨S.oN, List.nodup_cons.mpr ⟨(fun h => by cases h), List.nodup_nil⟩, fun x hx y hy e => hn (by cases List.mem_singleton.mp hy; exact e ▸ hx)⟩
/-- the list of those that a customer counts changes -/
theorem StoreAt.setT {i : Nat} {t p : Addr} {l : List Nat} {z : Su153.Customer} (S : StoreAt c H st L a) (hp : L.cs[i]? = some p) (ht : L.cts[i]? = some t) (hz : a.customers[i]? = some z) (k : Chg t H H') (h : H' t = some (.lst (natV l))) :
    StoreAt c H' st L (a.setC i { z with got := l }) := by
  obtain ⟨dz, tg, z1, z2, z3⟩ := S.cAt i p t z hp ht hz
  obtain ⟨ds, hs⟩ := S.obj
  have nt : NoTup H t := .lst z3
  have ni : ∀ {q C dx : Addr} {f : Str} {v : V} {r : List (Str × V)}, H q = some (.ins C dx ((f, v) :: r)) → q ≠ t := fun h => ne_head h z3 (fun e => by cases e)
  obtain ⟨n1, n2, n3, n4, n5, n6, n7, n8, n9, n10, n11⟩ := S.n
  have nl : ∀ {b : Addr}, b ∉ L.cts → b ≠ t := fun h e => h (e ▸ List.mem_of_getElem? ht)
  refine ⟨⟨ds, k _ _ hs (ni hs)⟩, k _ _ S.mL (nl n7), k _ _ S.cL (nl n8), k _ _ S.gL (nl n9), k _ _ S.oL (nl n10), S.ml, ?_, ?_, S.gl, S.ol, ?_, ?_, ?_, ?_, S.mN, S.cN, S.oN, S.lN⟩
  · show L.cs.length = (a.customers.set i _).length
    rw [List.length_set]
    exact S.cl
  · show L.cts.length = (a.customers.set i _).length
    rw [List.length_set]
    exact S.tl
  · intro i q m h1 h2
    have z := S.mAt i q m h1 h2
    obtain ⟨_, _, z1, _⟩ := id z
    exact z.keep k nt (ni z1)
  · intro j q u y h1 h2 h3
    rcases set_get h3 with ⟨rfl, rfl, _⟩ | ⟨ne, h3⟩
    · rw [hp] at h1
      cases h1
      rw [ht] at h2
      cases h2
      exact ⟨dz, tg, k _ _ z1 (ni z1), z2.keep k nt, h⟩
    · have w := S.cAt j q u y h1 h2 h3
      obtain ⟨_, _, w1, _, w3⟩ := id w
      refine w.keep k nt (ni w1) (fun e => ?_)
      subst e
      exact ne (nd_ix n11 ht h2)
  · intro i q x h1 h2
    have z := S.gAt i q x h1 h2
    obtain ⟨_, _, z1, _⟩ := id z
    exact z.keep k nt (ni z1)
  · intro i q m h1 h2
    have z := S.oAt i q m h1 h2
    obtain ⟨_, z1⟩ := id z
    exact z.keep k (ni z1)
end
end Ea

/-! Rules of my own: a written dict with whole numbers for keys, and the call of what stands in it. -/
namespace Ea
open PySem PySem.Spec PyProof.Rows L2
def KeysI : List DictEntry → List Int → Prop
  | [], ks => ks = []
  | _ :: _, [] => False
  | e :: r, k :: ks => (∃ t, e.key = .int k t ∧ e.hash = hashInt k) ∧ KeysI r ks
theorem KeysI.all : ∀ {l : List DictEntry} {ks : List Int}, KeysI l ks → ∀ e ∈ l, ∃ k t, k ∈ ks ∧ e.key = .int k t ∧ e.hash = hashInt k
  | _ :: _, _ :: _, ⟨⟨t, h⟩, _⟩, _, .head _ => ⟨_, t, List.mem_cons_self .., h⟩
  | _ :: _, _ :: _, ⟨_, r⟩, _, .tail _ m => let ⟨k, t, q, h⟩ := r.all _ m; ⟨k, t, List.mem_cons_of_mem _ q, h⟩
/-- what stands at some keys -/
def DAll (es : List DictEntry) : List (Int × Addr) → Prop
  | [] => True
  | (k, a) :: r => (es.find? fun e => Value.isInt k e.key).map (·.val) = some (.ref a) ∧ DAll es r
theorem DAll.at_ {es : List DictEntry} : ∀ {l : List (Int × Addr)}, DAll es l → ∀ p ∈ l, (es.find? fun e => Value.isInt p.1 e.key).map (·.val) = some (.ref p.2)
  | _ :: _, ⟨h, _⟩, _, .head _ => h
  | _ :: _, ⟨_, r⟩, _, .tail _ m => r.at_ _ m
/-- at d a written dict of defs by whole numbers -/
def DctI (K : PySem.W.Frag) (d : Addr) (l : List (Int × Addr)) : Prop := (d == sysModules) = false ∧ ∃ es n, K.lookup d = some ⟨.type "dict", none, .dict es.toArray n, #[]⟩ ∧ KeysI es (l.map Prod.fst) ∧ DAll es l
theorem int_is {j k : Int} {t : Tok} (h : Value.isInt k (.int j t) = true) : j = k := eq_of_beq h
def rIxDI (K : PySem.W.Frag) : R2 := fun x y H Q => ∃ (d : Addr) (l : List (Int × Addr)) (k : Int) (a : Addr), x = .ref d ∧ y = .int k ∧ DctI K d l ∧ (k, a) ∈ l ∧ Q (.ref a) H
section
variable {X : Cx}
theorem ix_dI : IxR X (rIxDI X.K) := by
  intro value slice pins s σ H x y v u Q I rx ry h hs
  obtain ⟨d, l, k, a, rfl, rfl, ⟨hz, es, n, hl, hk, hd⟩, hm, q⟩ := h
  obtain rfl : v = Value.ref d := rx
  obtain ⟨t, rfl⟩ := ry
  have hm0 : s.heap.MapOf (intKind X.prog X.w) d (fun k => findBy Value.isInt es.toArray k) :=
    ⟨_, es.toArray, n, I.kIn _ _ hl, ⟨rfl, rfl, rfl⟩, rfl, fun e he => by
      obtain ⟨k, t, _, e1, e2⟩ := hk.all e (by simpa using he)
      exact ⟨k, by rw [e1]; exact intKind_is X.prog X.w k t, e2⟩, fun _ => rfl⟩
  have hf : findBy Value.isInt es.toArray k = some (.ref a) := by
    unfold findBy
    rw [List.find?_toArray]
    exact hd.at_ _ hm
  exact tail_any hm0.typeIs slot_dict_getitem.lookup (wpAny_getItem_of (intKind_is X.prog X.w k t) hm0 hf ⟨.ref a, H, I.tok _, rfl, q⟩) hs
/-- k in d -/
def rInDI (K : PySem.W.Frag) : R2 := fun x y H Q => ∃ (d : Addr) (l : List (Int × Addr)) (k : Int), x = .int k ∧ y = .ref d ∧ DctI K d l ∧ Q (.bl (decide (k ∈ l.map Prod.fst))) H
theorem op_in_dI : OpR X (compareOp .In) (rInDI X.K) := by
  intro pins s σ H x y v u Q I rx ry h
  obtain ⟨d, l, k, rfl, rfl, ⟨hz, es, n, hl, hk, hd⟩, q⟩ := h
  obtain rfl : u = Value.ref d := ry
  obtain ⟨t, rfl⟩ := rx
  have ho := I.kIn _ _ hl
  have hm0 : s.heap.MapOf (intKind X.prog X.w) d (fun k => findBy Value.isInt es.toArray k) :=
    ⟨_, es.toArray, n, ho, ⟨rfl, rfl, rfl⟩, rfl, fun e he => by
      obtain ⟨k, t, _, e1, e2⟩ := hk.all e (by simpa using he)
      exact ⟨k, by rw [e1]; exact intKind_is X.prog X.w k t, e2⟩, fun _ => rfl⟩
  have hb : (findBy Value.isInt es.toArray k).isSome = decide (k ∈ l.map Prod.fst) := by
    unfold findBy
    rw [List.find?_toArray, Option.isSome_map]
    rw [Bool.eq_iff_iff, decide_eq_true_iff, List.find?_isSome]
    constructor
    · rintro ⟨e, he, hi⟩
      obtain ⟨j, tj, hj, e1, _⟩ := hk.all e he
      rw [e1] at hi
      have : j = k := int_is hi
      exact this ▸ hj
    · intro hm
      obtain ⟨p, hp, rfl⟩ := List.mem_map.mp hm
      have := hd.at_ p hp
      cases e : es.find? (fun e => Value.isInt p.1 e.key) with
      | none =>
        rw [e] at this
        cases this
      | some z => exact ⟨z, List.mem_of_find?_eq_some e, List.find?_some (p := fun e : DictEntry => Value.isInt p.1 e.key) e⟩
  refine wpAny_in_of (intKind_is X.prog X.w k t) hz hm0 ⟨.bl _, H, I.tok _, rfl, ?_⟩
  rw [hb]
  exact q
variable {k : Nat} {e : Expr} {es : List Expr} {fv fs : Expr} {p pos : Pos} {tf : TE} {t : TA}
theorem arm_call_sub (v sl : Expr) (p : Pos) (args : List Expr) (keywords : List Keyword) (pos : Pos) (env : Env) : eval (.Call (.Subscript v sl p) args keywords pos) env = (do
    callWith pos (← eval (.Subscript v sl p) env) [] (backTo pos (starEach args env)) (backToKw pos (keywordEach keywords env))) := rfl
/-- of several defs, the promise goes with the address -/
def tCallX (S : Addr → Sp → Prop) (tf : TE) (t : TA) : TE := fun σ H Q => tf σ H fun x H1 => ∃ f sp, x = .ref f ∧ S f sp ∧ t σ H1 fun vs H2 => sp vs H2 Q (fun _ _ _ => False)
theorem pe_callX {S : Addr → Sp → Prop} (A : ∀ f sp, S f sp → Held X.prog X.w X.K X.mg X.base k f sp) (hr : Room k X.A) (hf : PE X (.Subscript fv fs p) tf) (ha : PA X (e :: es) t)
    (he : starEach (e :: es) X.env = (false, eval e X.env) :: starEach es X.env := by rfl) (hpl : (backTo pos (starEach es X.env)).any (·.1) = false := by rfl) : PE X (.Call (.Subscript fv fs p) (e :: es) [] pos) (tCallX S tf t) := by
  refine ⟨fun pins s σ H Q I h => ?_⟩
  rw [arm_call_sub]
  refine wpAny_bind (thn (hf.run pins s σ H _ I h) fun u s1 ⟨x, H1, I1, r1, f, sp, ex, hS, q1⟩ => ?_)
  subst ex
  obtain rfl : u = Value.ref f := r1
  obtain ⟨fd, ps, F, hk, hb⟩ := (A f sp hS).ex
  refine PySem.W.callWith_K (h₀ := X.base) I1.ok.mod.kin hk (thn (ha.run pos pins s1 σ _ _ I1 q1) fun us s2 ⟨vs, H2, I2, r, q⟩ => ⟨I2.kIn, ?_⟩) he hpl
  refine run_fn (dvs := []) (E := fun _ _ _ => False) F hr hb .nil (fun _ _ _ _ _ _ _ z => z.elim) I2 r ?_
  rw [List.append_nil]
  exact q
end
end Ea

/-! Rules of my own: set(list of whole numbers); max(list, default=d). -/
namespace Ea
open PySem PySem.Spec PyProof.Rows L2
section
variable {P : Program} {w : World} {A : Around} {E : Value → Shared → Prop} {s : Shared}
/-! ### max(xs, default=d), over the library's walk -/
/-- the greatest of whole numbers by their places -/
def gtAt (ns : List Int) (i j : Nat) : Bool := decide (ns.getD i 0 > ns.getD j 0)
theorem call_max_def {a : Addr} {its : List Value} {ns : List Int} {d : Value} {Q : Value → Shared → Prop} (hh : A.handled = none) (hl : s.heap.IsList a its.toArray) (hi : IntsAre its ns)
    (h : ∀ (v : Value) (h' : Heap) (tk : Nat), ((ns = [] ∧ v = d) ∨ ∃ m t, v = .int m t ∧ m ∈ ns ∧ ∀ y ∈ ns, y ≤ m) → (∀ x o, s.heap.get? x = some o → h'.get? x = some o) → Q v { s with heap := h', toks := tk }) :
    wpAny (model P w) A (call (.builtin "max") [.ref a] [(Str.ofString "default", d)]) Q E s := by
  have hsz : its.toArray.size = ns.length := by rw [List.size_toArray]; exact hi.length
  have at_ : ∀ (i : Nat) (v : Value), its.toArray[i]? = some v → ∃ t, v = .int (ns.getD i 0) t := fun i v q => hi.int_at i v (by simpa using q)
  have lt_ : ∀ (i : Nat) (v : Value), its.toArray[i]? = some v → i < ns.length := fun i v q => hsz ▸ (Array.getElem?_eq_some_iff.mp q).1
  refine call_max_walkD (PySem.W.iter_listW (A := A.in1) hh hl fun s2 e W st hfp hw hk => ⟨_, _, _, _, _, _, _, s.heap, gtAt ns, rfl, W, st, hfp, hw, hk, fun hz s' m => ?_, fun hp => ⟨fun i j vi vj s3 Q3 E3 _ hi1 hj1 q => ?_, fun v s' hP m => ?_⟩⟩)
  · obtain ⟨h', tk, rfl, k⟩ := PySem.W.moved_old e rfl m
    exact h d h' tk (.inl ⟨List.eq_nil_of_length_eq_zero (by omega), rfl⟩) k
  · exact CmpOf.ints_gt (P := fun i v => its.toArray[i]? = some v) (fun i => ns.getD i 0) at_ i j vi vj s3 Q3 E3 hi1 hj1 q
  · obtain ⟨h', tk, rfl, k⟩ := PySem.W.moved_old e rfl m
    obtain ⟨t, rfl⟩ := at_ _ v hP
    have lb := lt_ _ _ hP
    have top := (argBest_gt (fun i => ns.getD i 0) (its.toArray.size - 1)).2
    refine h _ h' tk (.inr ⟨_, t, rfl, ?_, fun y hy => ?_⟩) k
    · rw [List.getD_eq_getElem?_getD, List.getElem?_eq_getElem lb]
      exact List.getElem_mem lb
    · obtain ⟨q, hq, rfl⟩ := List.mem_iff_getElem.mp hy
      have := top q (by omega)
      rw [List.getD_eq_getElem?_getD, List.getElem?_eq_getElem hq] at this
      exact this
/-! ### set(xs): the glue -/
/-- a set just made, of no member -/
abbrev freshO (w : World) : Obj := { cls := .type "set", dict := none, data := .set #[] 0 (.fresh 0 0 (!w.params.followText "set-order")) }
/-- s, with another heap -/
def SetDone (w : World) (ns : List Int) (s s' : Shared) : Prop := ∃ (h' : Heap) (tk c : Nat), s' = { s with heap := h', toks := tk } ∧ SetR w h' s.heap.objs.size (fun j => decide (j ∈ ns)) c ∧ c ≤ ns.length ∧ ∀ b o, s.heap.get? b = some o → h'.get? b = some o
/-- the set's own __init__, of a list -/
theorem set_fill {l : Addr} {its : List Value} {ns : List Int} (hh : A.handled = none) (hl : s.heap.IsList l its.toArray) (hi : IntsAre its ns) (hb : ns.length + 1 < scanBound) {R : PySem.Fin → Shared → Prop}
    (h : ∀ s', SetDone w ns s s' → R (.done (.ret .none)) s') :
    wpAny (model P w) A (Builtin.«set.__init__» ⟨[.ref s.heap.objs.size, .ref l], []⟩) R E { s with heap := s.heap.push (freshO w) } := by
  have n1 : its.toArray.size = ns.length := by rw [List.size_toArray]; exact hi.length
  have hS : (s.heap.push (freshO w)).get? s.heap.objs.size = some (freshO w) := Heap.get?_push_size _ rfl
  have hl1 : (s.heap.push (freshO w)).IsList l its.toArray := hl.push _
  have lt : l < s.heap.objs.size := by obtain ⟨_, e, _⟩ := hl; exact Heap.lt_size e
  have z1 : (s.heap.push (freshO w)).objs.size = s.heap.objs.size + 1 := Heap.size_push ..
  obtain ⟨⟨k0, k1, k2, k3⟩, hol, k4, nl, k5⟩ := hl
  simp only at k4 k5
  subst k4
  subst k5
  have ho2 := Heap.get?_push_of_some (freshO w) hol
  have f1 := F.sub_list_set
  have f2 := F.sub_list_frozenset
  have f3 : (Value.type "list" == Value.type "dict") = false := by decide
  unfold Builtin.«set.__init__» noKeywords
  unfold Builtin.Frozenset.updateFrom
  generalize hPI : pyIter = PI
  wp_walk
  subst hPI
  refine wpAny_pyIter_list hl1 (wpAny_bind (wpAny_runValue ?_))
  have nI : l ≠ (s.heap.push (freshO w)).objs.size := by
    rw [z1]
    exact Nat.ne_of_lt (Nat.lt_succ_of_lt lt)
  have nS : s.heap.objs.size ∉ [(s.heap.push (freshO w)).objs.size, l] := by
    rw [z1]
    simp only [List.mem_cons, List.not_mem_nil, or_false, not_or]
    exact ⟨Nat.ne_of_lt (Nat.lt_succ_self _), Nat.ne_of_gt lt⟩
  have hv : ∀ (i : Nat) (v : Value), its.toArray[i]? = some v → ∃ k t, ns[i]? = some k ∧ v = .int k t := fun i v q => by
    have hi' : i < ns.length := by rw [← n1]; exact (Array.getElem?_eq_some_iff.mp q).1
    obtain ⟨t, e⟩ := hi.int_at i v (by simpa using q)
    refine ⟨ns[i], t, List.getElem?_eq_getElem hi', ?_⟩
    rw [e, List.getD_eq_getElem?_getD, List.getElem?_eq_getElem hi']
    rfl
  refine set_update_ints ((Walks.list (by simp [hh]) _ l nI its.toArray).toS) s.heap.objs.size nS ns n1 hb hv its.toArray.size 0 _ (Nat.sub_zero _) (Nat.zero_le _) ⟨⟨_, Heap.get?_push_size _ rfl, rfl, rfl⟩, hl1.push _⟩ ⟨0, Nat.le_refl _, setR_new_at (Heap.get?_push_of_some _ hS)⟩ ?_
  intro s' c hm hc hR
  obtain ⟨h', g2, d2, t2, o2⟩ := s'
  have eg : g2 = s.gens := hm.gens
  have ed : d2 = s.drawn := hm.drawn
  have eo : o2 = s.os := hm.os
  subst eg ed eo
  show wpAny _ _ _ _ _ _
  refine wpAny_pure ?_
  show wpAny _ _ (ret Value.none) _ _ _
  refine wpAny_pure (h _ ⟨h', t2, c, rfl, hR, by rw [← n1]; exact hc, fun b o e => ?_⟩)
  have hb0 : b < s.heap.objs.size := Heap.lt_size e
  refine hm.heap b o ?_ (Heap.get?_push_of_some _ (Heap.get?_push_of_some _ e))
  rw [z1]
  simp only [List.mem_cons, List.not_mem_nil, or_false, not_or]
  exact ⟨Nat.ne_of_lt hb0, Nat.ne_of_lt (Nat.lt_succ_of_lt hb0)⟩
/-- set(xs) of a list of whole numbers -/
theorem call_set_listI {l : Addr} {its : List Value} {ns : List Int} {Q : Value → Shared → Prop} (hh : A.handled = none) (hl : s.heap.IsList l its.toArray) (hi : IntsAre its ns) (hb : ns.length + 1 < scanBound)
    (h : ∀ s', SetDone w ns s s' → Q (.ref s.heap.objs.size) s') : wpAny (model P w) A (call (.type "set") [.ref l]) Q E s := by
  obtain ⟨cc, tl, hmro⟩ := F.called_set.mro
  have e1 := F.called_set.made
  have e2 := F.called_set.sub
  have e3 := F.called_set.notType
  have e4 := F.called_set.canCreate
  have e5 := F.typeCall_set_1 (.ref l)
  refine wpAny_call (codeAny_of_tree ?_)
  show wpAny _ _ (callAny (.type "set") _) _ _ _
  refine wpAny_pure ⟨Code.quiet_builtin _ (by decide +kernel), codeAny_builtin F.entry_type_call ?_⟩
  rw [Around.under_plain (weight_type_call_type "set" [.ref l] []) rfl]
  repeat (any_goals (first | assumption | wp_step))
  refine codeAny_mono (code_set_led1 (.ref l) (E := E) (Q₁ := fun u s1 => u = .ref s.heap.objs.size ∧ s1 = { s with heap := s.heap.push (freshO w) }) ⟨rfl, rfl⟩) fun r s1 hr => ?_
  cases r with
  | error e => exact hr
  | ok fl =>
    cases fl with
    | ret u =>
      obtain ⟨rfl, rfl⟩ := hr
      have tS : Shared.TypeIs { s with heap := s.heap.push (freshO w) } (.ref s.heap.objs.size) "set" := ⟨_, Heap.get?_push_size _ rfl, rfl⟩
      have e6 := F.called_set.init.lookup
      have e7 := F.called_set.init.bind (.ref s.heap.objs.size)
      repeat (any_goals (first | assumption | wp_step))
      refine codeAny_mono (codeAny_call_builtin (R := wants (fun r s2 => r = .none ∧ SetDone w ns s s2) E) F.called_set.init.plain F.entry_set_init (check_set_init_1 tS ?_)) fun r2 s2 hr2 => ?_
      · exact set_fill (A := A.in1.in1) (by simpa using hh) hl hi hb fun s' z => ⟨rfl, z⟩
      cases r2 with
      | error e => exact hr2
      | ok f2 =>
        cases f2 with
        | ret r =>
          obtain ⟨rfl, z⟩ := hr2
          repeat (any_goals (first | assumption | wp_step))
          exact h _ z
        | _ => exact hr2.elim
    | _ => exact hr.elim
end
section
variable {X : Cx}
/-- set(xs) -/
def rSetOfI (K : PySem.W.Frag) (w : World) : List V → Hp → VK → Prop := fun xs H Q => ∃ (l : Addr) (ns : List Int), xs = [V.ref l] ∧ SqL K H l (ns.map V.int) ∧ ns.length < 64 ∧ ∀ p c, H p = none → c ≤ ns.length → Q (.ref p) (upd H p (SetO w p (fun j => decide (j ∈ ns)) c))
theorem cr_setOfI (hc : X.calm = true) : CallR X (.type "set") (rSetOfI X.K X.w) := by
  intro pins s σ H xs us Q I r h
  obtain ⟨l, ns, rfl, hs, h64, q⟩ := h
  rw [Vals.ref1 r]
  obtain ⟨its, rv, hl, _⟩ := I.list hs
  refine call_set_listI (I.ok.hd hc) hl.isList rv.ints (by unfold scanBound; omega) fun s' z => ?_
  obtain ⟨h', tk, c, rfl, hR, hc', hk⟩ := z
  exact ⟨.ref _, upd H s.heap.objs.size (SetO X.w s.heap.objs.size (fun j => decide (j ∈ ns)) c), I.laid (t' := tk) hk (Nat.le_refl _) (setO_new hR), rfl, q _ c (I.hok.fresh (Nat.le_refl _)) hc'⟩
def rMaxDef (K : PySem.W.Frag) : List V → List V → Hp → VK → Prop := fun vs zs H Q => ∃ (a : Addr) (ns : List Int) (d : Int), vs = [V.ref a] ∧ zs = [V.int d] ∧ SqL K H a (ns.map V.int) ∧ ∀ m, ((ns = [] ∧ m = d) ∨ (m ∈ ns ∧ ∀ y ∈ ns, y ≤ m)) → Q (.int m) H
theorem cr_maxDef (hc : X.calm = true := by rfl) : CallRK X (.builtin "max") [Str.ofString "default"] (rMaxDef X.K) := by
  intro pins s σ H vs zs us ws Q I r rz h
  obtain ⟨a, ns, d, rfl, rfl, hs, q⟩ := h
  obtain rfl := Vals.ref1 r
  obtain ⟨w1, rfl, t, rfl⟩ := vals1 rz
  obtain ⟨its, rv, hl, _⟩ := I.list hs
  refine call_max_def (I.ok.hd hc) hl.isList rv.ints fun v h' tk hM hk => ?_
  rcases hM with ⟨e, rfl⟩ | ⟨m, u, rfl, h1⟩
  · exact ⟨.int d, H, I.kept hk, ⟨_, rfl⟩, q d (.inl ⟨e, rfl⟩)⟩
  · exact ⟨.int m, H, I.kept hk, ⟨_, rfl⟩, q m (.inr h1)⟩
end
end Ea

/-! The program's places, scopes, and the facts of its top. Printed by tool/gen.py. -/
namespace Ea
open PySem PySem.Spec PyProof.Rows L2
def top (i : Nat) : Stmt := PySem.Challenge.pw_enoughasked_s01_answers.main.body.getD i (.Pass ⟨0, 0, 0, 0⟩)
abbrev s_Machine___init__ : Stmt := inClass (top 9) 0
abbrev s_Customer___init__ : Stmt := inClass (top 10) 0
abbrev s_Customer_forget : Stmt := inClass (top 10) 1
abbrev s_Operation___init__ : Stmt := inClass (top 11) 0
abbrev s_Message___init__ : Stmt := inClass (top 12) 0
abbrev s_Store___init__ : Stmt := inClass (top 13) 0
abbrev s_send_to_all : Stmt := top 20
abbrev s_come : Stmt := top 21
abbrev s_come_to_machine : Stmt := top 22
abbrev s_send_back : Stmt := top 23
abbrev s_waits_for : Stmt := top 24
abbrev s_count_answer : Stmt := top 25
abbrev s_count_heard : Stmt := top 26
abbrev s_end_operation : Stmt := top 27
abbrev s_write : Stmt := top 40
abbrev s_read : Stmt := top 41
abbrev s_is_written : Stmt := top 42
abbrev s_is_full : Stmt := top 43
abbrev s_has_no_room : Stmt := top 44
abbrev s_begin_operation : Stmt := top 45
abbrev s_deliver : Stmt := top 46
abbrev s_lose : Stmt := top 47
abbrev s_again : Stmt := top 48
abbrev s_stop : Stmt := top 49
abbrev s_wake : Stmt := top 50
abbrev s_turn : Stmt := top 51
abbrev s_leave : Stmt := top 52
abbrev s_resend : Stmt := top 53
abbrev s_alone : Stmt := top 54
abbrev s_is_at_work : Stmt := top 55
abbrev s_first_of : Stmt := top 56
abbrev s_change : Stmt := top 59
abbrev s_Told___init__ : Stmt := inClass (top 66) 0
abbrev s_Value___init__ : Stmt := inClass (top 67) 0
abbrev s_told_by : Stmt := top 68
abbrev s_readings_of : Stmt := top 69
abbrev s_who_counts : Stmt := top 70
abbrev s_values_there_are : Stmt := top 71
abbrev s_comes_ahead : Stmt := top 72
abbrev s_first_clash : Stmt := top 73
abbrev s_why_not : Stmt := top 74
abbrev s_shown_of : Stmt := top 75
abbrev s_can_be_found : Stmt := top 76
abbrev s_in_order : Stmt := top 77
abbrev s_may_be_next : Stmt := top 78
abbrev s_earliest_without : Stmt := top 79
abbrev s_message_told : Stmt := top 81
abbrev s_machine_told : Stmt := top 82
abbrev s_customer_told : Stmt := top 83
abbrev s_op_told : Stmt := top 84
abbrev s_all_told : Stmt := top 85
abbrev s_kept : Stmt := top 86
abbrev s_why : Stmt := top 87
abbrev s_order : Stmt := top 88
abbrev s_since : Stmt := top 89
abbrev s_now : Stmt := top 90
abbrev s_safe : Stmt := top 91
abbrev s_state : Stmt := top 92
abbrev s_tell : Stmt := top 95
abbrev s_Line___init__ : Stmt := inClass (top 101) 0
abbrev s_Line_answer : Stmt := inClass (top 101) 1
abbrev s_Line_begin : Stmt := inClass (top 101) 2
abbrev s_answers : Stmt := top 104
theorem sc_Machine___init__ : FnScope ["self"] ["self"] (defScope s_Machine___init__) := ⟨rfl, rfl, rfl, by decide +kernel, rfl, by decide +kernel, by decide +kernel⟩
theorem sc_Customer___init__ : FnScope ["self"] ["self"] (defScope s_Customer___init__) := ⟨rfl, rfl, rfl, by decide +kernel, rfl, by decide +kernel, by decide +kernel⟩
theorem sc_Customer_forget : FnScope ["self"] ["self"] (defScope s_Customer_forget) := ⟨rfl, rfl, rfl, by decide +kernel, rfl, by decide +kernel, by decide +kernel⟩
theorem sc_Operation___init__ : FnScope ["self", "writing", "customer", "value", "began"] ["self", "writing", "customer", "value", "began"] (defScope s_Operation___init__) := ⟨rfl, rfl, rfl, by decide +kernel, rfl, by decide +kernel, by decide +kernel⟩
theorem sc_Message___init__ : FnScope ["self", "kind", "customer", "machine", "op", "tag", "value"] ["self", "kind", "customer", "machine", "op", "tag", "value"] (defScope s_Message___init__) := ⟨rfl, rfl, rfl, by decide +kernel, rfl, by decide +kernel, by decide +kernel⟩
theorem sc_Store___init__ : FnScope ["self", "machines", "customers", "asked", "told", "on", "place"] ["self", "machines", "customers", "asked", "told", "on"] (defScope s_Store___init__) := ⟨rfl, rfl, rfl, by decide +kernel, rfl, by decide +kernel, by decide +kernel⟩
theorem sc_send_to_all : FnScope ["store", "customer", "who", "machine", "sent"] ["store", "customer"] (defScope s_send_to_all) := ⟨rfl, rfl, rfl, by decide +kernel, rfl, by decide +kernel, by decide +kernel⟩
theorem sc_come : FnScope ["store", "place", "message", "who"] ["store", "place"] (defScope s_come) := ⟨rfl, rfl, rfl, by decide +kernel, rfl, by decide +kernel, by decide +kernel⟩
theorem sc_come_to_machine : FnScope ["store", "message", "machine"] ["store", "message"] (defScope s_come_to_machine) := ⟨rfl, rfl, rfl, by decide +kernel, rfl, by decide +kernel, by decide +kernel⟩
theorem sc_send_back : FnScope ["store", "kind", "message", "tag", "value"] ["store", "kind", "message", "tag", "value"] (defScope s_send_back) := ⟨rfl, rfl, rfl, by decide +kernel, rfl, by decide +kernel, by decide +kernel⟩
theorem sc_waits_for : FnScope ["who", "message", "how"] ["who", "message"] (defScope s_waits_for) := ⟨rfl, rfl, rfl, by decide +kernel, rfl, by decide +kernel, by decide +kernel⟩
theorem sc_count_answer : FnScope ["store", "who", "message", "op"] ["store", "who", "message"] (defScope s_count_answer) := ⟨rfl, rfl, rfl, by decide +kernel, rfl, by decide +kernel, by decide +kernel⟩
theorem sc_count_heard : FnScope ["store", "who"] ["store", "who"] (defScope s_count_heard) := ⟨rfl, rfl, rfl, by decide +kernel, rfl, by decide +kernel, by decide +kernel⟩
theorem sc_end_operation : FnScope ["store", "who", "op"] ["store", "who"] (defScope s_end_operation) := ⟨rfl, rfl, rfl, by decide +kernel, rfl, by decide +kernel, by decide +kernel⟩
theorem sc_write : FnScope ["store", "customer", "value"] ["store", "customer", "value"] (defScope s_write) := ⟨rfl, rfl, rfl, by decide +kernel, rfl, by decide +kernel, by decide +kernel⟩
theorem sc_read : FnScope ["store", "customer"] ["store", "customer"] (defScope s_read) := ⟨rfl, rfl, rfl, by decide +kernel, rfl, by decide +kernel, by decide +kernel⟩
theorem sc_is_written : FnScope ["store", "value", "op"] ["store", "value"] (defScope s_is_written) := ⟨rfl, rfl, rfl, by decide +kernel, rfl, by decide +kernel, by decide +kernel⟩
theorem sc_is_full : FnScope ["store"] ["store"] (defScope s_is_full) := ⟨rfl, rfl, rfl, by decide +kernel, rfl, by decide +kernel, by decide +kernel⟩
theorem sc_has_no_room : FnScope ["store"] ["store"] (defScope s_has_no_room) := ⟨rfl, rfl, rfl, by decide +kernel, rfl, by decide +kernel, by decide +kernel⟩
theorem sc_begin_operation : FnScope ["store", "writing", "customer", "value", "number", "who"] ["store", "writing", "customer", "value"] (defScope s_begin_operation) := ⟨rfl, rfl, rfl, by decide +kernel, rfl, by decide +kernel, by decide +kernel⟩
theorem sc_deliver : FnScope ["store", "message", "number", "did"] ["store", "message"] (defScope s_deliver) := ⟨rfl, rfl, rfl, by decide +kernel, rfl, by decide +kernel, by decide +kernel⟩
theorem sc_lose : FnScope ["store", "message"] ["store", "message"] (defScope s_lose) := ⟨rfl, rfl, rfl, by decide +kernel, rfl, by decide +kernel, by decide +kernel⟩
theorem sc_again : FnScope ["store", "message"] ["store", "message"] (defScope s_again) := ⟨rfl, rfl, rfl, by decide +kernel, rfl, by decide +kernel, by decide +kernel⟩
theorem sc_stop : FnScope ["store", "machine"] ["store", "machine"] (defScope s_stop) := ⟨rfl, rfl, rfl, by decide +kernel, rfl, by decide +kernel, by decide +kernel⟩
theorem sc_wake : FnScope ["store", "machine"] ["store", "machine"] (defScope s_wake) := ⟨rfl, rfl, rfl, by decide +kernel, rfl, by decide +kernel, by decide +kernel⟩
theorem sc_turn : FnScope ["store", "machine", "up", "which"] ["store", "machine", "up"] (defScope s_turn) := ⟨rfl, rfl, rfl, by decide +kernel, rfl, by decide +kernel, by decide +kernel⟩
theorem sc_leave : FnScope ["store", "customer", "who"] ["store", "customer"] (defScope s_leave) := ⟨rfl, rfl, rfl, by decide +kernel, rfl, by decide +kernel, by decide +kernel⟩
theorem sc_resend : FnScope ["store", "customer"] ["store", "customer"] (defScope s_resend) := ⟨rfl, rfl, rfl, by decide +kernel, rfl, by decide +kernel, by decide +kernel⟩
theorem sc_alone : FnScope ["store", "customer", "number", "came", "place"] ["store", "customer"] (defScope s_alone) := ⟨rfl, rfl, rfl, by decide +kernel, rfl, by decide +kernel, by decide +kernel⟩
theorem sc_is_at_work : FnScope ["store", "customer", "how"] ["store", "customer"] (defScope s_is_at_work) := ⟨rfl, rfl, rfl, by decide +kernel, rfl, by decide +kernel, by decide +kernel⟩
theorem sc_first_of : FnScope ["store", "number", "place", "message"] ["store", "number"] (defScope s_first_of) := ⟨rfl, rfl, rfl, by decide +kernel, rfl, by decide +kernel, by decide +kernel⟩
theorem sc_change : FnScope ["store", "number", "given"] ["store", "number", "given"] (defScope s_change) := ⟨rfl, rfl, rfl, by decide +kernel, rfl, by decide +kernel, by decide +kernel⟩
theorem sc_Told___init__ : FnScope ["self", "number", "op", "ended"] ["self", "number", "op", "ended"] (defScope s_Told___init__) := ⟨rfl, rfl, rfl, by decide +kernel, rfl, by decide +kernel, by decide +kernel⟩
theorem sc_Value___init__ : FnScope ["self", "value", "ops", "op"] ["self", "value", "ops"] (defScope s_Value___init__) := ⟨rfl, rfl, rfl, by decide +kernel, rfl, by decide +kernel, by decide +kernel⟩
theorem sc_told_by : FnScope ["ops", "time", "told", "number", "op"] ["ops", "time"] (defScope s_told_by) := ⟨rfl, rfl, rfl, by decide +kernel, rfl, by decide +kernel, by decide +kernel⟩
theorem sc_readings_of : FnScope ["told", "op"] ["told"] (defScope s_readings_of) := ⟨rfl, rfl, rfl, by decide +kernel, rfl, by decide +kernel, by decide +kernel⟩
theorem sc_who_counts : FnScope ["told", "read_of", "op"] ["told"] (defScope s_who_counts) := ⟨rfl, rfl, rfl, by decide +kernel, rfl, by decide +kernel, by decide +kernel⟩
theorem sc_values_there_are : FnScope ["told", "counting", "ops_of", "op", "value"] ["told"] (defScope s_values_there_are) := ⟨rfl, rfl, rfl, by decide +kernel, rfl, by decide +kernel, by decide +kernel⟩
theorem sc_comes_ahead : FnScope ["value", "other"] ["value", "other"] (defScope s_comes_ahead) := ⟨rfl, rfl, rfl, by decide +kernel, rfl, by decide +kernel, by decide +kernel⟩
theorem sc_first_clash : FnScope ["values", "place", "lesser", "greater"] ["values"] (defScope s_first_clash) := ⟨rfl, rfl, rfl, by decide +kernel, rfl, by decide +kernel, by decide +kernel⟩
theorem sc_why_not : FnScope ["told", "writings", "op", "readings", "writing", "clash"] ["told"] (defScope s_why_not) := ⟨rfl, rfl, rfl, by decide +kernel, rfl, by decide +kernel, by decide +kernel⟩
theorem sc_shown_of : FnScope ["value", "ending", "beginning", "writing", "op"] ["value"] (defScope s_shown_of) := ⟨rfl, rfl, rfl, by decide +kernel, rfl, by decide +kernel, by decide +kernel⟩
theorem sc_can_be_found : FnScope ["told"] ["told"] (defScope s_can_be_found) := ⟨rfl, rfl, rfl, by decide +kernel, rfl, by decide +kernel, by decide +kernel⟩
theorem sc_in_order : FnScope ["told", "left", "numbers", "value", "each", "op"] ["told"] (defScope s_in_order) := ⟨rfl, rfl, rfl, by decide +kernel, rfl, by decide +kernel, by decide +kernel⟩
theorem sc_may_be_next : FnScope ["value", "left", "other"] ["value", "left"] (defScope s_may_be_next) := ⟨rfl, rfl, rfl, by decide +kernel, rfl, by decide +kernel, by decide +kernel⟩
theorem sc_earliest_without : FnScope ["ops", "time", "op"] ["ops"] (defScope s_earliest_without) := ⟨rfl, rfl, rfl, by decide +kernel, rfl, by decide +kernel, by decide +kernel⟩
theorem sc_message_told : FnScope ["store", "place", "message"] ["store", "place"] (defScope s_message_told) := ⟨rfl, rfl, rfl, by decide +kernel, rfl, by decide +kernel, by decide +kernel⟩
theorem sc_machine_told : FnScope ["store", "number", "machine"] ["store", "number"] (defScope s_machine_told) := ⟨rfl, rfl, rfl, by decide +kernel, rfl, by decide +kernel, by decide +kernel⟩
theorem sc_customer_told : FnScope ["store", "number", "who"] ["store", "number"] (defScope s_customer_told) := ⟨rfl, rfl, rfl, by decide +kernel, rfl, by decide +kernel, by decide +kernel⟩
theorem sc_op_told : FnScope ["store", "number", "op"] ["store", "number"] (defScope s_op_told) := ⟨rfl, rfl, rfl, by decide +kernel, rfl, by decide +kernel, by decide +kernel⟩
theorem sc_all_told : FnScope ["store"] ["store"] (defScope s_all_told) := ⟨rfl, rfl, rfl, by decide +kernel, rfl, by decide +kernel, by decide +kernel⟩
theorem sc_kept : FnScope ["store"] ["store"] (defScope s_kept) := ⟨rfl, rfl, rfl, by decide +kernel, rfl, by decide +kernel, by decide +kernel⟩
theorem sc_why : FnScope ["store"] ["store"] (defScope s_why) := ⟨rfl, rfl, rfl, by decide +kernel, rfl, by decide +kernel, by decide +kernel⟩
theorem sc_order : FnScope ["store", "told", "numbers"] ["store"] (defScope s_order) := ⟨rfl, rfl, rfl, by decide +kernel, rfl, by decide +kernel, by decide +kernel⟩
theorem sc_since : FnScope ["store"] ["store"] (defScope s_since) := ⟨rfl, rfl, rfl, by decide +kernel, rfl, by decide +kernel, by decide +kernel⟩
theorem sc_now : FnScope ["store", "machine", "up", "values", "not_newer", "other"] ["store"] (defScope s_now) := ⟨rfl, rfl, rfl, by decide +kernel, rfl, by decide +kernel, by decide +kernel⟩
theorem sc_safe : FnScope ["store"] ["store"] (defScope s_safe) := ⟨rfl, rfl, rfl, by decide +kernel, rfl, by decide +kernel, by decide +kernel⟩
theorem sc_state : FnScope ["store"] ["store"] (defScope s_state) := ⟨rfl, rfl, rfl, by decide +kernel, rfl, by decide +kernel, by decide +kernel⟩
theorem sc_tell : FnScope ["store", "number", "given"] ["store", "number", "given"] (defScope s_tell) := ⟨rfl, rfl, rfl, by decide +kernel, rfl, by decide +kernel, by decide +kernel⟩
theorem sc_Line___init__ : FnScope ["self"] ["self"] (defScope s_Line___init__) := ⟨rfl, rfl, rfl, by decide +kernel, rfl, by decide +kernel, by decide +kernel⟩
theorem sc_Line_answer : FnScope ["self", "number", "given"] ["self", "number", "given"] (defScope s_Line_answer) := ⟨rfl, rfl, rfl, by decide +kernel, rfl, by decide +kernel, by decide +kernel⟩
theorem sc_Line_begin : FnScope ["self", "machines", "customers", "asked", "told", "on"] ["self", "machines", "customers", "asked", "told", "on"] (defScope s_Line_begin) := ⟨rfl, rfl, rfl, by decide +kernel, rfl, by decide +kernel, by decide +kernel⟩
theorem sc_answers : FnScope ["calls", "line", "given_back", "place", "number", "behind", "answered"] ["calls"] (defScope s_answers) := ⟨rfl, rfl, rfl, by decide +kernel, rfl, by decide +kernel, by decide +kernel⟩
/-- a def of the top -/
structure DefAt (K : PySem.W.Frag) (mg : Str → Option Value) (x qual : Str) (st : Stmt) (ps : List Str) where
  f : Addr
  fd : FuncData
  F : Fun K x qual st f fd
  g : mg x = some (.ref f)
  b : Binds K fd ps []
structure ClsAt (K : PySem.W.Frag) (mg : Str → Option Value) (x : Str) (attrs : List Str) where
  C : Addr
  cl : Cls K C
  g : mg x = some (.ref C)
  n : ∀ a ∈ attrs, NoAttr K C a
  makes : PySem.W.makesIn K C = true
  kp : PySem.W.keepIn K (.ref C) = true
/-- a method -/
structure MethAt (K : PySem.W.Frag) (C : Addr) (x qual : Str) (st : Stmt) (ps : List Str) where
  f : Addr
  fd : FuncData
  F : Fun K x qual st f fd
  m : Meth K C x f
  b : Binds K fd ps []
theorem mk_of {K : PySem.W.Frag} {mg : Str → Option Value} {x : Str} {attrs : List Str} (c : ClsAt K mg x attrs) {q : Str} {st : Stmt} {ps : List Str} (d : MethAt K c.C "__init__" q st ps) : Mk K c.C d.f := ⟨c.makes, d.m.at_, d.m.fn, c.kp⟩
/-- a global name's value -/
def GV (mg : Str → Option Value) (x : Str) (v : V) : Prop := ∃ u, mg x = some u ∧ RelV v u
theorem pe_gc {X : Cx} {x : Str} {v : V} {pos : Pos} (hg : Gl X x) (h : GV X.mg x v) (hd : (x == ("__debug__" : Str)) = false := by decide) : PE X (.Name x pos) (L2.tC v) :=
  ⟨fun pins s σ H Q I hq => let ⟨u, hm, r⟩ := h; (pe_glob hg hm r hd).run pins s σ H Q I hq⟩
structure Txt (K : PySem.W.Frag) (mg : Str → Option Value) where
  c_Machine : ClsAt K mg "Machine" ["up", "tag", "value"]
  c_Customer : ClsAt K mg "Customer" ["how", "op", "counted", "tag", "value"]
  c_Operation : ClsAt K mg "Operation" ["writing", "customer", "value", "began", "ended"]
  c_Message : ClsAt K mg "Message" ["kind", "customer", "machine", "op", "tag", "value"]
  c_Store : ClsAt K mg "Store" ["time", "machines", "customers", "asked", "told", "on", "under_way", "ops"]
  c_Told : ClsAt K mg "Told" ["number", "writing", "value", "began", "ended"]
  c_Value : ClsAt K mg "Value" ["value", "ops", "first_end", "last_beginning"]
  c_Line : ClsAt K mg "Line" ["store"]
  d_Machine___init__ : MethAt K c_Machine.C "__init__" "Machine.__init__" s_Machine___init__ ["self"]
  d_Customer___init__ : MethAt K c_Customer.C "__init__" "Customer.__init__" s_Customer___init__ ["self"]
  d_Customer_forget : MethAt K c_Customer.C "forget" "Customer.forget" s_Customer_forget ["self"]
  d_Operation___init__ : MethAt K c_Operation.C "__init__" "Operation.__init__" s_Operation___init__ ["self", "writing", "customer", "value", "began"]
  d_Message___init__ : MethAt K c_Message.C "__init__" "Message.__init__" s_Message___init__ ["self", "kind", "customer", "machine", "op", "tag", "value"]
  d_Store___init__ : MethAt K c_Store.C "__init__" "Store.__init__" s_Store___init__ ["self", "machines", "customers", "asked", "told", "on"]
  d_send_to_all : DefAt K mg "send_to_all" "send_to_all" s_send_to_all ["store", "customer"]
  d_come : DefAt K mg "come" "come" s_come ["store", "place"]
  d_come_to_machine : DefAt K mg "come_to_machine" "come_to_machine" s_come_to_machine ["store", "message"]
  d_send_back : DefAt K mg "send_back" "send_back" s_send_back ["store", "kind", "message", "tag", "value"]
  d_waits_for : DefAt K mg "waits_for" "waits_for" s_waits_for ["who", "message"]
  d_count_answer : DefAt K mg "count_answer" "count_answer" s_count_answer ["store", "who", "message"]
  d_count_heard : DefAt K mg "count_heard" "count_heard" s_count_heard ["store", "who"]
  d_end_operation : DefAt K mg "end_operation" "end_operation" s_end_operation ["store", "who"]
  d_write : DefAt K mg "write" "write" s_write ["store", "customer", "value"]
  d_read : DefAt K mg "read" "read" s_read ["store", "customer"]
  d_is_written : DefAt K mg "is_written" "is_written" s_is_written ["store", "value"]
  d_is_full : DefAt K mg "is_full" "is_full" s_is_full ["store"]
  d_has_no_room : DefAt K mg "has_no_room" "has_no_room" s_has_no_room ["store"]
  d_begin_operation : DefAt K mg "begin_operation" "begin_operation" s_begin_operation ["store", "writing", "customer", "value"]
  d_deliver : DefAt K mg "deliver" "deliver" s_deliver ["store", "message"]
  d_lose : DefAt K mg "lose" "lose" s_lose ["store", "message"]
  d_again : DefAt K mg "again" "again" s_again ["store", "message"]
  d_stop : DefAt K mg "stop" "stop" s_stop ["store", "machine"]
  d_wake : DefAt K mg "wake" "wake" s_wake ["store", "machine"]
  d_turn : DefAt K mg "turn" "turn" s_turn ["store", "machine", "up"]
  d_leave : DefAt K mg "leave" "leave" s_leave ["store", "customer"]
  d_resend : DefAt K mg "resend" "resend" s_resend ["store", "customer"]
  d_alone : DefAt K mg "alone" "alone" s_alone ["store", "customer"]
  d_is_at_work : DefAt K mg "is_at_work" "is_at_work" s_is_at_work ["store", "customer"]
  d_first_of : DefAt K mg "first_of" "first_of" s_first_of ["store", "number"]
  d_change : DefAt K mg "change" "change" s_change ["store", "number", "given"]
  d_Told___init__ : MethAt K c_Told.C "__init__" "Told.__init__" s_Told___init__ ["self", "number", "op", "ended"]
  d_Value___init__ : MethAt K c_Value.C "__init__" "Value.__init__" s_Value___init__ ["self", "value", "ops"]
  d_told_by : DefAt K mg "told_by" "told_by" s_told_by ["ops", "time"]
  d_readings_of : DefAt K mg "readings_of" "readings_of" s_readings_of ["told"]
  d_who_counts : DefAt K mg "who_counts" "who_counts" s_who_counts ["told"]
  d_values_there_are : DefAt K mg "values_there_are" "values_there_are" s_values_there_are ["told"]
  d_comes_ahead : DefAt K mg "comes_ahead" "comes_ahead" s_comes_ahead ["value", "other"]
  d_first_clash : DefAt K mg "first_clash" "first_clash" s_first_clash ["values"]
  d_why_not : DefAt K mg "why_not" "why_not" s_why_not ["told"]
  d_shown_of : DefAt K mg "shown_of" "shown_of" s_shown_of ["value"]
  d_can_be_found : DefAt K mg "can_be_found" "can_be_found" s_can_be_found ["told"]
  d_in_order : DefAt K mg "in_order" "in_order" s_in_order ["told"]
  d_may_be_next : DefAt K mg "may_be_next" "may_be_next" s_may_be_next ["value", "left"]
  d_earliest_without : DefAt K mg "earliest_without" "earliest_without" s_earliest_without ["ops"]
  d_message_told : DefAt K mg "message_told" "message_told" s_message_told ["store", "place"]
  d_machine_told : DefAt K mg "machine_told" "machine_told" s_machine_told ["store", "number"]
  d_customer_told : DefAt K mg "customer_told" "customer_told" s_customer_told ["store", "number"]
  d_op_told : DefAt K mg "op_told" "op_told" s_op_told ["store", "number"]
  d_all_told : DefAt K mg "all_told" "all_told" s_all_told ["store"]
  d_kept : DefAt K mg "kept" "kept" s_kept ["store"]
  d_why : DefAt K mg "why" "why" s_why ["store"]
  d_order : DefAt K mg "order" "order" s_order ["store"]
  d_since : DefAt K mg "since" "since" s_since ["store"]
  d_now : DefAt K mg "now" "now" s_now ["store"]
  d_safe : DefAt K mg "safe" "safe" s_safe ["store"]
  d_state : DefAt K mg "state" "state" s_state ["store"]
  d_tell : DefAt K mg "tell" "tell" s_tell ["store", "number", "given"]
  d_Line___init__ : MethAt K c_Line.C "__init__" "Line.__init__" s_Line___init__ ["self"]
  d_Line_answer : MethAt K c_Line.C "answer" "Line.answer" s_Line_answer ["self", "number", "given"]
  d_Line_begin : MethAt K c_Line.C "begin" "Line.begin" s_Line_begin ["self", "machines", "customers", "asked", "told", "on"]
  d_answers : DefAt K mg "answers" "answers" s_answers ["calls"]
  k_IDLE : GV mg "IDLE" (.int 0)
  k_ASKING : GV mg "ASKING" (.int 1)
  k_TELLING : GV mg "TELLING" (.int 2)
  k_LEFT : GV mg "LEFT" (.int 3)
  k_ASKED : GV mg "ASKED" (.int 0)
  k_ANSWERED : GV mg "ANSWERED" (.int 1)
  k_TOLD : GV mg "TOLD" (.int 2)
  k_HEARD : GV mg "HEARD" (.int 3)
  k_NOTHING : GV mg "NOTHING" (.int 0)
  k_SENT : GV mg "SENT" (.int 1)
  k_COUNTED : GV mg "COUNTED" (.int 2)
  k_TELLS : GV mg "TELLS" (.int 3)
  k_ENDED : GV mg "ENDED" (.int 4)
  k_NONE_SUCH : GV mg "NONE_SUCH" (.int (-2))
  k_NOT_BEGUN : GV mg "NOT_BEGUN" (.int (-11))
  k_ALREADY : GV mg "ALREADY" (.int (-16))
  k_WRITTEN : GV mg "WRITTEN" (.int (-17))
  k_NOT_AS_TOLD : GV mg "NOT_AS_TOLD" (.int (-22))
  k_TOO_MANY : GV mg "TOO_MANY" (.int (-28))
  k_THERE_IS_NONE : GV mg "THERE_IS_NONE" (.int (-33))
  k_MOST_VALUE : GV mg "MOST_VALUE" (.int 40)
  k_MOST_OPERATIONS : GV mg "MOST_OPERATIONS" (.int 20)
  k_MOST_UNDER_WAY : GV mg "MOST_UNDER_WAY" (.int 60)
  k_MOST_ALONE : GV mg "MOST_ALONE" (.int 400)
  k_WRITE : GV mg "WRITE" (.int 1)
  k_WITH_ONE_NUMBER_changes : ∃ d, GV mg "WITH_ONE_NUMBER_changes" (.ref d) ∧ DctI K d [(2, d_read.f), (3, d_deliver.f), (4, d_lose.f), (5, d_again.f), (6, d_stop.f), (7, d_wake.f), (8, d_leave.f), (9, d_resend.f), (10, d_alone.f)]
  k_OPEN_END : GV mg "OPEN_END" (.int 1000001)
  k_FOUND : GV mg "FOUND" (.int 0)
  k_NOBODY_WRITES : GV mg "NOBODY_WRITES" (.int 1)
  k_ENDED_AHEAD : GV mg "ENDED_AHEAD" (.int 2)
  k_CLASH : GV mg "CLASH" (.int 3)
  k_WITH_ONE_NUMBER_telling : ∃ d, GV mg "WITH_ONE_NUMBER_telling" (.ref d) ∧ DctI K d [(11, d_message_told.f), (12, d_machine_told.f), (13, d_customer_told.f), (14, d_op_told.f)]
  k_WITH_NONE : ∃ d, GV mg "WITH_NONE" (.ref d) ∧ DctI K d [(15, d_kept.f), (16, d_why.f), (17, d_order.f), (18, d_since.f), (19, d_now.f), (20, d_safe.f), (21, d_state.f)]
  k_BEGIN : GV mg "BEGIN" (.int 0)
  k_LAST_CHANGE : GV mg "LAST_CHANGE" (.int 10)
  k_MOST_MACHINES : GV mg "MOST_MACHINES" (.int 5)
  k_MOST_CUSTOMERS : GV mg "MOST_CUSTOMERS" (.int 4)
  k_HOW_MANY : ∃ p, GV mg "HOW_MANY" (.ref p) ∧ ∀ H, SqT K H p [V.int 5, V.int 2, V.int 1, V.int 1, V.int 1, V.int 1, V.int 1, V.int 1, V.int 1, V.int 1, V.int 1, V.int 1, V.int 1, V.int 1, V.int 1, V.int 0, V.int 0, V.int 0, V.int 0, V.int 0, V.int 0, V.int 0]
  b_len : mg "len" = none
  b_range : mg "range" = none
  b_any : mg "any" = none
  b_enumerate : mg "enumerate" = none
  b_min : mg "min" = none
  b_max : mg "max" = none
  b_sorted : mg "sorted" = none
  b_set : mg "set" = none
end Ea

/-! The bodies: what makes objects. -/
namespace Ea
open PySem PySem.Spec PyProof.Rows L2
section
variable {P : Program} {w : World} {K : PySem.W.Frag} {mg : Str → Option Value} {base : Heap}
def Txt.ca (T : Txt K mg) : CA := ⟨T.c_Store.C, T.c_Machine.C, T.c_Customer.C, T.c_Operation.C, T.c_Message.C⟩
theorem lt1000 {n : Nat} (h : Nat.ble n 20 = true) : n < 1000 := Nat.lt_of_le_of_lt (Nat.le_of_ble_eq_true h) (by decide)
/-- a new object stands, the rest as it was -/
def Made (H H' : Hp) (p : Addr) (o : HO) : Prop := H' p = some o ∧ Chg p H H'
/-! ### Message -/
def spMsgI (T : Txt K mg) : Sp := fun vs H Q _ => ∃ (p dx tg : Addr) (x : Su153.Msg), vs = [.ref p, .int x.kind, .int x.c, .int x.m, .int x.k, .ref tg, .int x.v] ∧ H p = some (.ins T.c_Message.C dx []) ∧
  ∀ H', Made H H' p (.ins T.c_Message.C dx (gF x tg)) → Q .non H'
theorem ok_Message (T : Txt K mg) : FnOk P w K mg base CX0 1 T.d_Message___init__.f T.d_Message___init__.fd ["self", "kind", "customer", "machine", "op", "tag", "value"] (spMsgI T) := by
  refine T.d_Message___init__.F.ok sc_Message___init__ (fun vs H Q E h => ?_) (fun cdv A outer s H vs Q E hr h => ⟨_, (pss_cons (ps_fld (pv 0) (pv 1) rfl)
      (pss_cons (ps_fld (pv 0) (pv 2) rfl)
      (pss_cons (ps_fld (pv 0) (pv 3) rfl)
      (pss_cons (ps_fld (pv 0) (pv 4) rfl)
      (pss_cons (ps_fld (pv 0) (pv 5) rfl)
      (pss_one (ps_fld (pv 0) (pv 6) rfl))))))), ?_⟩)
  · obtain ⟨p, dx, tg, x, rfl, _⟩ := h
    rfl
  · obtain ⟨p, dx, tg, x, rfl, hp, k⟩ := h
    refine ⟨_, rfl, _, rfl, p, _, dx, _, rfl, hp, T.c_Message.cl, T.c_Message.n _ (by decide +kernel), lt1000 rfl, ?_⟩
    refine ⟨_, rfl, _, rfl, p, _, dx, _, rfl, upd_same, T.c_Message.cl, T.c_Message.n _ (by decide +kernel), lt1000 rfl, ?_⟩
    refine ⟨_, rfl, _, rfl, p, _, dx, _, rfl, upd_same, T.c_Message.cl, T.c_Message.n _ (by decide +kernel), lt1000 rfl, ?_⟩
    refine ⟨_, rfl, _, rfl, p, _, dx, _, rfl, upd_same, T.c_Message.cl, T.c_Message.n _ (by decide +kernel), lt1000 rfl, ?_⟩
    refine ⟨_, rfl, _, rfl, p, _, dx, _, rfl, upd_same, T.c_Message.cl, T.c_Message.n _ (by decide +kernel), lt1000 rfl, ?_⟩
    refine ⟨_, rfl, _, rfl, p, _, dx, _, rfl, upd_same, T.c_Message.cl, T.c_Message.n _ (by decide +kernel), lt1000 rfl, ?_⟩
    exact k _ ⟨upd_same, fun b o h n => by
      rw [upd_ne n, upd_ne n, upd_ne n, upd_ne n, upd_ne n, upd_ne n]
      exact h⟩
/-! ### Operation -/
def spOpI (T : Txt K mg) : Sp := fun vs H Q _ => ∃ (p dx : Addr) (wr : Bool) (c v t : Nat), vs = [.ref p, .bl wr, .int c, .int v, .int t] ∧ H p = some (.ins T.c_Operation.C dx []) ∧
  ∀ H', Made H H' p (.ins T.c_Operation.C dx (oF ⟨c, wr, v, t, none⟩)) → Q .non H'
theorem ok_Operation (T : Txt K mg) : FnOk P w K mg base CX0 1 T.d_Operation___init__.f T.d_Operation___init__.fd ["self", "writing", "customer", "value", "began"] (spOpI T) := by
  refine T.d_Operation___init__.F.ok sc_Operation___init__ (fun vs H Q E h => ?_) (fun cdv A outer s H vs Q E hr h => ⟨_, (pss_cons (ps_fld (pv 0) (pv 1) rfl)
      (pss_cons (ps_fld (pv 0) (pv 2) rfl)
      (pss_cons (ps_fld (pv 0) (pv 3) rfl)
      (pss_cons (ps_fld (pv 0) (pv 4) rfl)
      (pss_one (ps_fld (pv 0) pe_int rfl)))))), ?_⟩)
  · obtain ⟨p, dx, wr, c, v, t, rfl, _⟩ := h
    rfl
  · obtain ⟨p, dx, wr, c, v, t, rfl, hp, k⟩ := h
    refine ⟨_, rfl, _, rfl, p, _, dx, _, rfl, hp, T.c_Operation.cl, T.c_Operation.n _ (by decide +kernel), lt1000 rfl, ?_⟩
    refine ⟨_, rfl, _, rfl, p, _, dx, _, rfl, upd_same, T.c_Operation.cl, T.c_Operation.n _ (by decide +kernel), lt1000 rfl, ?_⟩
    refine ⟨_, rfl, _, rfl, p, _, dx, _, rfl, upd_same, T.c_Operation.cl, T.c_Operation.n _ (by decide +kernel), lt1000 rfl, ?_⟩
    refine ⟨_, rfl, _, rfl, p, _, dx, _, rfl, upd_same, T.c_Operation.cl, T.c_Operation.n _ (by decide +kernel), lt1000 rfl, ?_⟩
    refine ⟨_, rfl, p, _, dx, _, rfl, upd_same, T.c_Operation.cl, T.c_Operation.n _ (by decide +kernel), lt1000 rfl, ?_⟩
    exact k _ ⟨upd_same, fun b o h n => by
      rw [upd_ne n, upd_ne n, upd_ne n, upd_ne n, upd_ne n]
      exact h⟩
/-! ### Machine -/
/-- the object made is new, as is all else that came: what was tracked stands -/
def spMachI (T : Txt K mg) : Sp := fun vs H Q _ => ∃ (p dx : Addr), vs = [.ref p] ∧ H p = some (.ins T.c_Machine.C dx []) ∧
  ∀ H', MachAt T.ca H' p ⟨true, Su153.none_, 0⟩ → Chg p H H' → Q .non H'
theorem ok_Machine (T : Txt K mg) : FnOk P w K mg base CX0 1 T.d_Machine___init__.f T.d_Machine___init__.fd ["self"] (spMachI T) := by
  refine T.d_Machine___init__.F.ok sc_Machine___init__ (fun vs H Q E h => ?_) (fun cdv A outer s H vs Q E hr h => ⟨_, (pss_cons (ps_fld (pv 0) pe_bl rfl)
      (pss_cons (ps_fld (pv 0) (pe_tup (pa_cons pe_int (pa_cons pe_int pa_nil))) rfl)
      (pss_one (ps_fld (pv 0) pe_int rfl)))), ?_⟩)
  · obtain ⟨p, dx, rfl, _⟩ := h
    rfl
  · obtain ⟨p, dx, rfl, hp, k⟩ := h
    refine ⟨_, rfl, p, _, dx, _, rfl, hp, T.c_Machine.cl, T.c_Machine.n _ (by decide +kernel), lt1000 rfl, ?_⟩
    refine ⟨(by show 2 ≤ sizeLine; decide), fun t ht => ?_⟩
    have np : p ≠ t := ne_of_none upd_same ht
    refine ⟨_, rfl, p, _, dx, _, rfl, (by rw [upd_ne np]; exact upd_same), T.c_Machine.cl, T.c_Machine.n _ (by decide +kernel), lt1000 rfl, ?_⟩
    refine ⟨_, rfl, p, _, dx, _, rfl, upd_same, T.c_Machine.cl, T.c_Machine.n _ (by decide +kernel), lt1000 rfl, ?_⟩
    refine k _ ⟨dx, t, upd_same, ?_⟩ fun b o h n => ?_
    · show upd _ p _ t = _
      rw [upd_ne np.symm, upd_ne np.symm, upd_same]
      rfl
    · have nt : b ≠ t := ne_of_none (show upd H p _ b = some o by rw [upd_ne n]; exact h) ht
      rw [upd_ne n, upd_ne n, upd_ne nt, upd_ne n]
      exact h
end
end Ea

/-! The bodies: a customer, a store. -/
namespace Ea
open PySem PySem.Spec PyProof.Rows L2
section
variable {P : Program} {w : World} {K : PySem.W.Frag} {mg : Str → Option Value} {base : Heap}
theorem lenF {f : Str} {v : V} : ∀ {fs : List (Str × V)}, (putF f v fs).length ≤ fs.length + 1
  | [] => Nat.le_refl _
  | (g, x) :: r => by
    have ih := lenF (f := f) (v := v) (fs := r)
    unfold putF
    split
    · exact Nat.le_succ _
    · exact Nat.succ_le_succ ih
def spForget (T : Txt K mg) : Sp := fun vs H Q _ => ∃ (p dx : Addr) (fs : List (Str × V)), vs = [.ref p] ∧ H p = some (.ins T.c_Customer.C dx fs) ∧ fs.length ≤ 10 ∧
  ∀ (H' : Hp) (ct tg : Addr), H' p = some (.ins T.c_Customer.C dx (putF "value" (.int 0) (putF "tag" (.ref tg) (putF "counted" (.ref ct) fs)))) → H ct = none → H' ct = some (.lst []) → TagAt H' tg Su153.none_ → Chg p H H' → Q .non H'
theorem ok_forget (T : Txt K mg) : FnOk P w K mg base CX0 1 T.d_Customer_forget.f T.d_Customer_forget.fd ["self"] (spForget T) := by
  refine T.d_Customer_forget.F.ok sc_Customer_forget (fun vs H Q E h => ?_) (fun cdv A outer s H vs Q E hr h => ⟨_, (pss_cons (ps_fld (pv 0) (pe_lst pa_nil) rfl)
      (pss_cons (ps_fld (pv 0) (pe_tup (pa_cons pe_int (pa_cons pe_int pa_nil))) rfl)
      (pss_one (ps_fld (pv 0) pe_int rfl)))), ?_⟩)
  · obtain ⟨p, dx, fs, rfl, _⟩ := h
    rfl
  · obtain ⟨p, dx, fs, rfl, hp, hl, k⟩ := h
    refine ⟨Nat.zero_le _, fun ct hc => ?_⟩
    have nc : p ≠ ct := ne_of_none hp hc
    refine ⟨_, rfl, p, _, dx, _, rfl, (by rw [upd_ne nc]; exact hp), T.c_Customer.cl, T.c_Customer.n _ (by decide +kernel), Nat.lt_of_le_of_lt hl (by decide), ?_⟩
    refine ⟨(by show 2 ≤ sizeLine; decide), fun tg ht => ?_⟩
    have nt : p ≠ tg := ne_of_none upd_same ht
    have nct : ct ≠ tg := ne_of_none (show upd (upd H ct _) p _ ct = _ by rw [upd_ne nc.symm, upd_same]) ht
    refine ⟨_, rfl, p, _, dx, _, rfl, (by rw [upd_ne nt]; exact upd_same), T.c_Customer.cl, T.c_Customer.n _ (by decide +kernel), Nat.lt_of_le_of_lt (Nat.le_trans lenF (Nat.succ_le_succ hl)) (by decide), ?_⟩
    refine ⟨_, rfl, p, _, dx, _, rfl, upd_same, T.c_Customer.cl, T.c_Customer.n _ (by decide +kernel), Nat.lt_of_le_of_lt (Nat.le_trans lenF (Nat.succ_le_succ (Nat.le_trans lenF (Nat.succ_le_succ hl)))) (by decide), ?_⟩
    refine k _ ct tg upd_same hc ?_ ?_ fun b o h n => ?_
    · rw [upd_ne nc.symm, upd_ne nc.symm, upd_ne nct, upd_ne nc.symm, upd_same]
    · show upd _ p _ tg = _
      rw [upd_ne nt.symm, upd_ne nt.symm, upd_same]
      rfl
    · have n1 : b ≠ ct := ne_of_none h hc
      have n2 : b ≠ tg := ne_of_none (show upd (upd H ct _) p _ b = some o by rw [upd_ne n, upd_ne n1]; exact h) ht
      rw [upd_ne n, upd_ne n, upd_ne n2, upd_ne n, upd_ne n1]
      exact h
def spCustI (T : Txt K mg) : Sp := fun vs H Q _ => ∃ (p dx : Addr), vs = [.ref p] ∧ H p = some (.ins T.c_Customer.C dx []) ∧
  ∀ (H' : Hp) (ct : Addr), CustAt T.ca H' p ct ⟨0, 0, [], Su153.none_, 0⟩ → H ct = none → Chg p H H' → Q .non H'
theorem ok_Customer (T : Txt K mg) : FnOk P w K mg base CX0 2 T.d_Customer___init__.f T.d_Customer___init__.fd ["self"] (spCustI T) := by
  have G_Customer_forget := ok_forget (P := P) (w := w) (base := base) T
  refine T.d_Customer___init__.F.ok sc_Customer___init__ (fun vs H Q E h => ?_) (fun cdv A outer s H vs Q E hr h => ⟨_, (pss_cons (ps_fld (pv 0) (pe_gc (by rfl) T.k_IDLE) rfl)
      (pss_cons (ps_fld (pv 0) pe_int rfl)
      (pss_one (ps_expr (pe_meth0 (pv 0) T.c_Customer.cl T.d_Customer_forget.m G_Customer_forget (hr.mono (by decide)) T.d_Customer_forget.b .nil pass0))))), ?_⟩)
  · obtain ⟨p, dx, rfl, _⟩ := h
    rfl
  · obtain ⟨p, dx, rfl, hp, k⟩ := h
    refine ⟨_, rfl, p, _, dx, _, rfl, hp, T.c_Customer.cl, T.c_Customer.n _ (by decide +kernel), lt1000 rfl, ?_⟩
    refine ⟨_, rfl, p, _, dx, _, rfl, upd_same, T.c_Customer.cl, T.c_Customer.n _ (by decide +kernel), lt1000 rfl, ?_⟩
    refine ⟨_, rfl, p, dx, _, rfl, upd_same, rfl, ?_⟩
    refine ⟨p, dx, _, rfl, upd_same, Nat.le_of_ble_eq_true rfl, fun H' ct tg h1 h2 h3 h4 h5 => ?_⟩
    refine k H' ct ⟨dx, tg, h1, h4, h3⟩ ?_ fun b o h n => h5 b o (by rw [upd_ne n, upd_ne n]; exact h) n
    · cases e : H ct with
      | none => rfl
      | some o =>
        have n : ct ≠ p := fun e => by
          rw [e, upd_same] at h2
          cases h2
        rw [upd_ne n, upd_ne n, e] at h2
        cases h2
end
end Ea

namespace Ea
open PySem PySem.Spec PyProof.Rows L2
section
variable {P : Program} {w : World} {K : PySem.W.Frag} {mg : Str → Option Value} {base : Heap}
/-- [C() for place in range(n)]: so many new objects -/
def Objs (AT : Hp → Addr → Addr → Prop) (H : Hp) (D : Addr) (i : Nat) (H' : Hp) : Prop := ∃ ms ts : List Addr, ms.length = i ∧ ts.length = i ∧ H' D = some (.lst (ms.map V.ref)) ∧ ms.Nodup ∧ ts.Nodup ∧
    (∀ (i : Nat) q t, ms[i]? = some q → ts[i]? = some t → AT H' q t ∧ q ≠ D) ∧ (∀ q, q ∈ ms → H q = none) ∧ (∀ t, t ∈ ts → H t = none ∧ t ≠ D) ∧ Same H H'
theorem objs0 {AT : Hp → Addr → Addr → Prop} {H : Hp} {D : Addr} (hD : H D = none) : Objs AT H D 0 (upd H D (.lst [])) := by
  refine ⟨[], [], rfl, rfl, upd_same, List.nodup_nil, List.nodup_nil, (fun i q t h => by cases h), (fun q h => by cases h), (fun q h => by cases h), fun b o h => ?_⟩
  rw [upd_ne (ne_of_none h hD)]
  exact h
structure ObjLaw (AT : Hp → Addr → Addr → Prop) : Prop where
  same : ∀ {H H' : Hp} {q t : Addr}, AT H q t → Same H H' → AT H' q t
  tr : ∀ {H : Hp} {q t : Addr}, AT H q t → (∃ o, H q = some o) ∧ ∃ o, H t = some o
  chgD : ∀ {H : Hp} {q t D : Addr} {xs ys : List V}, AT H q t → H D = some (.lst xs) → q ≠ D → t ≠ D → AT (upd H D (.lst ys)) q t
theorem objs_step {AT : Hp → Addr → Addr → Prop} {H H' H2 : Hp} {D q t : Addr} {i : Nat} (law : ObjLaw AT) (hD : H D = none) (hi : i ≤ 1000) (h : Objs AT H D i H') (nq : H' q = none) (nt : H' t = none) (at2 : AT H2 q t) (s2 : Same H' H2) :
    ∃ acc, H2 D = some (.lst acc) ∧ acc.length < sizeLine ∧ Objs AT H D (i + 1) (upd H2 D (.lst (acc ++ [.ref q]))) := by
  obtain ⟨ms, ts, e1, e2, e3, e4, e5, e6, e7, e8, e9⟩ := h
  refine ⟨ms.map V.ref, s2 _ _ e3, ?_, ms ++ [q], ts ++ [t], ?_, ?_, ?_, ?_, ?_, ?_, ?_, ?_, ?_⟩
  · rw [List.length_map, e1]
    exact small1000 (by omega)
  · rw [List.length_append, e1] <;> rfl
  · rw [List.length_append, e2] <;> rfl
  · rw [upd_same, List.map_append] <;> rfl
  · refine List.nodup_append.mpr ⟨e4, List.nodup_cons.mpr ⟨(fun h => by cases h), List.nodup_nil⟩, fun x hx y hy e => ?_⟩
    cases List.mem_singleton.mp hy
    obtain ⟨i, hi⟩ := List.getElem?_of_mem hx
    obtain ⟨t', ht'⟩ := get_of_lt (l := ts) (i := i) (by rw [e2, ← e1]; exact lt_of_get hi)
    obtain ⟨⟨o, ho⟩, _⟩ := law.tr (e6 i x t' hi ht').1
    rw [e, nq] at ho
    cases ho
  · refine List.nodup_append.mpr ⟨e5, List.nodup_cons.mpr ⟨(fun h => by cases h), List.nodup_nil⟩, fun x hx y hy e => ?_⟩
    cases List.mem_singleton.mp hy
    obtain ⟨i, hi⟩ := List.getElem?_of_mem hx
    obtain ⟨t', ht'⟩ := get_of_lt (l := ms) (i := i) (by rw [e1, ← e2]; exact lt_of_get hi)
    obtain ⟨_, o, ho⟩ := law.tr (e6 i t' x ht' hi).1
    rw [e, nt] at ho
    cases ho
  · intro i' q' t' h1 h2
    have z : AT H2 q' t' ∧ q' ≠ D ∧ t' ≠ D := by
      rcases snoc_get h1 with ⟨f1, rfl⟩ | ⟨l1, h1⟩
      · rcases snoc_get h2 with ⟨_, rfl⟩ | ⟨l2, h2⟩
        · exact ⟨at2, (fun e => by rw [e, e3] at nq; cases nq), (fun e => by rw [e, e3] at nt; cases nt)⟩
        · omega
      · rcases snoc_get h2 with ⟨f2, rfl⟩ | ⟨l2, h2⟩
        · omega
        · have w := e6 i' q' t' h1 h2
          exact ⟨law.same w.1 s2, w.2, (e8 t' (List.mem_of_getElem? h2)).2⟩
    exact ⟨law.chgD z.1 (s2 _ _ e3) z.2.1 z.2.2, z.2.1⟩
  · intro x hx
    rcases List.mem_append.mp hx with h | h
    · exact e7 x h
    · cases List.mem_singleton.mp h
      exact Same.free e9 nq
  · intro x hx
    rcases List.mem_append.mp hx with h | h
    · exact e8 x h
    · cases List.mem_singleton.mp h
      exact ⟨Same.free e9 nt, fun e => by rw [e, e3] at nt; cases nt⟩
  · intro b o h
    rw [upd_ne (ne_of_none h hD)]
    exact s2 _ _ (e9 _ _ h)
def newM : Su153.Machine := ⟨true, Su153.none_, 0⟩
def newC : Su153.Customer := ⟨0, 0, [], Su153.none_, 0⟩
def AtM (c : CA) (H : Hp) (q t : Addr) : Prop := MachAt c H q newM ∧ t = q
def AtC (c : CA) (H : Hp) (q t : Addr) : Prop := CustAt c H q t newC
theorem lawM (c : CA) : ObjLaw (AtM c) where
  same := fun h s => ⟨h.1.same s, h.2⟩
  tr := fun ⟨⟨_, _, h, _⟩, e⟩ => ⟨⟨_, h⟩, ⟨_, e ▸ h⟩⟩
  chgD := fun h hD n1 _ => ⟨h.1.keep .upd (.lst hD) n1, h.2⟩
theorem lawC (c : CA) : ObjLaw (AtC c) where
  same := fun h s => CustAt.same s h
  tr := fun ⟨_, _, h, _, h2⟩ => ⟨⟨_, h⟩, ⟨_, h2⟩⟩
  chgD := fun h hD n1 n2 => CustAt.keep .upd (.lst hD) n1 n2 h
theorem store_new {c : CA} {H2 Hf : Hp} {p D D2 gL oL dx d0 : Addr} {r0 : List (Str × V)} {ms cs cts : List Addr} {n cc q t on : Nat} (hf : Hf p = some (.ins c.S dx (sF (Su153.Abs.new n cc q t (on == 1)) ⟨D, D2, gL, oL, ms, cs, cts, [], []⟩)))
    (h2 : H2 p = some (.ins c.S d0 r0)) (kf : Chg p H2 Hf) (hg : Hf gL = some (.lst [])) (ho : Hf oL = some (.lst [])) (eD : H2 D = some (.lst (ms.map V.ref))) (eD2 : H2 D2 = some (.lst (cs.map V.ref))) (ng : H2 gL = none) (no : H2 oL = none) (ngo : gL ≠ oL) (nDD : D ≠ D2)
    (nD : D ∉ cts) (nD2 : D2 ∉ cts) (m3 : ms.Nodup) (c4 : cs.Nodup) (c5 : cts.Nodup) (m1 : ms.length = n) (c1 : cs.length = cc) (c2 : cts.length = cc) (hm : ∀ q, q ∈ ms → MachAt c H2 q newM ∧ q ≠ p)
    (hc : ∀ (i : Nat) q t, cs[i]? = some q → cts[i]? = some t → CustAt c H2 q t newC ∧ q ≠ p) : StoreAt c Hf p ⟨D, D2, gL, oL, ms, cs, cts, [], []⟩ (Su153.Abs.new n cc q t (on == 1)) := by
  have nt : NoTup H2 p := .ins h2
  have nl : ∀ {b : Addr} {xs : List V}, H2 b = some (.lst xs) → b ≠ p := fun h e => by rw [e, h2] at h; cases h
  have track : ∀ t, t ∈ cts → ∃ o, H2 t = some o := fun t ht => by
    obtain ⟨i, hi⟩ := List.getElem?_of_mem ht
    obtain ⟨q, hq⟩ := get_of_lt (l := cs) (i := i) (by rw [c1, ← c2]; exact lt_of_get hi)
    obtain ⟨_, _, _, _, h⟩ := (hc i q t hq hi).1
    exact ⟨_, h⟩
  refine ⟨⟨dx, hf⟩, kf _ _ eD (nl eD), kf _ _ eD2 (nl eD2), hg, ho, ?_, ?_, ?_, rfl, rfl, ?_, ?_, (fun i q x h => by cases h), (fun i q x h => by cases h), m3, c4, List.nodup_nil, ?_⟩
  · show ms.length = (List.replicate n _).length
    rw [List.length_replicate]
    exact m1
  · show cs.length = (List.replicate cc _).length
    rw [List.length_replicate]
    exact c1
  · show cts.length = (List.replicate cc _).length
    rw [List.length_replicate]
    exact c2
  · intro i q m h1 h2'
    have e : m = newM := List.eq_of_mem_replicate (List.mem_of_getElem? h2')
    subst e
    have z := hm q (List.mem_of_getElem? h1)
    exact z.1.keep kf nt z.2
  · intro i q t z h1 h2' h3
    have e : z = newC := List.eq_of_mem_replicate (List.mem_of_getElem? h3)
    subst e
    have w := hc i q t h1 h2'
    obtain ⟨_, _, _, _, w3⟩ := id w.1
    exact w.1.keep kf nt w.2 (nl w3)
  · have tg : ∀ {b : Addr}, H2 b = none → b ∉ cts := fun e hb => by
      obtain ⟨o, ho⟩ := track _ hb
      rw [e] at ho
      cases ho
    have nn : ∀ {b d : Addr} {xs : List V}, H2 b = some (.lst xs) → H2 d = none → b ≠ d := fun h1 h2 => ne_of_none h1 h2
    simp only [List.nodup_cons, List.mem_cons, not_or]
    exact ⟨⟨nDD, nn eD ng, nn eD no, nD⟩, ⟨nn eD2 ng, nn eD2 no, nD2⟩, ⟨ngo, tg ng⟩, tg no, c5⟩
theorem chg_upds7 {p gL oL : Addr} {H : Hp} {o1 o2 o3 o4 o5 o6 u v : HO} (hg : H gL = none) (ho : H oL = none) : Chg p H (upd (upd (upd (upd (upd (upd (upd (upd H p o1) p o2) p o3) p o4) gL u) p o5) oL v) p o6) := fun b o e n => by
  rw [upd_ne n, upd_ne (ne_of_none e ho), upd_ne n, upd_ne (ne_of_none e hg), upd_ne n, upd_ne n, upd_ne n, upd_ne n]
  exact e
def spStoreI (T : Txt K mg) : Sp := fun vs H Q _ => ∃ (p dx : Addr) (n c q t on : Nat), vs = [.ref p, .int n, .int c, .int q, .int t, .int on] ∧ Su153.okBegin n c q t on = true ∧ H p = some (.ins T.c_Store.C dx []) ∧
  ∀ (H' : Hp) (L : Lay), StoreAt T.ca H' p L (Su153.Abs.new n c q t (on == 1)) → (∀ b, b ∈ foot p L → b = p ∨ H b = none) → Chg p H H' → Q .non H'
theorem ok_Store (T : Txt K mg) : FnOk P w K mg base CX0 4 T.d_Store___init__.f T.d_Store___init__.fd ["self", "machines", "customers", "asked", "told", "on"] (spStoreI T) := by
  have G_Machine___init__ := ok_Machine (P := P) (w := w) (base := base) T
  have G_Customer___init__ := ok_Customer (P := P) (w := w) (base := base) T
  refine T.d_Store___init__.F.ok sc_Store___init__ (fun vs H Q E h => ?_) (fun cdv A outer s H vs Q E hr h => ⟨_, (pss_cons (ps_fld (pv 0) pe_int rfl)
      (pss_cons (ps_fld (pv 0) (pe_lc (own := [("place", 6)]) (g := gName 6) (by rfl) sc_Store___init__.nd (pi_range1 (by rfl) T.b_range (pa_cons (pv 1) pa_nil)) (blkOk_by (own := [("place", 6)]) (N := ["self", "machines", "customers", "asked", "told", "on", "place"]) (sc := defScope s_Store___init__) (by decide +kernel)) (fun _ _ _ _ _ => by exact pg_name (i := 6) sc_Store___init__.nd rfl (Or.inl rfl)) (fun _ _ _ _ _ => by exact pts_nil) (fun _ _ _ _ _ => by exact (pe_make0 (mk_of T.c_Machine T.d_Machine___init__) G_Machine___init__ (hr.mono (by decide)) (by rfl) T.c_Machine.g T.d_Machine___init__.b .nil pass0))) rfl)
      (pss_cons (ps_fld (pv 0) (pe_lc (own := [("place", 6)]) (g := gName 6) (by rfl) sc_Store___init__.nd (pi_range1 (by rfl) T.b_range (pa_cons (pv 2) pa_nil)) (blkOk_by (own := [("place", 6)]) (N := ["self", "machines", "customers", "asked", "told", "on", "place"]) (sc := defScope s_Store___init__) (by decide +kernel)) (fun _ _ _ _ _ => by exact pg_name (i := 6) sc_Store___init__.nd rfl (Or.inl rfl)) (fun _ _ _ _ _ => by exact pts_nil) (fun _ _ _ _ _ => by exact (pe_make0 (mk_of T.c_Customer T.d_Customer___init__) G_Customer___init__ (hr.mono (by decide)) (by rfl) T.c_Customer.g T.d_Customer___init__.b .nil pass0))) rfl)
      (pss_cons (ps_fld (pv 0) (pv 3) rfl)
      (pss_cons (ps_fld (pv 0) (pv 4) rfl)
      (pss_cons (ps_fld (pv 0) (pv 5) rfl)
      (pss_cons (ps_fld (pv 0) (pe_lst pa_nil) rfl)
      (pss_one (ps_fld (pv 0) (pe_lst pa_nil) rfl))))))))), ?_⟩)
  · obtain ⟨p, dx, n, c, q, t, on, rfl, _⟩ := h
    rfl
  · obtain ⟨p, dx, n, c, q, t, on, rfl, hok, hp, k⟩ := h
    have hok' := hok
    unfold Su153.okBegin at hok'
    simp only [Bool.and_eq_true, decide_eq_true_eq] at hok'
    obtain ⟨b1, b2, b3, b4, b5⟩ := hok'
    have b1' : n ≤ 5 := b1.2
    have b2' : c ≤ 4 := b2.2
    have stay : ∀ {H1 H2 : Hp} {o o' : HO}, H1 p = some o → Same H1 H2 → H2 p = some o := fun h s => s _ _ h
    refine ⟨_, rfl, p, _, dx, _, rfl, hp, T.c_Store.cl, T.c_Store.n _ (by decide +kernel), lt1000 rfl, ?_⟩
    refine ⟨_, rfl, _, rfl, by omega, by omega, fun D hD => lc_range (lo := 0) (n := n) (Objs (AtM T.ca) _ D) (objs0 hD) (fun i H1 hi h => ⟨rfl, fun x dx nx nd ne => ⟨x, dx, rfl, upd_same, fun H2 h1 h2 => ⟨rfl, ?_⟩⟩⟩) fun H1 h => ?_⟩
    · exact objs_step (lawM T.ca) hD (by omega) h nx nx ⟨h1, rfl⟩ (Same.made nx nd h2)
    obtain ⟨ms, ts, m1, m1', m2, m3, _, m4, m5, _, s1⟩ := h
    have m4 : ∀ (i : Nat) q, ms[i]? = some q → MachAt T.ca H1 q newM := fun i q hq => by
      obtain ⟨t', ht'⟩ := get_of_lt (l := ts) (i := i) (by rw [m1', ← m1]; exact lt_of_get hq)
      exact (m4 i q t' hq ht').1.1
    refine ⟨_, rfl, p, _, dx, _, rfl, s1 _ _ upd_same, T.c_Store.cl, T.c_Store.n _ (by decide +kernel), lt1000 rfl, ?_⟩
    refine ⟨_, rfl, _, rfl, by omega, by omega, fun D2 hD2 => lc_range (lo := 0) (n := c) (Objs (AtC T.ca) _ D2) (objs0 hD2) (fun i H2 hi h => ⟨rfl, fun x dx nx nd ne => ⟨x, dx, rfl, upd_same, fun H3 ct h1 hc h2 => ⟨rfl, ?_⟩⟩⟩) fun H2 h => ?_⟩
    · exact objs_step (lawC T.ca) hD2 (by omega) h nx (Same.free (fun b o q => by rw [upd_ne (ne_of_none q nx), upd_ne (ne_of_none q nd)]; exact q) hc) h1 (Same.made nx nd h2)
    obtain ⟨cs, cts, c1, c2, c3, c4, c5, c6, c7, c8, s2⟩ := h
    refine ⟨_, rfl, p, _, dx, _, rfl, s2 _ _ upd_same, T.c_Store.cl, T.c_Store.n _ (by decide +kernel), lt1000 rfl, ?_⟩
    refine ⟨_, rfl, _, rfl, p, _, dx, _, rfl, upd_same, T.c_Store.cl, T.c_Store.n _ (by decide +kernel), lt1000 rfl, ?_⟩
    refine ⟨_, rfl, _, rfl, p, _, dx, _, rfl, upd_same, T.c_Store.cl, T.c_Store.n _ (by decide +kernel), lt1000 rfl, ?_⟩
    refine ⟨_, rfl, _, rfl, p, _, dx, _, rfl, upd_same, T.c_Store.cl, T.c_Store.n _ (by decide +kernel), lt1000 rfl, ?_⟩
    refine ⟨Nat.zero_le _, fun gL hg => ?_⟩
    have ng : p ≠ gL := ne_of_none upd_same hg
    refine ⟨_, rfl, p, _, dx, _, rfl, (by rw [upd_ne ng]; exact upd_same), T.c_Store.cl, T.c_Store.n _ (by decide +kernel), lt1000 rfl, ?_⟩
    refine ⟨Nat.zero_le _, fun oL ho => ?_⟩
    have no : p ≠ oL := ne_of_none upd_same ho
    refine ⟨_, rfl, p, _, dx, _, rfl, (by rw [upd_ne no]; exact upd_same), T.c_Store.cl, T.c_Store.n _ (by decide +kernel), lt1000 rfl, ?_⟩
    have pM : H1 p = some (.ins T.c_Store.C dx (putF "time" (.int 0) [])) := s1 _ _ upd_same
    have pC : H2 p = some (.ins T.c_Store.C dx (putF "machines" (.ref D) (putF "time" (.int 0) []))) := s2 _ _ upd_same
    have ntM : NoTup H1 p := .ins pM
    have ntC : NoTup H2 p := .ins pC
    have k1 : Chg p H1 H2 := fun b o e n => s2 b o (by rw [upd_ne n]; exact e)
    have freeH : ∀ {b : Addr}, H1 b = none → H b = none := fun {b} e => by
      have z := Same.free s1 e
      have n : b ≠ p := fun q => by rw [q, upd_same] at z; cases z
      rw [upd_ne n] at z
      exact z
    have free1 : ∀ {b : Addr}, H2 b = none → H1 b = none := fun {b} e => by
      have z := Same.free s2 e
      have n : b ≠ p := fun q => by rw [q, upd_same] at z; cases z
      rw [upd_ne n] at z
      exact z
    have hg0 : H2 gL = none := by
      rw [upd_ne ng.symm, upd_ne ng.symm, upd_ne ng.symm, upd_ne ng.symm] at hg
      exact hg
    have nog : oL ≠ gL := fun e => by
      rw [e, upd_ne ng.symm, upd_same] at ho
      cases ho
    have ho0 : H2 oL = none := by
      rw [upd_ne no.symm, upd_ne nog, upd_ne no.symm, upd_ne no.symm, upd_ne no.symm, upd_ne no.symm] at ho
      exact ho
    have hDm : H D = none := by
      have n : D ≠ p := fun q => by rw [q, upd_same] at hD; cases hD
      rw [upd_ne n] at hD
      exact hD
    have hDc : H1 D2 = none := by
      have n : D2 ≠ p := fun q => by rw [q, upd_same] at hD2; cases hD2
      rw [upd_ne n] at hD2
      exact hD2
    have nDp : D ≠ p := fun q => by rw [q, hp] at hDm; cases hDm
    have eD : H2 D = some (.lst (ms.map V.ref)) := k1 _ _ m2 nDp
    have nD2p : D2 ≠ p := ne_head c3 pC (fun e => by cases e)
    have eon : onI (on == 1) = (on : Int) := by
      have : on = 0 ∨ on = 1 := by omega
      rcases this with rfl | rfl <;> rfl
    refine k _ ⟨D, D2, gL, oL, ms, cs, cts, [], []⟩ (store_new (on := on) (H2 := H2) (dx := dx) ?hf pC ?kf ?hg ?ho eD c3 hg0 ho0 nog.symm ?nDD ?nD ?nD2 m3 c4 c5 m1 c1 c2 ?hm ?hc) ?ft ?ch
    case kf => exact chg_upds7 hg0 ho0
    case hf =>
      show upd _ p _ p = _
      rw [upd_same, sF, show (Su153.Abs.new n c q t (on == 1)).on = (on == 1) from rfl, eon]
      rfl
    case hg =>
      show upd (upd (upd (upd _ gL _) p _) oL _) p _ gL = _
      rw [upd_ne ng.symm, upd_ne nog.symm, upd_ne ng.symm, upd_same]
    case ho =>
      show upd (upd (upd (upd _ gL _) p _) oL _) p _ oL = _
      rw [upd_ne no.symm, upd_same]
    case nDD => exact ne_of_none m2 hDc
    case nD =>
      intro h
      have z := (c8 _ h).1
      rw [upd_ne nDp, m2] at z
      cases z
    case nD2 => exact fun h => (c8 _ h).2 rfl
    case hm =>
      intro x hx
      obtain ⟨i, hi⟩ := List.getElem?_of_mem hx
      have w := m4 i x hi
      have n : x ≠ p := fun e => by
        have z := m5 x hx
        rw [e, upd_same] at z
        cases z
      exact ⟨w.keep k1 ntM n, n⟩
    case hc =>
      intro i x t' h1 h2
      have n : x ≠ p := fun e => by
        have z := c7 x (List.mem_of_getElem? h1)
        rw [e, upd_same] at z
        cases z
      exact ⟨(c6 i x t' h1 h2).1, n⟩
    case ch =>
      intro b o e n
      exact chg_upds7 hg0 ho0 _ _ (k1 _ _ (s1 _ _ (by rw [upd_ne n]; exact e)) n) n
    case ft =>
      intro b hb
      unfold foot at hb
      simp only [List.mem_cons, List.mem_append, List.append_nil] at hb
      have nil : ∀ {x : Addr}, upd H p (HO.ins T.c_Store.C dx (putF "time" (.int 0) [])) x = none → H x = none := fun {x} z => by
        have n : x ≠ p := fun e => by rw [e, upd_same] at z; cases z
        rw [upd_ne n] at z
        exact z
      have nil1 : ∀ {x : Addr}, upd H1 p (HO.ins T.c_Store.C dx (putF "machines" (.ref D) (putF "time" (.int 0) []))) x = none → H x = none := fun {x} z => by
        have n : x ≠ p := fun e => by rw [e, upd_same] at z; cases z
        rw [upd_ne n] at z
        exact freeH z
      rcases hb with rfl | rfl | rfl | rfl | rfl | h | h | h
      · exact .inl rfl
      · exact .inr hDm
      · exact .inr (freeH hDc)
      · exact .inr (freeH (free1 hg0))
      · exact .inr (freeH (free1 ho0))
      · exact .inr (nil (m5 _ h))
      · exact .inr (nil1 (c7 _ h))
      · exact .inr (nil1 (c8 _ h).1)
end
end Ea

/-! The bodies of coming.py: sending. -/
namespace Ea
open PySem PySem.Spec PyProof.Rows L2
theorem StoreAt.push {c : CA} {H : Hp} {st q : Addr} {L : Lay} {a : Su153.Abs} {x : Su153.Msg} (S : StoreAt c H st L a) (hm : MsgAt c H q x) :
    StoreAt c (upd H L.gL (.lst (L.gs.map V.ref ++ [.ref q]))) st { L with gs := L.gs ++ [q] } (a.send [x]) := by
  refine S.setG .upd (by rw [upd_same, List.map_append] <;> rfl) ?_ fun i r y h1 h2 => ?_
  · rw [List.length_append, List.length_append, S.gl] <;> rfl
  · rcases snoc_get h1 with ⟨e1, rfl⟩ | ⟨l1, h1⟩
    · rcases snoc_get h2 with ⟨_, rfl⟩ | ⟨l2, h2⟩
      · exact hm
      · rw [← S.gl] at l2
        omega
    · rcases snoc_get h2 with ⟨e2, rfl⟩ | ⟨l2, h2⟩
      · rw [← S.gl] at e2
        omega
      · exact S.gAt i r y h1 h2
theorem mem_gL {st : Addr} {L : Lay} : L.gL ∈ foot st L := by simp [foot]
theorem mem_oL {st : Addr} {L : Lay} : L.oL ∈ foot st L := by simp [foot]
theorem mem_st {st : Addr} {L : Lay} : st ∈ foot st L := by simp [foot]
theorem mem_ms {st q : Addr} {L : Lay} (h : q ∈ L.ms) : q ∈ foot st L := by simp [foot, h]
theorem mem_cs {st q : Addr} {L : Lay} (h : q ∈ L.cs) : q ∈ foot st L := by simp [foot, h]
theorem mem_cts {st q : Addr} {L : Lay} (h : q ∈ L.cts) : q ∈ foot st L := by simp [foot, h]
theorem mem_os {st q : Addr} {L : Lay} (h : q ∈ L.os) : q ∈ foot st L := by simp [foot, h]
/-- one object more -/
theorem same_make {H H1 : Hp} {x dx C : Addr} {o : HO} (nx : H x = none) (nd : H dx = none) (M : Made (upd (upd H dx (.own x)) x (.ins C dx [])) H1 x o) : Same H H1 := Same.made nx nd M.2
theorem same_upd {H : Hp} {p : Addr} {o : HO} (h : H p = none) : Same H (upd H p o) := fun b u e => by
  rw [upd_ne (ne_of_none e h)]
  exact e
theorem take_succ {α : Type} {l : List α} {i : Nat} {x : α} (h : l[i]? = some x) : l.take (i + 1) = l.take i ++ [x] := by
  rw [List.take_succ, h]
  rfl
section
variable {P : Program} {w : World} {K : PySem.W.Frag} {mg : Str → Option Value} {base : Heap}
def spSend (T : Txt K mg) : Sp := fun vs H Q _ => ∃ (st : Addr) (L : Lay) (a : Su153.Abs) (c : Nat) (z : Su153.Customer), vs = [.ref st, .int c] ∧ StoreAt T.ca H st L a ∧ a.customers[c]? = some z ∧ (z.st = 1 ∨ z.st = 2) ∧ a.machines.length ≤ 5 ∧ a.msgs.length ≤ 2000000 ∧
  ∀ (H' : Hp) (gs' : List Addr), StoreAt T.ca H' st { L with gs := gs' } (a.send (a.calls c)) → Frm H H' (foot st L) (foot st L) → Q .non H'
theorem ok_send_to_all (T : Txt K mg) : FnOk P w K mg base CX0 3 T.d_send_to_all.f T.d_send_to_all.fd ["store", "customer"] (spSend T) := by
  have G_Message___init__ := ok_Message (P := P) (w := w) (base := base) T
  refine T.d_send_to_all.F.ok sc_send_to_all (fun vs H Q E h => ?_) (fun cdv A outer s H vs Q E hr h => ⟨_, (pss_cons (ps_set (i := 2) sc_send_to_all.nd rfl (Or.inl rfl) (pe_ix ix_list (pe_fld (pv 0) rfl) (pv 1) (fun _ _ => rfl)))
      (pss_one (ps_for PassesOwn.never rfl (pi_range1 (by rfl) T.b_range (pa_cons (pe_callB call_len_seq (by rfl) T.b_len PySem.boot_len (pa_cons (pe_fld (pv 0) rfl) pa_nil)) pa_nil)) (pg_name (i := 3) sc_send_to_all.nd rfl (Or.inl rfl))
        (pss_cons (ps_if (pt_cmpR op_eq (pe_fld (pv 2) rfl) (pe_gc (by rfl) T.k_TELLING) (nomark _))
          (pss_one (ps_set (i := 4) sc_send_to_all.nd rfl (Or.inl rfl) (pe_make (mk_of T.c_Message T.d_Message___init__) G_Message___init__ (hr.mono (by decide)) (by rfl) T.c_Message.g T.d_Message___init__.b .nil pass0 (pa_cons (pe_gc (by rfl) T.k_TOLD) (pa_cons (pv 1) (pa_cons (pv 3) (pa_cons (pe_fld (pv 2) rfl) (pa_cons (pe_fld (pv 2) rfl) (pa_cons (pe_fld (pv 2) rfl) pa_nil)))))))))
          (pss_one (ps_set (i := 4) sc_send_to_all.nd rfl (Or.inl rfl) (pe_make (mk_of T.c_Message T.d_Message___init__) G_Message___init__ (hr.mono (by decide)) (by rfl) T.c_Message.g T.d_Message___init__.b .nil pass0 (pa_cons (pe_gc (by rfl) T.k_ASKED) (pa_cons (pv 1) (pa_cons (pv 3) (pa_cons (pe_fld (pv 2) rfl) (pa_cons (pe_tup (pa_cons pe_int (pa_cons pe_int pa_nil))) (pa_cons pe_int pa_nil))))))))))
        (pss_one (ps_expr (pe_bm PySem.F.plainAttrs_list PySem.F.slot_list_append PySem.F.type_list_append mt_append (pe_fld (pv 0) rfl) (pa_cons (pv 4) pa_nil)))))))), ?_⟩)
  · obtain ⟨st, L, a, c, z, rfl, _⟩ := h
    rfl
  · obtain ⟨st, L, a, c, z, rfl, S, hz, hs, h5, hg, k⟩ := h
    obtain ⟨dS, hS⟩ := S.obj
    obtain ⟨pw, ct, hw, hct, hC⟩ := S.c_at hz
    refine ⟨_, rfl, st, _, dS, _, _, rfl, hS, T.c_Store.cl, T.c_Store.n _ (by decide +kernel), rfl, _, rfl, _, _, _, _, rfl, rfl, SqL.of S.cL, atI_nat (by rw [List.getElem?_map, hw]; rfl), ?_⟩
    refine ⟨_, rfl, st, _, dS, _, _, rfl, hS, T.c_Store.cl, T.c_Store.n _ (by decide +kernel), rfl, _, _, rfl, .inl (SqL.of S.mL), _, rfl, ?_, ?_, ?_⟩
    · rw [List.length_map, S.ml]
      omega
    · rw [List.length_map, S.ml]
      omega
    have en : (((L.ms.map V.ref).length : Nat) : Int).toNat = a.machines.length := by rw [List.length_map, S.ml] <;> rfl
    refine for_range (lo := 0) (fun i σ H' => ∃ (gs' : List Addr) (v1 v2 : Option V), σ = [some (.ref st), some (.int c), some (.ref pw), v1, v2] ∧ StoreAt T.ca H' st { L with gs := gs' } (a.send ((a.calls c).take i)) ∧ Frm H H' (foot st L) (foot st L))
      ⟨L.gs, none, none, rfl, ?_, .refl _ _⟩ ?_ ?_
    · show StoreAt T.ca H st L { a with msgs := a.msgs ++ [] }
      rw [List.append_nil]
      exact S
    · rintro i σ H1 hi ⟨gs, v1, v2, rfl, S1, F1⟩
      rw [en] at hi
      obtain ⟨pw', ct', hw', hct', dC, tg, hP, hT, hL⟩ := S1.c_at (m := z) (i := c) hz
      cases (hw.symm.trans hw')
      obtain ⟨dS1, hS1⟩ := S1.obj
      have len : (a.msgs ++ (a.calls c).take i).length < sizeLine := by
        rw [List.length_append]
        have : ((a.calls c).take i).length ≤ 5 := by
          rw [List.length_take, calls_len]
          omega
        have z : sizeLine = 16777216 := by decide
        omega
      have hm : (a.calls c)[i]? = some (if z.st = 1 then ⟨0, c, i, z.k, Su153.none_, 0⟩ else ⟨2, c, i, z.k, z.tag, z.v⟩) := by
        unfold Su153.Abs.calls
        dsimp only
        rw [customer_at hz, List.getElem?_map, List.getElem?_range (show i < a.n from hi)]
        rfl
      have fin : ∀ {H2 : Hp} {x : Addr} {y : Su153.Msg}, (a.calls c)[i]? = some y → Same H1 H2 → MsgAt T.ca H2 x y → ∃ (gs' : List Addr) (w1 w2 : Option V), [some (V.ref st), some (.int c), some (.ref pw), some (.int (0 + (i : Int))), some (.ref x)] = [some (V.ref st), some (.int c), some (.ref pw), w1, w2] ∧
          StoreAt T.ca (upd H2 L.gL (.lst (gs.map V.ref ++ [.ref x]))) st { L with gs := gs' } (a.send ((a.calls c).take (i + 1))) ∧ Frm H (upd H2 L.gL (.lst (gs.map V.ref ++ [.ref x]))) (foot st L) (foot st L) := by
        intro H2 x y hy s2 hM
        have S2 := (S1.same s2).push hM
        refine ⟨gs ++ [x], _, _, rfl, ?_, F1.trans ((Frm.same s2).trans (Chg.upd.frm mem_gL))⟩
        rw [take_succ hy]
        show StoreAt _ _ _ _ { a with msgs := a.msgs ++ ((a.calls c).take i ++ [y]) }
        rw [← List.append_assoc]
        exact S2
      refine ⟨_, rfl, pw, _, dC, _, _, rfl, hP, T.c_Customer.cl, T.c_Customer.n _ (by decide +kernel), rfl, rfl, _, rfl, ?_⟩
      refine ite2 (fun q => ?_) fun q => ?_
      · have e2 : z.st = 2 := by
          have := V.int.inj (of_decide_eq_true q)
          omega
        rw [if_neg (by omega)] at hm
        refine ⟨_, rfl, _, rfl, _, rfl, pw, _, dC, _, _, rfl, hP, T.c_Customer.cl, T.c_Customer.n _ (by decide +kernel), rfl, _, rfl, pw, _, dC, _, _, rfl, hP, T.c_Customer.cl, T.c_Customer.n _ (by decide +kernel), rfl, _, rfl, pw, _, dC, _, _, rfl, hP, T.c_Customer.cl, T.c_Customer.n _ (by decide +kernel), rfl, fun x dx nx nd ne => ⟨x, dx, tg, ⟨2, c, i, z.k, z.tag, z.v⟩, ?_, upd_same, fun H2 M => ⟨rfl, ?_⟩⟩⟩
        · show [V.ref x, .int 2, .int c, .int (0 + (i : Int)), .int z.k, .ref tg, .int z.v] = _
          rw [Int.zero_add]
          rfl
        have s2 : Same H1 H2 := same_make nx nd M
        refine ⟨_, rfl, st, _, dS1, _, _, rfl, s2 _ _ hS1, T.c_Store.cl, T.c_Store.n _ (by decide +kernel), rfl, .inl ⟨rfl, _, SqL.of (s2 _ _ S1.gL)⟩, _, rfl, _, _, _, rfl, rfl, s2 _ _ S1.gL, (by rw [List.length_map, S1.gl]; exact len), ?_⟩
        exact fin hm s2 ⟨dx, tg, M.1, s2 _ _ hT⟩
      · have e1 : z.st = 1 := by
          rcases hs with e | e
          · exact e
          · exact absurd (decide_eq_true (by rw [e] <;> rfl)) q
        rw [if_pos e1] at hm
        refine ⟨_, rfl, _, rfl, _, rfl, pw, _, dC, _, _, rfl, hP, T.c_Customer.cl, T.c_Customer.n _ (by decide +kernel), rfl, (by show 2 ≤ sizeLine; decide), fun t0 ht0 x dx nx nd ne => ⟨x, dx, t0, ⟨0, c, i, z.k, Su153.none_, 0⟩, ?_, upd_same, fun H2 M => ⟨rfl, ?_⟩⟩⟩
        · show [V.ref x, .int 0, .int c, .int (0 + (i : Int)), .int z.k, .ref t0, .int 0] = _
          rw [Int.zero_add]
          rfl
        have s2 : Same H1 H2 := (same_upd ht0).trans (same_make nx nd M)
        refine ⟨_, rfl, st, _, dS1, _, _, rfl, s2 _ _ hS1, T.c_Store.cl, T.c_Store.n _ (by decide +kernel), rfl, .inl ⟨rfl, _, SqL.of (s2 _ _ S1.gL)⟩, _, rfl, _, _, _, rfl, rfl, s2 _ _ S1.gL, (by rw [List.length_map, S1.gl]; exact len), ?_⟩
        exact fin hm s2 ⟨dx, t0, M.1, same_make nx nd M _ _ upd_same⟩
    · rintro σ H1 ⟨gs, v1, v2, rfl, S1, F1⟩
      rw [en, ← calls_len a c, List.take_length] at S1
      exact k _ gs S1 F1
end
end Ea

/-! The bodies of coming.py: what comes. -/
namespace Ea
open PySem PySem.Spec PyProof.Rows L2
/-! ### newer: t > u of two tags -/
def rGtTag (K : PySem.W.Frag) : R2 := fun x y H Q => ∃ (p q : Addr) (s t : Su153.Tag), x = .ref p ∧ y = .ref q ∧ SqT K H p (tagV s) ∧ SqT K H q (tagV t) ∧ Q (.bl (Su153.newer s t)) H
theorem tag_item {t : Su153.Tag} {us : List Value} (r : Vals (tagV t) us) : ∃ x y, us = [.int (t.n : Int) x, .int (t.c : Int) y] := by
  obtain _ | ⟨⟨x, rfl⟩, r⟩ := r
  obtain _ | ⟨⟨y, rfl⟩, r⟩ := r
  cases r
  exact ⟨x, y, rfl⟩
theorem tag_lex (s t : Su153.Tag) : Ob.lexAt (fun j => if j = 0 then decide (s.n = t.n) else decide (s.c = t.c)) (fun j => if j = 0 then decide (t.n < s.n) else decide (t.c < s.c)) false 0 2 = Su153.newer s t := by
  show (if decide (s.n = t.n) = true then (if decide (s.c = t.c) = true then false else decide (t.c < s.c)) else decide (t.n < s.n)) = _
  unfold Su153.newer
  by_cases a1 : s.n = t.n
  · rw [if_pos (by simp [a1])]
    by_cases a2 : s.c = t.c
    · rw [if_pos (by simp [a2])]
      simp [a1, a2]
    · rw [if_neg (by simp; omega)]
      simp [a1]
  · rw [if_neg (by simp; omega)]
    simp [a1]
theorem op_gtT {X : Cx} (hu : X.A.units < cLine) : OpR X (compareOp .Gt) (rGtTag X.K) := fun pins st σ H x y v u Q I rx ry h => by
  obtain ⟨p, q, s, t, rfl, rfl, hs, ht, k⟩ := h
  obtain rfl : v = .ref p := rx
  obtain rfl : u = .ref q := ry
  obtain ⟨us, r1, i1, _⟩ := I.tuple hs
  obtain ⟨ws, r2, i2, _⟩ := I.tuple ht
  obtain ⟨x1, y1, rfl⟩ := tag_item r1
  obtain ⟨x2, y2, rfl⟩ := tag_item r2
  have two : ∀ {j : Nat}, j < 2 → j = 0 ∨ j = 1 := fun h => by omega
  have eqn : ∀ a b : Nat, ((a : Int) == (b : Int)) = decide (a = b) := fun a b => by
    rw [Bool.beq_eq_decide_eq]
    exact decide_eq_decide.mpr (by omega)
  have ltn : ∀ a b : Nat, decide ((a : Int) < (b : Int)) = decide (a < b) := fun a b => decide_eq_decide.mpr (by omega)
  have W := Ob.RcOp.tuples_gt (A := X.A) (s := st) (e := fun j => if j = 0 then decide (s.n = t.n) else decide (s.c = t.c)) (r := fun j => if j = 0 then decide (t.n < s.n) else decide (t.c < s.c)) i1 i2 hu
    (fun j h1 h2 => by
      rcases two h1 with rfl | rfl
      · have z := SeqAt.EqAt.int_int (A := X.A.in1) (s := st) (s.n : Int) x1 (t.n : Int) x2
        rw [eqn] at z
        exact z
      · have z := SeqAt.EqAt.int_int (A := X.A.in1) (s := st) (s.c : Int) y1 (t.c : Int) y2
        rw [eqn] at z
        exact z)
    (fun j h1 h2 _ => by
      rcases two h1 with rfl | rfl
      · have z := Ob.RcOp.gt_int (A := X.A.in1) (s := st) (s.n : Int) (t.n : Int) x1 x2
        rw [ltn] at z
        exact z
      · have z := Ob.RcOp.gt_int (A := X.A.in1) (s := st) (s.c : Int) (t.c : Int) y1 y2
        rw [ltn] at z
        exact z)
  refine W X.prog X.w X.xe (EP X pins σ Q) ?_
  have e : Ob.lexAt (fun j => if j = 0 then decide (s.n = t.n) else decide (s.c = t.c)) (fun j => if j = 0 then decide (t.n < s.n) else decide (t.c < s.c)) (decide (2 > 2)) 0 (min 2 2) = Su153.newer s t := tag_lex s t
  exact ⟨.bl (Su153.newer s t), H, I, congrArg Value.bool e, k⟩
section
variable {P : Program} {w : World} {K : PySem.W.Frag} {mg : Str → Option Value} {base : Heap}
theorem StoreAt.setC0 {c : CA} {H H' : Hp} {st : Addr} {L : Lay} {a : Su153.Abs} {i : Nat} {p ct : Addr} {z : Su153.Customer} (S : StoreAt c H st L a) (hp : L.cs[i]? = some p) (hct : L.cts[i]? = some ct) (k : Chg p H H') (h : CustAt c H' p ct z) : StoreAt c H' st L (a.setC i z) := by
  have z := S.setC hp k h (.inl hct)
  have e2 : L.cts.set i ct = L.cts := by
    apply List.ext_getElem?
    intro j
    rw [List.getElem?_set]
    by_cases q : i = j
    · subst q
      rw [if_pos rfl, if_pos (lt_of_get hct), hct]
    · rw [if_neg q]
  rw [e2] at z
  exact z
def BIG : Nat := 2000000
def spSendBack (T : Txt K mg) : Sp := fun vs H Q _ => ∃ (st pm tg : Addr) (L : Lay) (a : Su153.Abs) (kd v : Nat) (t : Su153.Tag) (x : Su153.Msg), vs = [.ref st, .int kd, .ref pm, .ref tg, .int v] ∧ StoreAt T.ca H st L a ∧ MsgAt T.ca H pm x ∧ TagAt H tg t ∧ a.msgs.length ≤ 2000000 ∧
  ∀ (H' : Hp) (gs' : List Addr), StoreAt T.ca H' st { L with gs := gs' } (a.send [⟨kd, x.c, x.m, x.k, t, v⟩]) → Frm H H' (foot st L) (foot st L) → Q .non H'
theorem line_of_big {n : Nat} (h : n ≤ 2000000) : n < sizeLine := by
  have z : sizeLine = 16777216 := by decide
  omega
theorem ok_send_back (T : Txt K mg) : FnOk P w K mg base CX0 3 T.d_send_back.f T.d_send_back.fd ["store", "kind", "message", "tag", "value"] (spSendBack T) := by
  have G_Message___init__ := ok_Message (P := P) (w := w) (base := base) T
  refine T.d_send_back.F.ok sc_send_back (fun vs H Q E h => ?_) (fun cdv A outer s H vs Q E hr h => ⟨_, (pss_one (ps_expr (pe_bm PySem.F.plainAttrs_list PySem.F.slot_list_append PySem.F.type_list_append mt_append (pe_fld (pv 0) rfl) (pa_cons (pe_make (mk_of T.c_Message T.d_Message___init__) G_Message___init__ (hr.mono (by decide)) (by rfl) T.c_Message.g T.d_Message___init__.b .nil pass0 (pa_cons (pv 1) (pa_cons (pe_fld (pv 2) rfl) (pa_cons (pe_fld (pv 2) rfl) (pa_cons (pe_fld (pv 2) rfl) (pa_cons (pv 3) (pa_cons (pv 4) pa_nil))))))) pa_nil)))), ?_⟩)
  · obtain ⟨st, pm, tg, L, a, kd, v, t, x, rfl, _⟩ := h
    rfl
  · obtain ⟨st, pm, tg, L, a, kd, v, t, x, rfl, S, hM, hT, hg, k⟩ := h
    obtain ⟨dS, hS⟩ := S.obj
    obtain ⟨dm, tm, hm, htm⟩ := id hM
    refine ⟨_, rfl, st, _, dS, _, _, rfl, hS, T.c_Store.cl, T.c_Store.n _ (by decide +kernel), rfl, .inl ⟨rfl, _, SqL.of S.gL⟩, _, rfl, _, rfl, pm, _, dm, _, _, rfl, hm, T.c_Message.cl, T.c_Message.n _ (by decide +kernel), rfl, _, rfl, pm, _, dm, _, _, rfl, hm, T.c_Message.cl, T.c_Message.n _ (by decide +kernel), rfl, _, rfl, pm, _, dm, _, _, rfl, hm, T.c_Message.cl, T.c_Message.n _ (by decide +kernel), rfl, _, rfl, _, rfl, fun q dx nx nd ne => ⟨q, dx, tg, ⟨kd, x.c, x.m, x.k, t, v⟩, rfl, upd_same, fun H2 M => ⟨rfl, ?_⟩⟩⟩
    have s2 := same_make nx nd M
    refine ⟨_, _, _, rfl, rfl, s2 _ _ S.gL, (by rw [List.length_map, S.gl]; exact line_of_big hg), ?_⟩
    exact k _ (L.gs ++ [q]) ((S.same s2).push ⟨dx, tg, M.1, s2 _ _ hT⟩) ((Frm.same s2).trans (Chg.upd.frm mem_gL))
/-! ### to a machine -/
def spToM (T : Txt K mg) : Sp := fun vs H Q _ => ∃ (st pm : Addr) (L : Lay) (a : Su153.Abs) (x : Su153.Msg), vs = [.ref st, .ref pm] ∧ StoreAt T.ca H st L a ∧ MsgAt T.ca H pm x ∧ (x.kind = 0 ∨ x.kind = 2) ∧ x.m < a.machines.length ∧ a.msgs.length ≤ 2000000 ∧
  ∀ (H' : Hp) (L' : Lay), StoreAt T.ca H' st L' (a.comes x).1 → Frm H H' (foot st L) (foot st L') → Q (.int (a.comes x).2) H'
theorem ok_come_to_machine (T : Txt K mg) : FnOk P w K mg base CX0 4 T.d_come_to_machine.f T.d_come_to_machine.fd ["store", "message"] (spToM T) := by
  have G_send_back := ok_send_back (P := P) (w := w) (base := base) T
  refine T.d_come_to_machine.F.ok sc_come_to_machine (fun vs H Q E h => ?_) (fun cdv A outer s H vs Q E hr h => ⟨_, (pss_cons (ps_set (i := 2) sc_come_to_machine.nd rfl (Or.inl rfl) (pe_ix ix_list (pe_fld (pv 0) rfl) (pe_fld (pv 1) rfl) (fun _ _ => rfl)))
      (pss_cons (ps_if (pt_not (pt_val (pe_fld (pv 2) rfl)))
        (pss_one (ps_ret (pe_gc (by rfl) T.k_NOTHING)))
        pss_nil)
      (pss_cons (ps_if (pt_cmpR op_eq (pe_fld (pv 1) rfl) (pe_gc (by rfl) T.k_ASKED) (nomark _))
        (pss_cons (ps_expr (pe_call G_send_back (hr.mono (by decide)) (by rfl) T.d_send_back.g T.d_send_back.F.kp T.d_send_back.b .nil pass0 (pa_cons (pv 0) (pa_cons (pe_gc (by rfl) T.k_ANSWERED) (pa_cons (pv 1) (pa_cons (pe_fld (pv 2) rfl) (pa_cons (pe_fld (pv 2) rfl) pa_nil)))))))
        (pss_one (ps_ret (pe_gc (by rfl) T.k_SENT))))
        pss_nil)
      (pss_cons (ps_if (pt_cmpR (op_gtT hr.units0) (pe_fld (pv 1) rfl) (pe_fld (pv 2) rfl) (nomark _))
        (pss_cons (ps_fld (pv 2) (pe_fld (pv 1) rfl) rfl)
        (pss_one (ps_fld (pv 2) (pe_fld (pv 1) rfl) rfl)))
        pss_nil)
      (pss_cons (ps_expr (pe_call G_send_back (hr.mono (by decide)) (by rfl) T.d_send_back.g T.d_send_back.F.kp T.d_send_back.b .nil pass0 (pa_cons (pv 0) (pa_cons (pe_gc (by rfl) T.k_HEARD) (pa_cons (pv 1) (pa_cons (pe_fld (pv 1) rfl) (pa_cons (pe_fld (pv 1) rfl) pa_nil)))))))
      (pss_one (ps_ret (pe_gc (by rfl) T.k_SENT)))))))), ?_⟩)
  · obtain ⟨st, pm, L, a, x, rfl, _⟩ := h
    rfl
  · obtain ⟨st, pm, L, a, x, rfl, S, hM, hk, hm, hg, k⟩ := h
    obtain ⟨dS, hS⟩ := S.obj
    obtain ⟨dm, tm, hm0, htm⟩ := id hM
    obtain ⟨m, hm1⟩ := get_of_lt hm
    obtain ⟨pq, hq, dq, tq, hq1, htq⟩ := S.m_at hm1
    have ec : a.comes x = (if x.kind = 0 then (if m.up then (a.send [⟨1, x.c, x.m, x.k, m.tag, m.v⟩], 1) else (a, 0)) else (if m.up then ((if Su153.newer x.tag m.tag then a.setM x.m ⟨true, x.tag, x.v⟩ else a).send [⟨3, x.c, x.m, x.k, x.tag, x.v⟩], 1) else (a, 0))) := by
      unfold Su153.Abs.comes
      dsimp only
      rw [machine_at hm1]
      by_cases k0 : x.kind = 0
      · rw [if_pos k0, if_pos k0]
      · rw [if_neg k0, if_neg k0, if_pos (by omega)]
    rw [ec] at k
    refine ⟨_, rfl, st, _, dS, _, _, rfl, hS, T.c_Store.cl, T.c_Store.n _ (by decide +kernel), rfl, _, rfl, pm, _, dm, _, _, rfl, hm0, T.c_Message.cl, T.c_Message.n _ (by decide +kernel), rfl, _, _, _, _, rfl, rfl, SqL.of S.mL, atI_nat (by rw [List.getElem?_map, hq]; rfl), ?_⟩
    refine ⟨_, rfl, pq, _, dq, _, _, rfl, hq1, T.c_Machine.cl, T.c_Machine.n _ (by decide +kernel), rfl, _, rfl, ?_⟩
    refine ite2 (fun u => ?_) fun u => ?_
    · -- it has stopped
      have u0 : ¬ m.up = true := by simpa using u
      by_cases k0 : x.kind = 0
      · rw [if_pos k0, if_neg u0] at k
        exact k _ L S (.refl _ _)
      · rw [if_neg k0, if_neg u0] at k
        exact k _ L S (.refl _ _)
    have u1 : m.up = true := by simpa using u
    refine ⟨_, rfl, pm, _, dm, _, _, rfl, hm0, T.c_Message.cl, T.c_Message.n _ (by decide +kernel), rfl, rfl, _, rfl, ?_⟩
    refine ite2 (fun q => ?_) fun q => ?_
    · have k0 : x.kind = 0 := by
        have := V.int.inj (of_decide_eq_true q)
        omega
      rw [if_pos k0, if_pos u1] at k
      refine ⟨_, rfl, _, rfl, _, rfl, pq, _, dq, _, _, rfl, hq1, T.c_Machine.cl, T.c_Machine.n _ (by decide +kernel), rfl, _, rfl, pq, _, dq, _, _, rfl, hq1, T.c_Machine.cl, T.c_Machine.n _ (by decide +kernel), rfl, ?_⟩
      exact ⟨st, pm, tq, L, a, 1, m.v, m.tag, x, rfl, S, hM, htq, hg, fun H' gs' S' F' => k _ _ S' F'⟩
    have k0 : ¬ x.kind = 0 := fun e => q (decide_eq_true (by rw [e] <;> rfl))
    rw [if_neg k0, if_pos u1] at k
    refine ⟨_, rfl, pm, _, dm, _, _, rfl, hm0, T.c_Message.cl, T.c_Message.n _ (by decide +kernel), rfl, _, rfl, pq, _, dq, _, _, rfl, hq1, T.c_Machine.cl, T.c_Machine.n _ (by decide +kernel), rfl, ?_⟩
    refine ⟨_, _, x.tag, m.tag, rfl, rfl, SqT.of htm, SqT.of htq, _, rfl, ?_⟩
    have send : ∀ {H1 : Hp} {b : Su153.Abs}, StoreAt T.ca H1 st L b → Frm H H1 (foot st L) (foot st L) → b.msgs.length ≤ 2000000 → b = (if Su153.newer x.tag m.tag = true then a.setM x.m ⟨true, x.tag, x.v⟩ else a) → spSendBack T [.ref st, .int 3, .ref pm, .ref tm, .int x.v] H1 (fun _ H' => Q (.int 1) H') E0 := by
      intro H1 b S1 F1 l1 e
      rw [← e] at k
      exact ⟨st, pm, tm, L, b, 3, x.v, x.tag, x, rfl, S1, hM.frm S F1, F1.keep _ _ htm (S.no_tup htm), l1, fun H' gs' S' F' => k _ _ S' (F1.trans F')⟩
    refine ite2 (fun n => ?_) fun n => ?_
    · refine ⟨_, rfl, pm, _, dm, _, _, rfl, hm0, T.c_Message.cl, T.c_Message.n _ (by decide +kernel), rfl, _, rfl, pq, _, dq, _, rfl, hq1, T.c_Machine.cl, T.c_Machine.n _ (by decide +kernel), lt1000 rfl, ?_⟩
      have npm : pm ≠ pq := ne_head hm0 hq1 d_MG.symm
      have hm2 : upd H pq (.ins T.c_Machine.C dq (putF "tag" (.ref tm) (mF m tq))) pm = some (.ins T.c_Message.C dm (gF x tm)) := by
        rw [upd_ne npm]
        exact hm0
      refine ⟨_, rfl, pm, _, dm, _, _, rfl, hm2, T.c_Message.cl, T.c_Message.n _ (by decide +kernel), rfl, _, rfl, pq, _, dq, _, rfl, upd_same, T.c_Machine.cl, T.c_Machine.n _ (by decide +kernel), lt1000 rfl, ?_⟩
      have kc : Chg pq H (upd (upd H pq (.ins T.c_Machine.C dq (putF "tag" (.ref tm) (mF m tq)))) pq (.ins T.c_Machine.C dq (putF "value" (.int x.v) (putF "tag" (.ref tm) (mF m tq))))) := fun b o e n => by
        rw [upd_ne n, upd_ne n]
        exact e
      have ntm : tm ≠ pq := ne_head htm hq1 (fun e => by cases e)
      have S1 := S.setM (m := ⟨m.up, x.tag, x.v⟩) hq kc ⟨dq, tm, upd_same, kc _ _ htm ntm⟩
      rw [u1] at S1
      have F1 := kc.frm (F := foot st L) (mem_ms (List.mem_of_getElem? hq))
      have hm3 := kc _ _ hm0 npm
      refine ⟨_, rfl, _, rfl, _, rfl, pm, _, dm, _, _, rfl, hm3, T.c_Message.cl, T.c_Message.n _ (by decide +kernel), rfl, _, rfl, pm, _, dm, _, _, rfl, hm3, T.c_Message.cl, T.c_Message.n _ (by decide +kernel), rfl, ?_⟩
      exact send S1 F1 hg (by rw [if_pos n])
    · refine ⟨_, rfl, _, rfl, _, rfl, pm, _, dm, _, _, rfl, hm0, T.c_Message.cl, T.c_Message.n _ (by decide +kernel), rfl, _, rfl, pm, _, dm, _, _, rfl, hm0, T.c_Message.cl, T.c_Message.n _ (by decide +kernel), rfl, ?_⟩
      exact send S (.refl _ _) hg (by rw [if_neg n])
/-! ### a customer's -/
def waits (z : Su153.Customer) (x : Su153.Msg) : Bool := decide (z.st = (if x.kind = 1 then 1 else 2)) && (decide (z.k = x.k) && !(z.got.contains x.m))
def spWaits (T : Txt K mg) : Sp := fun vs H Q _ => ∃ (pw ct pm : Addr) (z : Su153.Customer) (x : Su153.Msg), vs = [.ref pw, .ref pm] ∧ CustAt T.ca H pw ct z ∧ MsgAt T.ca H pm x ∧ Q (.bl (waits z x)) H
theorem int_dec {i j : Nat} : decide (V.int (i : Int) = V.int (j : Int)) = decide (i = j) := by
  by_cases h : i = j
  · rw [decide_eq_true h, decide_eq_true (by rw [h])]
  · rw [decide_eq_false h, decide_eq_false (fun e => h (by have := V.int.inj e; omega))]
theorem inV_nat (m : Nat) : ∀ l : List Nat, inV (.int (m : Int)) (natV l) = l.contains m
  | [] => rfl
  | n :: r => by
    have ih := inV_nat m r
    unfold inV at ih ⊢
    show (eqV (.int (n : Int)) (.int (m : Int)) || (natV r).any fun y => eqV y (.int (m : Int))) = _
    rw [ih, List.contains_cons]
    congr 1
    show ((n : Int) == (m : Int)) = (m == n)
    rw [Bool.eq_iff_iff]
    simp
    omega
theorem flat_nat : ∀ l : List Nat, (natV l).all flatV = true
  | [] => rfl
  | n :: r => by
    show (flatV (.int (n : Int)) && (natV r).all flatV) = true
    rw [flat_nat r]
    rfl
theorem ok_waits_for (T : Txt K mg) : FnOk P w K mg base CX0 1 T.d_waits_for.f T.d_waits_for.fd ["who", "message"] (spWaits T) := by
  refine T.d_waits_for.F.ok sc_waits_for (fun vs H Q E h => ?_) (fun cdv A outer s H vs Q E hr h => ⟨_, (pss_cons (ps_set (i := 2) sc_waits_for.nd rfl (Or.inl rfl) (pe_ifExp (pt_cmpR op_eq (pe_fld (pv 1) rfl) (pe_gc (by rfl) T.k_ANSWERED) (nomark _)) (pe_gc (by rfl) T.k_ASKING) (pe_gc (by rfl) T.k_TELLING)))
      (pss_one (ps_ret (pe_and (pe_cmpR op_eq (pe_fld (pv 0) rfl) (pv 2) (nomark _)) (pe_and (pe_cmpR op_eq (pe_fld (pv 0) rfl) (pe_fld (pv 1) rfl) (nomark _)) (pe_one (pe_cmpR op_notIn_seq (pe_fld (pv 1) rfl) (pe_fld (pv 0) rfl) (by rfl)))))))), ?_⟩)
  · obtain ⟨pw, ct, pm, z, x, rfl, _⟩ := h
    rfl
  · obtain ⟨pw, ct, pm, z, x, rfl, hC, hM, k⟩ := h
    obtain ⟨dC, tg, hc, _, hl⟩ := hC
    obtain ⟨dm, tm, hm, _⟩ := hM
    refine ⟨_, rfl, pm, _, dm, _, _, rfl, hm, T.c_Message.cl, T.c_Message.n _ (by decide +kernel), rfl, rfl, _, rfl, ?_⟩
    refine ite2 (fun q => ?_) fun q => ?_
    · have en : (if x.kind = 1 then 1 else 2) = 1 := if_pos (by have := V.int.inj (of_decide_eq_true q); omega)
      unfold waits at k
      rw [en] at k
      refine ⟨_, rfl, pw, _, dC, _, _, rfl, hc, T.c_Customer.cl, T.c_Customer.n _ (by decide +kernel), rfl, _, rfl, rfl, _, rfl, ?_⟩
      refine ite2 (fun q1 => ?_) fun q1 => ?_
      · have e1 : z.st = 1 := by
          have := V.int.inj (of_decide_eq_true q1)
          omega
        refine ⟨_, rfl, pw, _, dC, _, _, rfl, hc, T.c_Customer.cl, T.c_Customer.n _ (by decide +kernel), rfl, _, rfl, pm, _, dm, _, _, rfl, hm, T.c_Message.cl, T.c_Message.n _ (by decide +kernel), rfl, rfl, _, rfl, ?_⟩
        refine ite2 (fun q2 => ?_) fun q2 => ?_
        · have e2 : z.k = x.k := by
            have := V.int.inj (of_decide_eq_true q2)
            omega
          refine ⟨_, rfl, pm, _, dm, _, _, rfl, hm, T.c_Message.cl, T.c_Message.n _ (by decide +kernel), rfl, _, rfl, pw, _, dC, _, _, rfl, hc, T.c_Customer.cl, T.c_Customer.n _ (by decide +kernel), rfl, _, _, rfl, .inl (SqL.of hl), rfl, flat_nat _, ?_⟩
          show Q (.bl (!inV (.int (x.m : Int)) (natV z.got))) H
          rw [inV_nat]
          rw [decide_eq_true e1, decide_eq_true e2] at k
          exact k
        · have e2 : ¬ z.k = x.k := fun e => q2 (decide_eq_true (by rw [e]))
          rw [decide_eq_true e1, decide_eq_false e2] at k
          exact k
      · have e1 : ¬ z.st = 1 := fun e => q1 (decide_eq_true (by rw [e] <;> rfl))
        rw [decide_eq_false e1] at k
        exact k
    · have en : (if x.kind = 1 then 1 else 2) = 2 := if_neg (fun e => q (decide_eq_true (by rw [e] <;> rfl)))
      unfold waits at k
      rw [en] at k
      refine ⟨_, rfl, pw, _, dC, _, _, rfl, hc, T.c_Customer.cl, T.c_Customer.n _ (by decide +kernel), rfl, _, rfl, rfl, _, rfl, ?_⟩
      refine ite2 (fun q1 => ?_) fun q1 => ?_
      · have e1 : z.st = 2 := by
          have := V.int.inj (of_decide_eq_true q1)
          omega
        refine ⟨_, rfl, pw, _, dC, _, _, rfl, hc, T.c_Customer.cl, T.c_Customer.n _ (by decide +kernel), rfl, _, rfl, pm, _, dm, _, _, rfl, hm, T.c_Message.cl, T.c_Message.n _ (by decide +kernel), rfl, rfl, _, rfl, ?_⟩
        refine ite2 (fun q2 => ?_) fun q2 => ?_
        · have e2 : z.k = x.k := by
            have := V.int.inj (of_decide_eq_true q2)
            omega
          refine ⟨_, rfl, pm, _, dm, _, _, rfl, hm, T.c_Message.cl, T.c_Message.n _ (by decide +kernel), rfl, _, rfl, pw, _, dC, _, _, rfl, hc, T.c_Customer.cl, T.c_Customer.n _ (by decide +kernel), rfl, _, _, rfl, .inl (SqL.of hl), rfl, flat_nat _, ?_⟩
          show Q (.bl (!inV (.int (x.m : Int)) (natV z.got))) H
          rw [inV_nat]
          rw [decide_eq_true e1, decide_eq_true e2] at k
          exact k
        · have e2 : ¬ z.k = x.k := fun e => q2 (decide_eq_true (by rw [e]))
          rw [decide_eq_true e1, decide_eq_false e2] at k
          exact k
      · have e1 : ¬ z.st = 2 := fun e => q1 (decide_eq_true (by rw [e] <;> rfl))
        rw [decide_eq_false e1] at k
        exact k
end
end Ea

/-! The bodies of coming.py: what a customer counts. -/
namespace Ea
open PySem PySem.Spec PyProof.Rows L2
section
variable {P : Program} {w : World} {K : PySem.W.Frag} {mg : Str → Option Value} {base : Heap}
theorem abs_setC_setO {a : Su153.Abs} {c k : Nat} {z : Su153.Customer} {o : Su153.Op} : ({ a with ops := a.ops.set k o } : Su153.Abs).setC c z = { a with ops := a.ops.set k o, customers := a.customers.set c z } := rfl
theorem foot_set {st b : Addr} {L : Lay} {i : Nat} {ct : Addr} (h : b ∈ foot st { L with cts := L.cts.set i ct }) : b ∈ foot st L ∨ b = ct := by
  unfold foot at h ⊢
  simp only [List.mem_cons, List.mem_append] at h ⊢
  rcases h with h | h | h | h | h | h | h | h | h
  · exact .inl (.inl h)
  · exact .inl (.inr (.inl h))
  · exact .inl (.inr (.inr (.inl h)))
  · exact .inl (.inr (.inr (.inr (.inl h))))
  · exact .inl (.inr (.inr (.inr (.inr (.inl h)))))
  · exact .inl (.inr (.inr (.inr (.inr (.inr (.inl h))))))
  · exact .inl (.inr (.inr (.inr (.inr (.inr (.inr (.inl h)))))))
  · rcases List.mem_or_eq_of_mem_set h with z | z
    · exact .inl (.inr (.inr (.inr (.inr (.inr (.inr (.inr (.inl z))))))))
    · exact .inr z
  · exact .inl (.inr (.inr (.inr (.inr (.inr (.inr (.inr (.inr h))))))))
/-- a new list at ct is none of the state's -/
theorem StoreAt.fresh {c : CA} {H : Hp} {st ct : Addr} {L : Lay} {a : Su153.Abs} (S : StoreAt c H st L a) (h : H ct = none) : ct ∉ L.cts ∧ ct ≠ L.mL ∧ ct ≠ L.cL ∧ ct ≠ L.gL ∧ ct ≠ L.oL := by
  have n : ∀ {b : Addr}, b ∈ foot st L → ct ≠ b := fun hb e => by
    obtain ⟨o, ho, _⟩ := S.foot_some hb
    rw [← e, h] at ho
    cases ho
  exact ⟨fun hc => n (mem_cts hc) rfl, n (by simp [foot]), n (by simp [foot]), n mem_gL, n mem_oL⟩
def spEnd (T : Txt K mg) : Sp := fun vs H Q _ => ∃ (st pw : Addr) (L : Lay) (a : Su153.Abs) (c : Nat) (z : Su153.Customer) (o : Su153.Op), vs = [.ref st, .ref pw] ∧ StoreAt T.ca H st L a ∧ L.cs[c]? = some pw ∧ a.customers[c]? = some z ∧ a.ops[z.k]? = some o ∧ (o.wr = true → z.v = o.v) ∧
  ∀ (H' : Hp) (L' : Lay), StoreAt T.ca H' st L' (a.ended c) → Frm H H' (foot st L) (foot st L') → Q (.int 4) H'
theorem ok_end_operation (T : Txt K mg) : FnOk P w K mg base CX0 2 T.d_end_operation.f T.d_end_operation.fd ["store", "who"] (spEnd T) := by
  have G_Customer_forget := ok_forget (P := P) (w := w) (base := base) T
  refine T.d_end_operation.F.ok sc_end_operation (fun vs H Q E h => ?_) (fun cdv A outer s H vs Q E hr h => ⟨_, (pss_cons (ps_set (i := 2) sc_end_operation.nd rfl (Or.inl rfl) (pe_ix ix_list (pe_fld (pv 0) rfl) (pe_fld (pv 1) rfl) (fun _ _ => rfl)))
      (pss_cons (ps_fld (pv 2) (pe_fld (pv 0) rfl) rfl)
      (pss_cons (ps_if (pt_not (pt_val (pe_fld (pv 2) rfl)))
        (pss_one (ps_fld (pv 2) (pe_fld (pv 1) rfl) rfl))
        pss_nil)
      (pss_cons (ps_fld (pv 1) (pe_gc (by rfl) T.k_IDLE) rfl)
      (pss_cons (ps_expr (pe_meth0 (pv 1) T.c_Customer.cl T.d_Customer_forget.m G_Customer_forget (hr.mono (by decide)) T.d_Customer_forget.b .nil pass0))
      (pss_one (ps_ret (pe_gc (by rfl) T.k_ENDED)))))))), ?_⟩)
  · obtain ⟨st, pw, L, a, c, z, o, rfl, _⟩ := h
    rfl
  · obtain ⟨st, pw, L, a, c, z, o, rfl, S, hw, hz, ho, hv, k⟩ := h
    obtain ⟨dS, hS⟩ := S.obj
    obtain ⟨pw', ct, hw', hct, hC⟩ := S.c_at hz
    cases (hw.symm.trans hw')
    obtain ⟨dC, tg, hc, htg, hl⟩ := id hC
    obtain ⟨po, hpo, dO, hO⟩ := S.o_at ho
    refine ⟨_, rfl, st, _, dS, _, _, rfl, hS, T.c_Store.cl, T.c_Store.n _ (by decide +kernel), rfl, _, rfl, pw, _, dC, _, _, rfl, hc, T.c_Customer.cl, T.c_Customer.n _ (by decide +kernel), rfl, _, _, _, _, rfl, rfl, SqL.of S.oL, atI_nat (by rw [List.getElem?_map, hpo]; rfl), ?_⟩
    refine ⟨_, rfl, st, _, dS, _, _, rfl, hS, T.c_Store.cl, T.c_Store.n _ (by decide +kernel), rfl, _, rfl, po, _, dO, _, rfl, hO, T.c_Operation.cl, T.c_Operation.n _ (by decide +kernel), lt1000 rfl, ?_⟩
    have mO : po ∈ foot st L := mem_os (List.mem_of_getElem? hpo)
    have mC : pw ∈ foot st L := mem_cs (List.mem_of_getElem? hw)
    have hO1 : upd H po (.ins T.c_Operation.C dO (putF "ended" (.int a.time) (oF o))) po = some (.ins T.c_Operation.C dO (oF { o with til := some a.time })) := upd_same
    have S1 := S.setO (o := { o with til := some a.time }) hpo .upd ⟨dO, hO1⟩
    have F1 : Frm H (upd H po (.ins T.c_Operation.C dO (putF "ended" (.int a.time) (oF o)))) (foot st L) (foot st L) := Chg.upd.frm mO
    have npw : pw ≠ po := ne_head hc hO d_CO
    have fin : ∀ {H2 : Hp}, StoreAt T.ca H2 st L { a with ops := a.ops.set z.k { o with v := z.v, til := some a.time } } → Frm H H2 (foot st L) (foot st L) → H2 pw = some (.ins T.c_Customer.C dC (cF z ct tg)) →
        spForget T [.ref pw] (upd H2 pw (.ins T.c_Customer.C dC (putF "how" (.int 0) (cF z ct tg)))) (fun _ H' => Q (.int 4) H') E0 := by
      intro H2 S2 F2 hc2
      refine ⟨pw, dC, _, rfl, upd_same, Nat.le_of_ble_eq_true rfl, fun H4 ct' tg' h1 hn h2 h3 h4 => ?_⟩
      have ncp : ct' ≠ pw := fun e => by rw [e, upd_same] at hn; cases hn
      have hn2 : H2 ct' = none := by
        rw [upd_ne ncp] at hn
        exact hn
      have k4 : Chg pw H2 H4 := fun b u e n => h4 b u (by rw [upd_ne n]; exact e) n
      have S4 := S2.setC (z := ⟨0, z.k, [], Su153.none_, 0⟩) hw k4 ⟨dC, tg', h1, h3, h2⟩ (.inr (S2.fresh hn2))
      refine k H4 _ (by rw [ended_eq hz ho]; exact S4) (F2.trans ⟨fun b u e n => k4 b u e fun q => n (q ▸ mC), fun b hb => ?_⟩)
      rcases foot_set hb with h | h
      · exact .inl h
      · exact .inr (h ▸ hn2)
    refine ⟨_, rfl, po, _, dO, _, _, rfl, hO1, T.c_Operation.cl, T.c_Operation.n _ (by decide +kernel), rfl, _, rfl, ?_⟩
    have hc1 : upd H po (.ins T.c_Operation.C dO (putF "ended" (.int a.time) (oF o))) pw = some (.ins T.c_Customer.C dC (cF z ct tg)) := by
      rw [upd_ne npw]
      exact hc
    refine ite2 (fun wr => ?_) fun wr => ?_
    · have w0 : o.wr = false := by simpa using wr
      refine ⟨_, rfl, pw, _, dC, _, _, rfl, hc1, T.c_Customer.cl, T.c_Customer.n _ (by decide +kernel), rfl, _, rfl, po, _, dO, _, rfl, hO1, T.c_Operation.cl, T.c_Operation.n _ (by decide +kernel), lt1000 rfl, ?_⟩
      have hc2 : upd (upd H po (.ins T.c_Operation.C dO (putF "ended" (.int a.time) (oF o)))) po (.ins T.c_Operation.C dO (putF "value" (.int z.v) (oF { o with til := some a.time }))) pw = some (.ins T.c_Customer.C dC (cF z ct tg)) := by
        rw [upd_ne npw]
        exact hc1
      have hO2 : upd (upd H po (.ins T.c_Operation.C dO (putF "ended" (.int a.time) (oF o)))) po (.ins T.c_Operation.C dO (putF "value" (.int z.v) (oF { o with til := some a.time }))) po = some (.ins T.c_Operation.C dO (oF { o with v := z.v, til := some a.time })) := upd_same
      have S2 := S1.setO (o := { o with v := z.v, til := some a.time }) hpo .upd ⟨dO, hO2⟩
      refine ⟨_, rfl, pw, _, dC, _, rfl, hc2, T.c_Customer.cl, T.c_Customer.n _ (by decide +kernel), lt1000 rfl, ?_⟩
      refine ⟨_, rfl, pw, dC, _, rfl, upd_same, rfl, fin ?_ (F1.trans (Chg.upd.frm mO)) hc2⟩
      have e : (a.ops.set z.k { o with til := some a.time }).set z.k { o with v := z.v, til := some a.time } = a.ops.set z.k { o with v := z.v, til := some a.time } := List.set_set ..
      rw [show ({ a with ops := a.ops.set z.k { o with til := some a.time } } : Su153.Abs).ops = a.ops.set z.k { o with til := some a.time } from rfl, e] at S2
      exact S2
    · have w0 : o.wr = true := by simpa using wr
      refine ⟨_, rfl, pw, _, dC, _, rfl, hc1, T.c_Customer.cl, T.c_Customer.n _ (by decide +kernel), lt1000 rfl, ?_⟩
      refine ⟨_, rfl, pw, dC, _, rfl, upd_same, rfl, fin ?_ F1 hc1⟩
      rw [hv w0]
      exact S1
/-! ### counted -/
def countA (a : Su153.Abs) (c : Nat) (x : Su153.Msg) : Su153.Abs × Nat :=
  let z := a.customer c
  let y : Su153.Customer := if Su153.newer x.tag z.tag then { z with tag := x.tag, v := x.v } else z
  let b := a.setC c y
  if y.got.length < a.ask then (b, 2) else b.asked c
def countH (a : Su153.Abs) (c : Nat) : Su153.Abs × Nat := if (a.customer c).got.length < a.tell then (a, 2) else (a.ended c, 4)
def spCH (T : Txt K mg) : Sp := fun vs H Q _ => ∃ (st pw : Addr) (L : Lay) (a : Su153.Abs) (c : Nat) (z : Su153.Customer) (o : Su153.Op), vs = [.ref st, .ref pw] ∧ StoreAt T.ca H st L a ∧ L.cs[c]? = some pw ∧ a.customers[c]? = some z ∧ a.ops[z.k]? = some o ∧ (o.wr = true → z.v = o.v) ∧
  ∀ (H' : Hp) (L' : Lay), StoreAt T.ca H' st L' (countH a c).1 → Frm H H' (foot st L) (foot st L') → Q (.int (countH a c).2) H'
theorem natV_len (l : List Nat) : (natV l).length = l.length := by
  unfold natV
  rw [List.length_map]
theorem ok_count_heard (T : Txt K mg) : FnOk P w K mg base CX0 3 T.d_count_heard.f T.d_count_heard.fd ["store", "who"] (spCH T) := by
  have G_end_operation := ok_end_operation (P := P) (w := w) (base := base) T
  refine T.d_count_heard.F.ok sc_count_heard (fun vs H Q E h => ?_) (fun cdv A outer s H vs Q E hr h => ⟨_, (pss_cons (ps_if (pt_cmpR op_lt (pe_callB call_len_seq (by rfl) T.b_len PySem.boot_len (pa_cons (pe_fld (pv 1) rfl) pa_nil)) (pe_fld (pv 0) rfl) (nomark _))
        (pss_one (ps_ret (pe_gc (by rfl) T.k_COUNTED)))
        pss_nil)
      (pss_one (ps_ret (pe_call G_end_operation (hr.mono (by decide)) (by rfl) T.d_end_operation.g T.d_end_operation.F.kp T.d_end_operation.b .nil pass0 (pa_cons (pv 0) (pa_cons (pv 1) pa_nil)))))), ?_⟩)
  · obtain ⟨st, pw, L, a, c, z, o, rfl, _⟩ := h
    rfl
  · obtain ⟨st, pw, L, a, c, z, o, rfl, S, hw, hz, ho, hv, k⟩ := h
    obtain ⟨dS, hS⟩ := S.obj
    obtain ⟨pw', ct, hw', hct, hC⟩ := S.c_at hz
    cases (hw.symm.trans hw')
    obtain ⟨dC, tg, hc, htg, hl⟩ := id hC
    unfold countH at k
    rw [customer_at hz] at k
    refine ⟨_, rfl, pw, _, dC, _, _, rfl, hc, T.c_Customer.cl, T.c_Customer.n _ (by decide +kernel), rfl, _, _, rfl, .inl (SqL.of hl), _, rfl, st, _, dS, _, _, rfl, hS, T.c_Store.cl, T.c_Store.n _ (by decide +kernel), rfl, _, _, rfl, rfl, _, rfl, ?_⟩
    rw [natV_len]
    refine ite2 (fun q => ?_) fun q => ?_
    · have e : z.got.length < a.tell := by
        have := of_decide_eq_true q
        omega
      rw [if_pos e] at k
      exact k _ L S (.refl _ _)
    · have e : ¬ z.got.length < a.tell := fun e => q (decide_eq_true (by omega))
      rw [if_neg e] at k
      exact ⟨_, rfl, _, rfl, st, pw, L, a, c, z, o, rfl, S, hw, hz, ho, hv, k⟩
end
end Ea

/-! The bodies of coming.py: what answers. -/
namespace Ea
open PySem PySem.Spec PyProof.Rows L2
section
variable {P : Program} {w : World} {K : PySem.W.Frag} {mg : Str → Option Value} {base : Heap}
def spCA (T : Txt K mg) : Sp := fun vs H Q _ => ∃ (st pw pm : Addr) (L : Lay) (a : Su153.Abs) (c : Nat) (z : Su153.Customer) (o : Su153.Op) (x : Su153.Msg), vs = [.ref st, .ref pw, .ref pm] ∧ StoreAt T.ca H st L a ∧ L.cs[c]? = some pw ∧ a.customers[c]? = some z ∧ z.st = 1 ∧ MsgAt T.ca H pm x ∧
  a.ops[z.k]? = some o ∧ o.who = c ∧ a.machines.length ≤ 5 ∧ a.msgs.length ≤ 2000000 ∧
  ∀ (H' : Hp) (L' : Lay), StoreAt T.ca H' st L' (countA a c x).1 → Frm H H' (foot st L) (foot st L') → Q (.int (countA a c x).2) H'
theorem on_int (b : Bool) : onI b = 0 ↔ b = false := by cases b <;> decide
theorem ok_count_answer (T : Txt K mg) : FnOk P w K mg base CX0 4 T.d_count_answer.f T.d_count_answer.fd ["store", "who", "message"] (spCA T) := by
  have G_end_operation := ok_end_operation (P := P) (w := w) (base := base) T
  have G_send_to_all := ok_send_to_all (P := P) (w := w) (base := base) T
  refine T.d_count_answer.F.ok sc_count_answer (fun vs H Q E h => ?_) (fun cdv A outer s H vs Q E hr h => ⟨_, (pss_cons (ps_if (pt_cmpR (op_gtT hr.units0) (pe_fld (pv 2) rfl) (pe_fld (pv 1) rfl) (nomark _))
        (pss_cons (ps_fld (pv 1) (pe_fld (pv 2) rfl) rfl)
        (pss_one (ps_fld (pv 1) (pe_fld (pv 2) rfl) rfl)))
        pss_nil)
      (pss_cons (ps_if (pt_cmpR op_lt (pe_callB call_len_seq (by rfl) T.b_len PySem.boot_len (pa_cons (pe_fld (pv 1) rfl) pa_nil)) (pe_fld (pv 0) rfl) (nomark _))
        (pss_one (ps_ret (pe_gc (by rfl) T.k_COUNTED)))
        pss_nil)
      (pss_cons (ps_set (i := 3) sc_count_answer.nd rfl (Or.inl rfl) (pe_ix ix_list (pe_fld (pv 0) rfl) (pe_fld (pv 1) rfl) (fun _ _ => rfl)))
      (pss_cons (ps_if (pt_val (pe_fld (pv 3) rfl))
        (pss_cons (ps_fld (pv 1) (pe_tup (pa_cons (pe_op op_add (pe_ix ix_tup (pe_fld (pv 1) rfl) pe_int (fun _ _ => rfl)) pe_int) (pa_cons (pe_fld (pv 3) rfl) pa_nil))) rfl)
        (pss_one (ps_fld (pv 1) (pe_fld (pv 3) rfl) rfl)))
        (pss_one (ps_if (pt_cmpR op_eq (pe_fld (pv 0) rfl) pe_int (nomark _))
          (pss_one (ps_ret (pe_call G_end_operation (hr.mono (by decide)) (by rfl) T.d_end_operation.g T.d_end_operation.F.kp T.d_end_operation.b .nil pass0 (pa_cons (pv 0) (pa_cons (pv 1) pa_nil)))))
          pss_nil)))
      (pss_cons (ps_fld (pv 1) (pe_gc (by rfl) T.k_TELLING) rfl)
      (pss_cons (ps_fld (pv 1) (pe_lst pa_nil) rfl)
      (pss_cons (ps_expr (pe_call G_send_to_all (hr.mono (by decide)) (by rfl) T.d_send_to_all.g T.d_send_to_all.F.kp T.d_send_to_all.b .nil pass0 (pa_cons (pv 0) (pa_cons (pe_fld (pv 3) rfl) pa_nil))))
      (pss_one (ps_ret (pe_gc (by rfl) T.k_TELLS)))))))))), ?_⟩)
  · obtain ⟨st, pw, pm, L, a, c, z, o, x, rfl, _⟩ := h
    rfl
  · obtain ⟨st, pw, pm, L, a, c, z, o, x, rfl, S, hw, hz, hz1, hM, ho, hwho, h5, hg, k⟩ := h
    obtain ⟨dS, hS⟩ := S.obj
    obtain ⟨pw', ct, hw', hct, hC⟩ := S.c_at hz
    cases (hw.symm.trans hw')
    obtain ⟨dC, tg, hc, htg, hl⟩ := id hC
    obtain ⟨dm, tm, hm, htm⟩ := id hM
    have mC : pw ∈ foot st L := mem_cs (List.mem_of_getElem? hw)
    unfold countA at k
    dsimp only at k
    rw [customer_at hz] at k
    refine ⟨_, rfl, pm, _, dm, _, _, rfl, hm, T.c_Message.cl, T.c_Message.n _ (by decide +kernel), rfl, _, rfl, pw, _, dC, _, _, rfl, hc, T.c_Customer.cl, T.c_Customer.n _ (by decide +kernel), rfl, _, _, x.tag, z.tag, rfl, rfl, SqT.of htm, SqT.of htg, _, rfl, ?_⟩
    refine ite2 (fun n => ?_) fun n => ?_
    · rw [if_pos n] at k
      have nm : pm ≠ pw := ne_head hm hc d_CG.symm
      have ntm : tm ≠ pw := ne_head htm hc (fun e => by cases e)
      refine ⟨_, rfl, pm, _, dm, _, _, rfl, hm, T.c_Message.cl, T.c_Message.n _ (by decide +kernel), rfl, _, rfl, pw, _, dC, _, rfl, hc, T.c_Customer.cl, T.c_Customer.n _ (by decide +kernel), lt1000 rfl, ?_⟩
      refine ⟨_, rfl, pm, _, dm, _, _, rfl, (show upd H pw _ pm = some (.ins T.c_Message.C dm (gF x tm)) by rw [upd_ne nm]; exact hm), T.c_Message.cl, T.c_Message.n _ (by decide +kernel), rfl, _, rfl, pw, _, dC, _, rfl, upd_same, T.c_Customer.cl, T.c_Customer.n _ (by decide +kernel), lt1000 rfl, ?_⟩
      generalize hy : ({ z with tag := x.tag, v := x.v } : Su153.Customer) = y at k
      have hyk : y.k = z.k := by rw [← hy]
      have hyg : y.got = z.got := by rw [← hy]
      have kc : Chg pw H (upd (upd H pw (.ins T.ca.C dC (putF "tag" (.ref tm) (cF z ct tg)))) pw (.ins T.ca.C dC (putF "value" (.int x.v) (putF "tag" (.ref tm) (cF z ct tg))))) := fun b v e n => by
        rw [upd_ne n, upd_ne n]
        exact e
      have hc1 : upd (upd H pw (.ins T.ca.C dC (putF "tag" (.ref tm) (cF z ct tg)))) pw (.ins T.ca.C dC (putF "value" (.int x.v) (putF "tag" (.ref tm) (cF z ct tg)))) pw = some (.ins T.ca.C dC (cF y ct tm)) := by
        rw [← hy]
        exact upd_same
      have ht1 := kc _ _ htm ntm
      have hl1 := kc _ _ hl (ne_head hl hc (fun e => by cases e))
      rw [show tagV x.tag = tagV y.tag by rw [← hy]] at ht1
      rw [show natV z.got = natV y.got by rw [hyg]] at hl1
      have F1 := kc.frm (F := foot st L) mC
      have S1 := S.setC0 (z := y) hw hct kc ⟨dC, tm, hc1, ht1, hl1⟩
      have hyt : ({ y with st := 2, got := [] } : Su153.Customer) = ⟨2, y.k, [], y.tag, y.v⟩ := rfl
      generalize (upd (upd H pw (.ins T.ca.C dC (putF "tag" (.ref tm) (cF z ct tg)))) pw (.ins T.ca.C dC (putF "value" (.int x.v) (putF "tag" (.ref tm) (cF z ct tg))))) = H1 at *
      obtain ⟨dS1, hS1⟩ := S1.obj
      obtain ⟨po, hpo, dO, hO1⟩ := S1.o_at (show (a.setC c y).ops[z.k]? = some o from ho)
      have npo : po ≠ pw := ne_head hO1 hc1 d_CO.symm
      generalize tm = tg1 at hc1 ht1
      refine ⟨_, rfl, pw, _, dC, _, _, rfl, hc1, T.c_Customer.cl, T.c_Customer.n _ (by decide +kernel), rfl, _, _, rfl, .inl (SqL.of hl1), _, rfl, st, _, dS1, _, _, rfl, hS1, T.c_Store.cl, T.c_Store.n _ (by decide +kernel), rfl, _, _, rfl, rfl, _, rfl, ?_⟩
      rw [natV_len]
      have ea : (a.setC c y).ask = a.ask := rfl
      refine ite2 (fun q => ?_) fun q => ?_
      · have e : y.got.length < a.ask := by
          have := of_decide_eq_true q
          omega
        rw [if_pos e] at k
        exact k _ L S1 F1
      have e : ¬ y.got.length < a.ask := fun e => q (decide_eq_true (by omega))
      rw [if_neg e, asked_set hz (by rw [hyk]; exact ho)] at k
      have telln : ∀ {H3 : Hp} {u : Su153.Customer} {tg3 ct' : Addr}, H3 pw = some (.ins T.c_Customer.C dC (cF u ct tg3)) → TagAt H3 tg3 u.tag → Chg pw H1 H3 → ({ u with st := 2, got := [] } : Su153.Customer) = tells o c y →
          upd H3 pw (.ins T.c_Customer.C dC (putF "how" (.int 2) (cF u ct tg3))) ct' = none → ¬ (o.wr = false ∧ a.on = false) →
          spSend T [.ref st, .int o.who] (upd (upd (upd H3 pw (.ins T.c_Customer.C dC (putF "how" (.int 2) (cF u ct tg3)))) ct' (.lst [])) pw (.ins T.c_Customer.C dC (putF "counted" (.ref ct') (putF "how" (.int 2) (cF u ct tg3))))) (fun _ H' => Q (.int 3) H') E0 := by
        intro H3 u tg3 ct' h3 ht3 k3 eu hn hno
        rw [if_neg hno] at k
        have ncp : ct' ≠ pw := fun e => by rw [e, upd_same] at hn; cases hn
        have hn3 : H3 ct' = none := by
          rw [upd_ne ncp] at hn
          exact hn
        have hn1 : H1 ct' = none := by
          cases e : H1 ct' with
          | none => rfl
          | some u =>
            rw [k3 _ _ e ncp] at hn3
            cases hn3
        have kk : Chg pw H1 (upd (upd (upd H3 pw (.ins T.c_Customer.C dC (putF "how" (.int 2) (cF u ct tg3)))) ct' (.lst [])) pw (.ins T.c_Customer.C dC (putF "counted" (.ref ct') (putF "how" (.int 2) (cF u ct tg3))))) := fun b v e n => by
          rw [upd_ne n, upd_ne (ne_of_none e hn1), upd_ne n]
          exact k3 _ _ e n
        have ntg : tg3 ≠ pw := ne_head ht3 h3 (fun e => by cases e)
        have S5 := S1.setC (z := { u with st := 2, got := [] }) hw kk ⟨dC, tg3, upd_same, by
          show upd _ pw _ tg3 = _
          rw [upd_ne ntg, upd_ne (ne_of_none ht3 hn3), upd_ne ntg]
          exact ht3, by rw [upd_ne ncp, upd_same]; rfl⟩ (.inr (S1.fresh hn1))
        rw [setC_setC, eu] at S5
        refine ⟨st, _, a.setC c (tells o c y), c, tells o c y, by rw [hwho], S5, setC_at hz, .inr (by rw [← eu]), h5, hg, fun H' gs' S' F' => ?_⟩
        refine k H' { L with cts := L.cts.set c ct', gs := gs' } S' (F1.trans (Frm.trans (F1 := foot st { L with cts := L.cts.set c ct' }) ⟨fun b v e n => kk b v e fun q => n (q ▸ mC), fun b hb => ?_⟩ F'))
        rcases foot_set hb with h | h
        · exact .inl h
        · exact .inr (h ▸ hn1)
      refine ⟨_, rfl, st, _, dS1, _, _, rfl, hS1, T.c_Store.cl, T.c_Store.n _ (by decide +kernel), rfl, _, rfl, pw, _, dC, _, _, rfl, hc1, T.c_Customer.cl, T.c_Customer.n _ (by decide +kernel), rfl, _, _, _, _, rfl, rfl, SqL.of S1.oL, atI_nat (by rw [List.getElem?_map, hyk, hpo]; rfl), ?_⟩
      refine ⟨_, rfl, po, _, dO, _, _, rfl, hO1, T.c_Operation.cl, T.c_Operation.n _ (by decide +kernel), rfl, _, rfl, ?_⟩
      refine ite2 (fun wr => ?_) fun wr => ?_
      · refine ⟨_, rfl, pw, _, dC, _, _, rfl, hc1, T.c_Customer.cl, T.c_Customer.n _ (by decide +kernel), rfl, _, _, _, _, rfl, rfl, SqT.of ht1, rfl, _, _, rfl, rfl, _, rfl, po, _, dO, _, _, rfl, hO1, T.c_Operation.cl, T.c_Operation.n _ (by decide +kernel), rfl, (by show 2 ≤ sizeLine; decide), fun t3 ht3 => ?_⟩
        have np3 : pw ≠ t3 := ne_of_none hc1 ht3
        have no3 : po ≠ t3 := ne_of_none hO1 ht3
        refine ⟨_, rfl, pw, _, dC, _, rfl, (by rw [upd_ne np3]; exact hc1), T.c_Customer.cl, T.c_Customer.n _ (by decide +kernel), lt1000 rfl, ?_⟩
        refine ⟨_, rfl, po, _, dO, _, _, rfl, (by rw [upd_ne npo, upd_ne no3]; exact hO1), T.c_Operation.cl, T.c_Operation.n _ (by decide +kernel), rfl, _, rfl, pw, _, dC, _, rfl, upd_same, T.c_Customer.cl, T.c_Customer.n _ (by decide +kernel), lt1000 rfl, ?_⟩
        have hc3 : upd (upd (upd H1 t3 (.tup [.int ((y.tag.n : Int) + 1), .int o.who])) pw (.ins T.c_Customer.C dC (putF "tag" (.ref t3) (cF y ct tg1)))) pw (.ins T.c_Customer.C dC (putF "value" (.int o.v) (putF "tag" (.ref t3) (cF y ct tg1)))) pw = some (.ins T.c_Customer.C dC (cF { y with tag := ⟨y.tag.n + 1, o.who⟩, v := o.v } ct t3)) := upd_same
        have ht3' : TagAt (upd (upd (upd H1 t3 (.tup [.int ((y.tag.n : Int) + 1), .int o.who])) pw (.ins T.c_Customer.C dC (putF "tag" (.ref t3) (cF y ct tg1)))) pw (.ins T.c_Customer.C dC (putF "value" (.int o.v) (putF "tag" (.ref t3) (cF y ct tg1))))) t3 ⟨y.tag.n + 1, o.who⟩ := by
          show upd _ pw _ t3 = _
          rw [upd_ne np3.symm, upd_ne np3.symm, upd_same]
          rfl
        have k3 : Chg pw H1 (upd (upd (upd H1 t3 (.tup [.int ((y.tag.n : Int) + 1), .int o.who])) pw (.ins T.c_Customer.C dC (putF "tag" (.ref t3) (cF y ct tg1)))) pw (.ins T.c_Customer.C dC (putF "value" (.int o.v) (putF "tag" (.ref t3) (cF y ct tg1))))) := fun b v e n => by
          rw [upd_ne n, upd_ne n, upd_ne (ne_of_none e ht3)]
          exact e
        refine ⟨_, rfl, pw, _, dC, _, rfl, hc3, T.c_Customer.cl, T.c_Customer.n _ (by decide +kernel), lt1000 rfl, ?_⟩
        refine ⟨Nat.zero_le _, fun ct' hn => ?_⟩
        have npc : po ≠ ct' := fun e => by
          rw [← e, upd_ne npo, upd_ne npo, upd_ne npo, upd_ne no3, hO1] at hn
          cases hn
        refine ⟨_, rfl, pw, _, dC, _, rfl, (by rw [upd_ne (ne_of_none upd_same hn)]; exact upd_same), T.c_Customer.cl, T.c_Customer.n _ (by decide +kernel), lt1000 rfl, ?_⟩
        exact ⟨_, rfl, _, rfl, po, _, dO, _, _, rfl, (by rw [upd_ne npo, upd_ne npc, upd_ne npo, upd_ne npo, upd_ne npo, upd_ne no3]; exact hO1), T.c_Operation.cl, T.c_Operation.n _ (by decide +kernel), rfl, telln hc3 ht3' k3 (by unfold tells; rw [if_pos wr, hwho]) hn (fun q => by rw [q.1] at wr; cases wr)⟩
      · have w0 : o.wr = false := by simpa using wr
        refine ⟨_, rfl, st, _, dS1, _, _, rfl, hS1, T.c_Store.cl, T.c_Store.n _ (by decide +kernel), rfl, rfl, _, rfl, ?_⟩
        refine ite2 (fun on0 => ?_) fun on0 => ?_
        · have e0 : a.on = false := (on_int _).mp (V.int.inj (of_decide_eq_true on0))
          rw [if_pos ⟨w0, e0⟩] at k
          exact ⟨_, rfl, _, rfl, st, pw, L, a.setC c y, c, y, o, rfl, S1, hw, setC_at hz, by rw [hyk]; exact ho, (fun q => by rw [w0] at q; cases q), fun H' L' S' F' => k H' L' S' (F1.trans F')⟩
        · have e0 : ¬ a.on = false := fun e => on0 (decide_eq_true (by show V.int (onI a.on) = V.int 0; rw [e] <;> rfl))
          refine ⟨_, rfl, pw, _, dC, _, rfl, hc1, T.c_Customer.cl, T.c_Customer.n _ (by decide +kernel), lt1000 rfl, ?_⟩
          refine ⟨Nat.zero_le _, fun ct' hn => ?_⟩
          have npc : po ≠ ct' := fun e => by
            rw [← e, upd_ne npo, hO1] at hn
            cases hn
          refine ⟨_, rfl, pw, _, dC, _, rfl, (by rw [upd_ne (ne_of_none upd_same hn)]; exact upd_same), T.c_Customer.cl, T.c_Customer.n _ (by decide +kernel), lt1000 rfl, ?_⟩
          exact ⟨_, rfl, _, rfl, po, _, dO, _, _, rfl, (by rw [upd_ne npo, upd_ne npc, upd_ne npo]; exact hO1), T.c_Operation.cl, T.c_Operation.n _ (by decide +kernel), rfl, telln hc1 ht1 (fun b v e n => e) (by unfold tells; rw [if_neg wr, hyt]) hn (fun q => e0 q.2)⟩
    · rw [if_neg n] at k
      generalize hy : z = y at k
      have hyk : y.k = z.k := by rw [← hy]
      have hyg : y.got = z.got := by rw [← hy]
      have S1 : StoreAt T.ca H st L (a.setC c y) := S.setC0 hw hct (fun b o e _ => e) (by rw [← hy]; exact hC)
      have F1 : Frm H H (foot st L) (foot st L) := .refl _ _
      have hc1 : H pw = some (.ins T.c_Customer.C dC (cF y ct tg)) := by rw [← hy]; exact hc
      have ht1 : H tg = some (.tup (tagV y.tag)) := by rw [← hy]; exact htg
      have hl1 : H ct = some (.lst (natV y.got)) := by rw [← hy]; exact hl
      have hyt : ({ y with st := 2, got := [] } : Su153.Customer) = ⟨2, y.k, [], y.tag, y.v⟩ := rfl
      obtain ⟨H1, eH⟩ : ∃ H1, H1 = H := ⟨_, rfl⟩
      rw [← eH]
      rw [← eH] at S1 F1 hc1 ht1 hl1
      rw [eH] at F1
      have F1 : Frm H H1 (foot st L) (foot st L) := by rw [eH]; exact F1
      obtain ⟨dS1, hS1⟩ := S1.obj
      obtain ⟨po, hpo, dO, hO1⟩ := S1.o_at (show (a.setC c y).ops[z.k]? = some o from ho)
      have npo : po ≠ pw := ne_head hO1 hc1 d_CO.symm
      generalize tg = tg1 at hc1 ht1
      refine ⟨_, rfl, pw, _, dC, _, _, rfl, hc1, T.c_Customer.cl, T.c_Customer.n _ (by decide +kernel), rfl, _, _, rfl, .inl (SqL.of hl1), _, rfl, st, _, dS1, _, _, rfl, hS1, T.c_Store.cl, T.c_Store.n _ (by decide +kernel), rfl, _, _, rfl, rfl, _, rfl, ?_⟩
      rw [natV_len]
      have ea : (a.setC c y).ask = a.ask := rfl
      refine ite2 (fun q => ?_) fun q => ?_
      · have e : y.got.length < a.ask := by
          have := of_decide_eq_true q
          omega
        rw [if_pos e] at k
        exact k _ L S1 F1
      have e : ¬ y.got.length < a.ask := fun e => q (decide_eq_true (by omega))
      rw [if_neg e, asked_set hz (by rw [hyk]; exact ho)] at k
      have telln : ∀ {H3 : Hp} {u : Su153.Customer} {tg3 ct' : Addr}, H3 pw = some (.ins T.c_Customer.C dC (cF u ct tg3)) → TagAt H3 tg3 u.tag → Chg pw H1 H3 → ({ u with st := 2, got := [] } : Su153.Customer) = tells o c y →
          upd H3 pw (.ins T.c_Customer.C dC (putF "how" (.int 2) (cF u ct tg3))) ct' = none → ¬ (o.wr = false ∧ a.on = false) →
          spSend T [.ref st, .int o.who] (upd (upd (upd H3 pw (.ins T.c_Customer.C dC (putF "how" (.int 2) (cF u ct tg3)))) ct' (.lst [])) pw (.ins T.c_Customer.C dC (putF "counted" (.ref ct') (putF "how" (.int 2) (cF u ct tg3))))) (fun _ H' => Q (.int 3) H') E0 := by
        intro H3 u tg3 ct' h3 ht3 k3 eu hn hno
        rw [if_neg hno] at k
        have ncp : ct' ≠ pw := fun e => by rw [e, upd_same] at hn; cases hn
        have hn3 : H3 ct' = none := by
          rw [upd_ne ncp] at hn
          exact hn
        have hn1 : H1 ct' = none := by
          cases e : H1 ct' with
          | none => rfl
          | some u =>
            rw [k3 _ _ e ncp] at hn3
            cases hn3
        have kk : Chg pw H1 (upd (upd (upd H3 pw (.ins T.c_Customer.C dC (putF "how" (.int 2) (cF u ct tg3)))) ct' (.lst [])) pw (.ins T.c_Customer.C dC (putF "counted" (.ref ct') (putF "how" (.int 2) (cF u ct tg3))))) := fun b v e n => by
          rw [upd_ne n, upd_ne (ne_of_none e hn1), upd_ne n]
          exact k3 _ _ e n
        have ntg : tg3 ≠ pw := ne_head ht3 h3 (fun e => by cases e)
        have S5 := S1.setC (z := { u with st := 2, got := [] }) hw kk ⟨dC, tg3, upd_same, by
          show upd _ pw _ tg3 = _
          rw [upd_ne ntg, upd_ne (ne_of_none ht3 hn3), upd_ne ntg]
          exact ht3, by rw [upd_ne ncp, upd_same]; rfl⟩ (.inr (S1.fresh hn1))
        rw [setC_setC, eu] at S5
        refine ⟨st, _, a.setC c (tells o c y), c, tells o c y, by rw [hwho], S5, setC_at hz, .inr (by rw [← eu]), h5, hg, fun H' gs' S' F' => ?_⟩
        refine k H' { L with cts := L.cts.set c ct', gs := gs' } S' (F1.trans (Frm.trans (F1 := foot st { L with cts := L.cts.set c ct' }) ⟨fun b v e n => kk b v e fun q => n (q ▸ mC), fun b hb => ?_⟩ F'))
        rcases foot_set hb with h | h
        · exact .inl h
        · exact .inr (h ▸ hn1)
      refine ⟨_, rfl, st, _, dS1, _, _, rfl, hS1, T.c_Store.cl, T.c_Store.n _ (by decide +kernel), rfl, _, rfl, pw, _, dC, _, _, rfl, hc1, T.c_Customer.cl, T.c_Customer.n _ (by decide +kernel), rfl, _, _, _, _, rfl, rfl, SqL.of S1.oL, atI_nat (by rw [List.getElem?_map, hyk, hpo]; rfl), ?_⟩
      refine ⟨_, rfl, po, _, dO, _, _, rfl, hO1, T.c_Operation.cl, T.c_Operation.n _ (by decide +kernel), rfl, _, rfl, ?_⟩
      refine ite2 (fun wr => ?_) fun wr => ?_
      · refine ⟨_, rfl, pw, _, dC, _, _, rfl, hc1, T.c_Customer.cl, T.c_Customer.n _ (by decide +kernel), rfl, _, _, _, _, rfl, rfl, SqT.of ht1, rfl, _, _, rfl, rfl, _, rfl, po, _, dO, _, _, rfl, hO1, T.c_Operation.cl, T.c_Operation.n _ (by decide +kernel), rfl, (by show 2 ≤ sizeLine; decide), fun t3 ht3 => ?_⟩
        have np3 : pw ≠ t3 := ne_of_none hc1 ht3
        have no3 : po ≠ t3 := ne_of_none hO1 ht3
        refine ⟨_, rfl, pw, _, dC, _, rfl, (by rw [upd_ne np3]; exact hc1), T.c_Customer.cl, T.c_Customer.n _ (by decide +kernel), lt1000 rfl, ?_⟩
        refine ⟨_, rfl, po, _, dO, _, _, rfl, (by rw [upd_ne npo, upd_ne no3]; exact hO1), T.c_Operation.cl, T.c_Operation.n _ (by decide +kernel), rfl, _, rfl, pw, _, dC, _, rfl, upd_same, T.c_Customer.cl, T.c_Customer.n _ (by decide +kernel), lt1000 rfl, ?_⟩
        have hc3 : upd (upd (upd H1 t3 (.tup [.int ((y.tag.n : Int) + 1), .int o.who])) pw (.ins T.c_Customer.C dC (putF "tag" (.ref t3) (cF y ct tg1)))) pw (.ins T.c_Customer.C dC (putF "value" (.int o.v) (putF "tag" (.ref t3) (cF y ct tg1)))) pw = some (.ins T.c_Customer.C dC (cF { y with tag := ⟨y.tag.n + 1, o.who⟩, v := o.v } ct t3)) := upd_same
        have ht3' : TagAt (upd (upd (upd H1 t3 (.tup [.int ((y.tag.n : Int) + 1), .int o.who])) pw (.ins T.c_Customer.C dC (putF "tag" (.ref t3) (cF y ct tg1)))) pw (.ins T.c_Customer.C dC (putF "value" (.int o.v) (putF "tag" (.ref t3) (cF y ct tg1))))) t3 ⟨y.tag.n + 1, o.who⟩ := by
          show upd _ pw _ t3 = _
          rw [upd_ne np3.symm, upd_ne np3.symm, upd_same]
          rfl
        have k3 : Chg pw H1 (upd (upd (upd H1 t3 (.tup [.int ((y.tag.n : Int) + 1), .int o.who])) pw (.ins T.c_Customer.C dC (putF "tag" (.ref t3) (cF y ct tg1)))) pw (.ins T.c_Customer.C dC (putF "value" (.int o.v) (putF "tag" (.ref t3) (cF y ct tg1))))) := fun b v e n => by
          rw [upd_ne n, upd_ne n, upd_ne (ne_of_none e ht3)]
          exact e
        refine ⟨_, rfl, pw, _, dC, _, rfl, hc3, T.c_Customer.cl, T.c_Customer.n _ (by decide +kernel), lt1000 rfl, ?_⟩
        refine ⟨Nat.zero_le _, fun ct' hn => ?_⟩
        have npc : po ≠ ct' := fun e => by
          rw [← e, upd_ne npo, upd_ne npo, upd_ne npo, upd_ne no3, hO1] at hn
          cases hn
        refine ⟨_, rfl, pw, _, dC, _, rfl, (by rw [upd_ne (ne_of_none upd_same hn)]; exact upd_same), T.c_Customer.cl, T.c_Customer.n _ (by decide +kernel), lt1000 rfl, ?_⟩
        exact ⟨_, rfl, _, rfl, po, _, dO, _, _, rfl, (by rw [upd_ne npo, upd_ne npc, upd_ne npo, upd_ne npo, upd_ne npo, upd_ne no3]; exact hO1), T.c_Operation.cl, T.c_Operation.n _ (by decide +kernel), rfl, telln hc3 ht3' k3 (by unfold tells; rw [if_pos wr, hwho]) hn (fun q => by rw [q.1] at wr; cases wr)⟩
      · have w0 : o.wr = false := by simpa using wr
        refine ⟨_, rfl, st, _, dS1, _, _, rfl, hS1, T.c_Store.cl, T.c_Store.n _ (by decide +kernel), rfl, rfl, _, rfl, ?_⟩
        refine ite2 (fun on0 => ?_) fun on0 => ?_
        · have e0 : a.on = false := (on_int _).mp (V.int.inj (of_decide_eq_true on0))
          rw [if_pos ⟨w0, e0⟩] at k
          exact ⟨_, rfl, _, rfl, st, pw, L, a.setC c y, c, y, o, rfl, S1, hw, setC_at hz, by rw [hyk]; exact ho, (fun q => by rw [w0] at q; cases q), fun H' L' S' F' => k H' L' S' (F1.trans F')⟩
        · have e0 : ¬ a.on = false := fun e => on0 (decide_eq_true (by show V.int (onI a.on) = V.int 0; rw [e] <;> rfl))
          refine ⟨_, rfl, pw, _, dC, _, rfl, hc1, T.c_Customer.cl, T.c_Customer.n _ (by decide +kernel), lt1000 rfl, ?_⟩
          refine ⟨Nat.zero_le _, fun ct' hn => ?_⟩
          have npc : po ≠ ct' := fun e => by
            rw [← e, upd_ne npo, hO1] at hn
            cases hn
          refine ⟨_, rfl, pw, _, dC, _, rfl, (by rw [upd_ne (ne_of_none upd_same hn)]; exact upd_same), T.c_Customer.cl, T.c_Customer.n _ (by decide +kernel), lt1000 rfl, ?_⟩
          exact ⟨_, rfl, _, rfl, po, _, dO, _, _, rfl, (by rw [upd_ne npo, upd_ne npc, upd_ne npo]; exact hO1), T.c_Operation.cl, T.c_Operation.n _ (by decide +kernel), rfl, telln hc1 ht1 (fun b v e n => e) (by unfold tells; rw [if_neg wr, hyt]) hn (fun q => e0 q.2)⟩
end
end Ea

/-! The bodies of coming.py: come. -/
namespace Ea
open PySem PySem.Spec PyProof.Rows L2
theorem seqIx_nat {i n : Nat} (h : i < n) : seqIndex? (i : Int) n = some i := by
  have e : ixN n (i : Int) = some i := by
    unfold ixN
    rw [if_pos (by omega), if_pos (by omega)]
    simp
  exact (ixN_seq e).1
theorem erase_map {α β : Type} {f : α → β} : ∀ (l : List α) (i : Nat), (l.map f).eraseIdx i = (l.eraseIdx i).map f
  | [], i => by simp
  | x :: l, 0 => rfl
  | x :: l, i + 1 => by
    show f x :: (l.map f).eraseIdx i = f x :: (l.eraseIdx i).map f
    rw [erase_map l i]
theorem StoreAt.drop {c : CA} {H : Hp} {st : Addr} {L : Lay} {a : Su153.Abs} (S : StoreAt c H st L a) (i : Nat) :
    StoreAt c (upd H L.gL (.lst ((L.gs.map V.ref).eraseIdx i))) st { L with gs := L.gs.eraseIdx i } (a.drop i) := by
  refine S.setG .upd (by rw [upd_same, erase_map]) ?_ fun j r y h1 h2 => ?_
  · rw [List.length_eraseIdx, List.length_eraseIdx, S.gl]
  · rw [List.getElem?_eraseIdx] at h1 h2
    by_cases q : j < i
    · rw [if_pos q] at h1 h2
      exact S.gAt _ r y h1 h2
    · rw [if_neg q] at h1 h2
      exact S.gAt _ r y h1 h2
theorem countA_eq {a : Su153.Abs} {x : Su153.Msg} {z : Su153.Customer} (hz : a.customers[x.c]? = some z) :
    countA (a.setC x.c { z with got := z.got ++ [x.m] }) x.c x = (let y : Su153.Customer := if Su153.newer x.tag z.tag then { z with got := z.got ++ [x.m], tag := x.tag, v := x.v } else { z with got := z.got ++ [x.m] }
      let b := a.setC x.c y
      if y.got.length < a.ask then (b, 2) else b.asked x.c) := by
  unfold countA
  dsimp only
  rw [customer_at (setC_at hz), setC_setC]
  rfl
theorem comes_count {a : Su153.Abs} {x : Su153.Msg} {z : Su153.Customer} (hz : a.customers[x.c]? = some z) (h0 : x.kind ≠ 0) (h2 : x.kind ≠ 2) (h3 : x.kind ≤ 3) :
    a.comes x = if waits z x = true then (if x.kind = 1 then countA (a.setC x.c { z with got := z.got ++ [x.m] }) x.c x else countH (a.setC x.c { z with got := z.got ++ [x.m] }) x.c) else (a, 0) := by
  rw [countA_eq hz]
  unfold Su153.Abs.comes countH
  dsimp only
  rw [customer_at hz, if_neg h0, if_neg h2]
  by_cases k1 : x.kind = 1
  · rw [if_pos k1]
    have e : waits z x = true ↔ ¬ (z.st ≠ 1 ∨ z.k ≠ x.k ∨ z.got.contains x.m = true) := by
      unfold waits
      rw [if_pos k1]
      simp
    by_cases wt : waits z x = true
    · rw [if_pos wt, if_neg (e.mp wt), if_pos k1]
    · rw [if_neg wt, if_pos (Classical.byContradiction fun q => wt (e.mpr q))]
  · rw [if_neg k1]
    have e : waits z x = true ↔ ¬ (z.st ≠ 2 ∨ z.k ≠ x.k ∨ z.got.contains x.m = true) := by
      unfold waits
      rw [if_neg k1]
      simp
    by_cases wt : waits z x = true
    · rw [if_pos wt, if_neg (e.mp wt), if_neg k1, customer_at (setC_at hz)]
      have el : ({ z with got := z.got ++ [x.m] } : Su153.Customer).got.length = z.got.length + 1 := List.length_append
      rw [el]
      rfl
    · rw [if_neg wt, if_pos (Classical.byContradiction fun q => wt (e.mpr q))]
section
variable {P : Program} {w : World} {K : PySem.W.Frag} {mg : Str → Option Value} {base : Heap}
def spCome (T : Txt K mg) : Sp := fun vs H Q _ => ∃ (st : Addr) (L : Lay) (a : Su153.Abs) (i : Nat), vs = [.ref st, .int i] ∧ StoreAt T.ca H st L a ∧ Good a ∧ i < a.msgs.length ∧ a.msgs.length ≤ 2000000 ∧
  ∀ (H' : Hp) (L' : Lay), StoreAt T.ca H' st L' (a.deliver i).1 → Frm H H' (foot st L) (foot st L') → Q (.int (a.deliver i).2) H'
theorem ok_come (T : Txt K mg) : FnOk P w K mg base CX0 5 T.d_come.f T.d_come.fd ["store", "place"] (spCome T) := by
  have G_come_to_machine := ok_come_to_machine (P := P) (w := w) (base := base) T
  have G_waits_for := ok_waits_for (P := P) (w := w) (base := base) T
  have G_count_answer := ok_count_answer (P := P) (w := w) (base := base) T
  have G_count_heard := ok_count_heard (P := P) (w := w) (base := base) T
  refine T.d_come.F.ok sc_come (fun vs H Q E h => ?_) (fun cdv A outer s H vs Q E hr h => ⟨_, (pss_cons (ps_set (i := 2) sc_come.nd rfl (Or.inl rfl) (pe_bm PySem.F.plainAttrs_list PySem.F.slot_list_pop PySem.F.type_list_pop mt_popAt (pe_fld (pv 0) rfl) (pa_cons (pv 1) pa_nil)))
      (pss_cons (ps_if (PW.pt (pw_or (pt_cmpR op_eq (pe_fld (pv 2) rfl) (pe_gc (by rfl) T.k_ASKED) (nomark _)) (pw_or1 (pt_cmpR op_eq (pe_fld (pv 2) rfl) (pe_gc (by rfl) T.k_TOLD) (nomark _)))))
        (pss_one (ps_ret (pe_call G_come_to_machine (hr.mono (by decide)) (by rfl) T.d_come_to_machine.g T.d_come_to_machine.F.kp T.d_come_to_machine.b .nil pass0 (pa_cons (pv 0) (pa_cons (pv 2) pa_nil)))))
        pss_nil)
      (pss_cons (ps_set (i := 3) sc_come.nd rfl (Or.inl rfl) (pe_ix ix_list (pe_fld (pv 0) rfl) (pe_fld (pv 2) rfl) (fun _ _ => rfl)))
      (pss_cons (ps_if (pt_not (pt_val (pe_call G_waits_for (hr.mono (by decide)) (by rfl) T.d_waits_for.g T.d_waits_for.F.kp T.d_waits_for.b .nil pass0 (pa_cons (pv 3) (pa_cons (pv 2) pa_nil)))))
        (pss_one (ps_ret (pe_gc (by rfl) T.k_NOTHING)))
        pss_nil)
      (pss_cons (ps_expr (pe_bm PySem.F.plainAttrs_list PySem.F.slot_list_append PySem.F.type_list_append mt_append (pe_fld (pv 3) rfl) (pa_cons (pe_fld (pv 2) rfl) pa_nil)))
      (pss_cons (ps_if (pt_cmpR op_eq (pe_fld (pv 2) rfl) (pe_gc (by rfl) T.k_ANSWERED) (nomark _))
        (pss_one (ps_ret (pe_call G_count_answer (hr.mono (by decide)) (by rfl) T.d_count_answer.g T.d_count_answer.F.kp T.d_count_answer.b .nil pass0 (pa_cons (pv 0) (pa_cons (pv 3) (pa_cons (pv 2) pa_nil))))))
        pss_nil)
      (pss_one (ps_ret (pe_call G_count_heard (hr.mono (by decide)) (by rfl) T.d_count_heard.g T.d_count_heard.F.kp T.d_count_heard.b .nil pass0 (pa_cons (pv 0) (pa_cons (pv 3) pa_nil))))))))))), ?_⟩)
  · obtain ⟨st, L, a, i, rfl, _⟩ := h
    rfl
  · obtain ⟨st, L, a, i, rfl, S, g, hi, hg, k⟩ := h
    obtain ⟨dS, hS⟩ := S.obj
    obtain ⟨x, hx⟩ := get_of_lt hi
    have ok := g.msgOk hi
    rw [msg_at hx] at ok
    obtain ⟨pm, hpm, hM⟩ := S.g_at hx
    unfold Su153.Abs.deliver at k
    rw [msg_at hx] at k
    have hilen : i < (L.gs.map V.ref).length := by rw [List.length_map, S.gl]; exact hi
    refine ⟨_, rfl, st, _, dS, _, _, rfl, hS, T.c_Store.cl, T.c_Store.n _ (by decide +kernel), rfl, .inl ⟨rfl, _, SqL.of S.gL⟩, _, rfl, L.gL, L.gs.map V.ref, i, i, .ref pm, rfl, rfl, S.gL, by omega, by omega, seqIx_nat hilen, by rw [List.getElem?_map, hpm]; rfl, ?_⟩
    have S1 := S.drop i
    have F1 : Frm H (upd H L.gL (.lst ((L.gs.map V.ref).eraseIdx i))) (foot st L) (foot st L) := Chg.upd.frm mem_gL
    have hM1 := hM.frm S F1
    have ok1 := ok.drop i
    have g1 := g.drop i
    have hg1 : (a.drop i).msgs.length ≤ 2000000 := Nat.le_trans (drop_len a i) hg
    have k1 : ∀ (H' : Hp) (L' : Lay), StoreAt T.ca H' st L' ((a.drop i).comes x).1 → Frm (upd H L.gL (.lst ((L.gs.map V.ref).eraseIdx i))) H' (foot st L) (foot st L') → Q (.int ((a.drop i).comes x).2) H' := fun H' L' S' F' => k H' L' S' (F1.trans F')
    clear k
    generalize (upd H L.gL (.lst ((L.gs.map V.ref).eraseIdx i))) = H1 at *
    generalize eb : a.drop i = b at *
    have L1 : ∃ L1 : Lay, L1 = { L with gs := L.gs.eraseIdx i } := ⟨_, rfl⟩
    obtain ⟨L1, eL⟩ := L1
    rw [← eL] at S1
    have ef : foot st L = foot st L1 := by rw [eL]; rfl
    rw [ef] at k1
    obtain ⟨dm, tm, hm, htm⟩ := id hM1
    obtain ⟨dS1, hS1⟩ := S1.obj
    obtain ⟨z, hz⟩ := get_of_lt ok1.c
    have qz := g1.cust _ z hz
    have toM : (x.kind = 0 ∨ x.kind = 2) → spToM T [.ref st, .ref pm] H1 Q E0 := fun hk => ⟨st, pm, L1, b, x, rfl, S1, hM1, hk, ok1.m, hg1, k1⟩
    refine ⟨_, rfl, pm, _, dm, _, _, rfl, hm, T.c_Message.cl, T.c_Message.n _ (by decide +kernel), rfl, rfl, _, rfl, ?_⟩
    refine ite2 (fun q0 => ?_) fun q0 => ?_
    · have e : x.kind = 0 := by
        have := V.int.inj (of_decide_eq_true q0)
        omega
      refine iteT ?_
      exact ⟨_, rfl, _, rfl, toM (.inl e)⟩
    have e0 : x.kind ≠ 0 := fun e => q0 (decide_eq_true (by rw [e] <;> rfl))
    refine ⟨_, rfl, pm, _, dm, _, _, rfl, hm, T.c_Message.cl, T.c_Message.n _ (by decide +kernel), rfl, rfl, _, rfl, ?_⟩
    refine ite2 (fun q2 => ?_) fun q2 => ?_
    · have e : x.kind = 2 := by
        have := V.int.inj (of_decide_eq_true q2)
        omega
      exact ⟨_, rfl, _, rfl, toM (.inr e)⟩
    have e2 : x.kind ≠ 2 := fun e => q2 (decide_eq_true (by rw [e] <;> rfl))
    rw [comes_count hz e0 e2 ok1.kind] at k1
    obtain ⟨pw, ct, hw, hct, hC⟩ := S1.c_at hz
    refine ⟨_, rfl, st, _, dS1, _, _, rfl, hS1, T.c_Store.cl, T.c_Store.n _ (by decide +kernel), rfl, _, rfl, pm, _, dm, _, _, rfl, hm, T.c_Message.cl, T.c_Message.n _ (by decide +kernel), rfl, _, _, _, _, rfl, rfl, SqL.of S1.cL, atI_nat (by rw [List.getElem?_map, hw]; rfl), ?_⟩
    refine ⟨_, rfl, _, rfl, pw, ct, pm, z, x, rfl, hC, hM1, _, rfl, ?_⟩
    refine ite2 (fun q => ?_) fun q => ?_
    · have wt : ¬ waits z x = true := by simpa using q
      rw [if_neg wt] at k1
      exact k1 _ L1 S1 (.refl _ _)
    have wt : waits z x = true := by simpa using q
    rw [if_pos wt] at k1
    have wt' := wt
    unfold waits at wt'
    simp only [Bool.and_eq_true, decide_eq_true_eq] at wt'
    obtain ⟨w1, w2, _⟩ := wt'
    have st12 : z.st = 1 ∨ z.st = 2 := by
      by_cases k0 : x.kind = 1
      · rw [if_pos k0] at w1
        exact .inl w1
      · rw [if_neg k0] at w1
        exact .inr w1
    obtain ⟨o, ho, hwho, _⟩ := qz.op st12
    obtain ⟨dC, tg, hc, htg, hl⟩ := id hC
    refine ⟨_, rfl, pw, _, dC, _, _, rfl, hc, T.c_Customer.cl, T.c_Customer.n _ (by decide +kernel), rfl, .inl ⟨rfl, _, SqL.of hl⟩, _, rfl, pm, _, dm, _, _, rfl, hm, T.c_Message.cl, T.c_Message.n _ (by decide +kernel), rfl, _, _, _, rfl, rfl, hl, ?_, ?_⟩
    · rw [natV_len]
      exact Nat.lt_of_le_of_lt qz.got (by decide)
    have mt : ct ∈ foot st L1 := mem_cts (List.mem_of_getElem? hct)
    have ew : natV z.got ++ [V.int x.m] = natV (z.got ++ [x.m]) := by
      unfold natV
      rw [List.map_append]
      rfl
    rw [ew]
    have S2 := S1.setT (l := z.got ++ [x.m]) hw hct hz .upd upd_same
    have F2 : Frm H1 (upd H1 ct (.lst (natV (z.got ++ [x.m])))) (foot st L1) (foot st L1) := Chg.upd.frm mt
    have hM2 := hM1.frm S1 F2
    have k2 : ∀ (H' : Hp) (L' : Lay), StoreAt T.ca H' st L' (if x.kind = 1 then countA (b.setC x.c { z with got := z.got ++ [x.m] }) x.c x else countH (b.setC x.c { z with got := z.got ++ [x.m] }) x.c).1 →
        Frm (upd H1 ct (.lst (natV (z.got ++ [x.m])))) H' (foot st L1) (foot st L') → Q (.int (if x.kind = 1 then countA (b.setC x.c { z with got := z.got ++ [x.m] }) x.c x else countH (b.setC x.c { z with got := z.got ++ [x.m] }) x.c).2) H' := fun H' L' S' F' => k1 H' L' S' (F2.trans F')
    clear k1
    generalize (upd H1 ct (.lst (natV (z.got ++ [x.m])))) = H2 at *
    obtain ⟨dm2, tm2, hm2, _⟩ := id hM2
    refine ⟨_, rfl, pm, _, dm2, _, _, rfl, hm2, T.c_Message.cl, T.c_Message.n _ (by decide +kernel), rfl, rfl, _, rfl, ?_⟩
    refine ite2 (fun q1 => ?_) fun q1 => ?_
    · have e1 : x.kind = 1 := by
        have := V.int.inj (of_decide_eq_true q1)
        omega
      rw [if_pos e1] at k2 w1
      exact ⟨_, rfl, _, rfl, _, rfl, st, pw, pm, L1, b.setC x.c { z with got := z.got ++ [x.m] }, x.c, { z with got := z.got ++ [x.m] }, o, x, rfl, S2, hw, setC_at hz, w1, hM2, ho, hwho, g1.n.2, hg1, k2⟩
    · have e1 : ¬ x.kind = 1 := fun e => q1 (decide_eq_true (by rw [e] <;> rfl))
      rw [if_neg e1] at k2 w1
      exact ⟨_, rfl, _, rfl, st, pw, L1, b.setC x.c { z with got := z.got ++ [x.m] }, x.c, { z with got := z.got ++ [x.m] }, o, rfl, S2, hw, setC_at hz, ho, qz.own w1 o ho, k2⟩
end
end Ea

/-! The bodies of changes.py: small ones. -/
namespace Ea
open PySem PySem.Spec PyProof.Rows L2
section
variable {P : Program} {w : World} {K : PySem.W.Frag} {mg : Str → Option Value} {base : Heap}
/-- an answer as values -/
def ansV (z : Su153.Ans) : List V := .int z.value :: natV z.out
/-- a call of the specification, on a store, with its numbers -/
def spDo (T : Txt K mg) (x : Su153.Call) (args : List V) : Sp := fun vs H Q _ => ∃ (st : Addr) (L : Lay) (a : Su153.Abs), vs = .ref st :: args ∧ StoreAt T.ca H st L a ∧ Good a ∧ a.msgs.length ≤ 1000000 ∧
  ∀ (H1 : Hp) (L' : Lay) (p : Addr), StoreAt T.ca H1 st L' (Su153.does a x).1 → Frm H H1 (foot st L) (foot st L') → H1 p = none → Q (.ref p) (upd H1 p (.lst (ansV (Su153.does a x).2)))
theorem one_le : 1 ≤ sizeLine := by decide
/-! ### looks -/
def spAtWork (T : Txt K mg) : Sp := fun vs H Q _ => ∃ (st : Addr) (L : Lay) (a : Su153.Abs) (c : Nat), vs = [.ref st, .int c] ∧ StoreAt T.ca H st L a ∧ c < a.customers.length ∧ Q (.bl (a.busy c)) H
theorem ok_is_at_work (T : Txt K mg) : FnOk P w K mg base CX0 1 T.d_is_at_work.f T.d_is_at_work.fd ["store", "customer"] (spAtWork T) := by
  refine T.d_is_at_work.F.ok sc_is_at_work (fun vs H Q E h => ?_) (fun cdv A outer s H vs Q E hr h => ⟨_, (pss_cons (ps_set (i := 2) sc_is_at_work.nd rfl (Or.inl rfl) (pe_fld (pe_ix ix_list (pe_fld (pv 0) rfl) (pv 1) (fun _ _ => rfl)) rfl))
      (pss_one (ps_ret (pe_or (pe_cmpR op_eq (pv 2) (pe_gc (by rfl) T.k_ASKING) (nomark _)) (pe_one (pe_cmpR op_eq (pv 2) (pe_gc (by rfl) T.k_TELLING) (nomark _))))))), ?_⟩)
  · obtain ⟨st, L, a, c, rfl, S, hc, k⟩ := h
    rfl
  · obtain ⟨st, L, a, c, rfl, S, hc, k⟩ := h
    obtain ⟨dS, hS⟩ := S.obj
    obtain ⟨z, hz⟩ := get_of_lt hc
    obtain ⟨pw, ct, hw, hct, dC, tg, hC, htg, hl⟩ := S.c_at hz
    unfold Su153.Abs.busy at k
    rw [customer_at hz] at k
    refine ⟨_, rfl, st, _, dS, _, _, rfl, hS, T.c_Store.cl, T.c_Store.n _ (by decide +kernel), rfl, _, rfl, _, _, _, _, rfl, rfl, SqL.of S.cL, atI_nat (by rw [List.getElem?_map, hw]; rfl), pw, _, dC, _, _, rfl, hC, T.c_Customer.cl, T.c_Customer.n _ (by decide +kernel), rfl, ?_⟩
    refine ⟨_, rfl, rfl, _, rfl, ?_⟩
    refine ite2 (fun q => ?_) fun q => ?_
    · have e : z.st = 1 := by
        have := V.int.inj (of_decide_eq_true q)
        omega
      rw [e] at k
      exact k
    · have e : ¬ z.st = 1 := fun e => q (decide_eq_true (by rw [e] <;> rfl))
      refine ⟨_, rfl, rfl, ?_⟩
      have e2 : (z.st == 1 || z.st == 2) = decide (V.int (z.st : Int) = V.int 2) := by
        rw [show (V.int 2) = V.int ((2 : Nat) : Int) from rfl, int_dec]
        by_cases e3 : z.st = 2
        · rw [e3]
          rfl
        · rw [decide_eq_false e3, beq_eq_false_iff_ne.mpr e, beq_eq_false_iff_ne.mpr e3]
          rfl
      rw [e2] at k
      exact k
def spRoom (T : Txt K mg) : Sp := fun vs H Q _ => ∃ (st : Addr) (L : Lay) (a : Su153.Abs), vs = [.ref st] ∧ StoreAt T.ca H st L a ∧ Q (.bl (decide (60 < a.msgs.length + a.n))) H
theorem ok_has_no_room (T : Txt K mg) : FnOk P w K mg base CX0 1 T.d_has_no_room.f T.d_has_no_room.fd ["store"] (spRoom T) := by
  refine T.d_has_no_room.F.ok sc_has_no_room (fun vs H Q E h => ?_) (fun cdv A outer s H vs Q E hr h => ⟨_, (pss_one (ps_ret (pe_cmpR op_gt (pe_op op_add (pe_callB call_len_seq (by rfl) T.b_len PySem.boot_len (pa_cons (pe_fld (pv 0) rfl) pa_nil)) (pe_callB call_len_seq (by rfl) T.b_len PySem.boot_len (pa_cons (pe_fld (pv 0) rfl) pa_nil))) (pe_gc (by rfl) T.k_MOST_UNDER_WAY) (nomark _)))), ?_⟩)
  · obtain ⟨st, L, a, rfl, S, k⟩ := h
    rfl
  · obtain ⟨st, L, a, rfl, S, k⟩ := h
    obtain ⟨dS, hS⟩ := S.obj
    refine ⟨_, rfl, st, _, dS, _, _, rfl, hS, T.c_Store.cl, T.c_Store.n _ (by decide +kernel), rfl, _, _, rfl, .inl (SqL.of S.gL), _, rfl, st, _, dS, _, _, rfl, hS, T.c_Store.cl, T.c_Store.n _ (by decide +kernel), rfl, _, _, rfl, .inl (SqL.of S.mL), _, _, rfl, rfl, _, _, rfl, rfl, ?_⟩
    rw [List.length_map, List.length_map, S.gl, S.ml]
    have e : decide ((60 : Int) < (a.msgs.length : Int) + (a.machines.length : Int)) = decide (60 < a.msgs.length + a.n) := by
      unfold Su153.Abs.n
      by_cases q : 60 < a.msgs.length + a.machines.length
      · rw [decide_eq_true q, decide_eq_true (by omega)]
      · rw [decide_eq_false q, decide_eq_false (by omega)]
    rw [← e] at k
    exact k
def spFull (T : Txt K mg) : Sp := fun vs H Q _ => ∃ (st : Addr) (L : Lay) (a : Su153.Abs), vs = [.ref st] ∧ StoreAt T.ca H st L a ∧ Q (.bl (decide (20 ≤ a.ops.length ∨ 60 < a.msgs.length + a.n))) H
theorem ok_is_full (T : Txt K mg) : FnOk P w K mg base CX0 2 T.d_is_full.f T.d_is_full.fd ["store"] (spFull T) := by
  have G_has_no_room := ok_has_no_room (P := P) (w := w) (base := base) T
  refine T.d_is_full.F.ok sc_is_full (fun vs H Q E h => ?_) (fun cdv A outer s H vs Q E hr h => ⟨_, (pss_one (ps_ret (pe_or (pe_cmpR op_ge (pe_callB call_len_seq (by rfl) T.b_len PySem.boot_len (pa_cons (pe_fld (pv 0) rfl) pa_nil)) (pe_gc (by rfl) T.k_MOST_OPERATIONS) (nomark _)) (pe_one (pe_call G_has_no_room (hr.mono (by decide)) (by rfl) T.d_has_no_room.g T.d_has_no_room.F.kp T.d_has_no_room.b .nil pass0 (pa_cons (pv 0) pa_nil)))))), ?_⟩)
  · obtain ⟨st, L, a, rfl, S, k⟩ := h
    rfl
  · obtain ⟨st, L, a, rfl, S, k⟩ := h
    obtain ⟨dS, hS⟩ := S.obj
    refine ⟨_, rfl, st, _, dS, _, _, rfl, hS, T.c_Store.cl, T.c_Store.n _ (by decide +kernel), rfl, _, _, rfl, .inl (SqL.of S.oL), _, _, rfl, rfl, _, rfl, ?_⟩
    rw [List.length_map, S.ol]
    refine ite2 (fun q => ?_) fun q => ?_
    · have e : 20 ≤ a.ops.length := by
        have := of_decide_eq_true q
        omega
      rw [decide_eq_true (.inl e)] at k
      exact k
    · have e : ¬ 20 ≤ a.ops.length := fun e => q (decide_eq_true (by omega))
      refine ⟨_, rfl, st, L, a, rfl, S, ?_⟩
      have e2 : decide (20 ≤ a.ops.length ∨ 60 < a.msgs.length + a.n) = decide (60 < a.msgs.length + a.n) := by
        by_cases z : 60 < a.msgs.length + a.n
        · rw [decide_eq_true z, decide_eq_true (.inr z)]
        · rw [decide_eq_false z, decide_eq_false (by omega)]
      rw [e2] at k
      exact k
def spIsW (T : Txt K mg) : Sp := fun vs H Q _ => ∃ (st : Addr) (L : Lay) (a : Su153.Abs) (v : Nat), vs = [.ref st, .int v] ∧ StoreAt T.ca H st L a ∧ a.ops.length ≤ 1000 ∧ ∀ H', Same H H' → Q (.bl (a.ops.any fun o => o.wr && o.v == v)) H'
theorem ok_is_written (T : Txt K mg) : FnOk P w K mg base CX0 1 T.d_is_written.f T.d_is_written.fd ["store", "value"] (spIsW T) := by
  refine T.d_is_written.F.ok sc_is_written (fun vs H Q E h => ?_) (fun cdv A outer s H vs Q E hr h => ⟨_, (pss_one (ps_ret (pe_callB (cr_any rfl) (by rfl) T.b_any (by decide +kernel) (pa_cons (pe_lc (own := [("op", 2)]) (g := gName 2) (te := (tAndV (tFld K (tVar 2) "writing") (tOp rEq (tFld K (tVar 2) "value") (tVar 1)))) (by rfl) sc_is_written.nd (pi_list (pe_fld (pv 0) rfl)) (blkOk_by (own := [("op", 2)]) (N := ["store", "value", "op"]) (sc := defScope s_is_written) (by decide +kernel)) (fun _ _ _ _ _ => by exact pg_name (i := 2) sc_is_written.nd rfl (Or.inl rfl)) (fun _ _ _ _ _ => by exact pts_nil) (fun _ _ _ _ _ => by exact (pe_and (pe_fld (pv 2) rfl) (pe_one (pe_cmpR op_eq (pe_fld (pv 2) rfl) (pv 1) (nomark _)))))) pa_nil)))), ?_⟩)
  · obtain ⟨st, L, a, v, rfl, S, hl, k⟩ := h
    rfl
  · obtain ⟨st, L, a, v, rfl, S, hl, k⟩ := h
    obtain ⟨dS, hS⟩ := S.obj
    refine ⟨_, rfl, st, _, dS, _, _, rfl, hS, T.c_Store.cl, T.c_Store.n _ (by decide +kernel), rfl, _, rfl, ⟨_, SqL.of S.oL⟩, fun D hD => lc_list (K := K) (a := L.oL) (xs := L.os.map V.ref) (fun i H' => Same H H' ∧ H' D = some (.lst (((a.ops.take i).map fun o => o.wr && o.v == v).map V.bl))) ⟨same_upd hD, upd_same⟩ (fun i H' _ h => (h.1).seq (SqL.of S.oL)) ?_ ?_⟩
    · rintro i y H' hi ⟨s1, h1⟩
      have hi' : i < a.ops.length := by
        have := lt_of_get hi
        rw [List.length_map, S.ol] at this
        exact this
      obtain ⟨o, ho⟩ := get_of_lt hi'
      obtain ⟨po, hpo, dO, hO⟩ := S.o_at ho
      have ey : y = .ref po := by
        rw [List.getElem?_map, hpo] at hi
        exact (Option.some.inj hi).symm
      subst ey
      have fin : ∃ acc, H' D = some (.lst acc) ∧ acc.length < sizeLine ∧ (Same H (upd H' D (.lst (acc ++ [V.bl (o.wr && o.v == v)]))) ∧ upd H' D (.lst (acc ++ [V.bl (o.wr && o.v == v)])) D = some (.lst (((a.ops.take (i + 1)).map fun o => o.wr && o.v == v).map V.bl))) := by
        refine ⟨_, h1, ?_, fun b u e => ?_, ?_⟩
        · rw [List.length_map, List.length_map, List.length_take]
          exact small1000 (by omega)
        · rw [upd_ne (ne_of_none e hD)]
          exact s1 _ _ e
        · rw [upd_same, take_succ ho, List.map_append, List.map_append]
          rfl
      refine ⟨rfl, _, rfl, po, _, dO, _, _, rfl, s1 _ _ hO, T.c_Operation.cl, T.c_Operation.n _ (by decide +kernel), rfl, _, rfl, ?_⟩
      refine ite2 (fun q => ?_) fun q => ?_
      · refine ⟨_, rfl, po, _, dO, _, _, rfl, s1 _ _ hO, T.c_Operation.cl, T.c_Operation.n _ (by decide +kernel), rfl, _, rfl, rfl, ?_⟩
        have e : decide (V.int (o.v : Int) = V.int (v : Int)) = (o.wr && o.v == v) := by
          rw [int_dec, q, Bool.true_and, Bool.beq_eq_decide_eq]
        rw [e]
        exact fin
      · have e : false = (o.wr && o.v == v) := by
          have q0 : o.wr = false := by simpa using q
          rw [q0]
          rfl
        rw [← e] at fin
        exact fin
    · rintro H' ⟨s1, h1⟩
      rw [List.length_map, S.ol, List.take_length] at h1
      refine ⟨_, _, rfl, SqL.of h1, ?_⟩
      rw [List.any_map]
      exact k H' s1
def spFirst (T : Txt K mg) : Sp := fun vs H Q _ => ∃ (st : Addr) (L : Lay) (a : Su153.Abs) (k : Nat), vs = [.ref st, .int k] ∧ StoreAt T.ca H st L a ∧
  (∀ H', Same H H' → match a.msgs.findIdx? (fun x => x.k == k) with | some i => Q (.int i) H' | none => Q .non H')
theorem ok_first_of (T : Txt K mg) : FnOk P w K mg base CX0 1 T.d_first_of.f T.d_first_of.fd ["store", "number"] (spFirst T) := by
  refine T.d_first_of.F.ok sc_first_of (fun vs H Q E h => ?_) (fun cdv A outer s H vs Q E hr h => ⟨_, (pss_cons (ps_for PassesOwn.never rfl (pi_enum (by rfl) T.b_enumerate (pa_cons (pe_fld (pv 0) rfl) pa_nil)) (pg_tup rfl (pgs_cons (pg_name (i := 2) sc_first_of.nd rfl (Or.inl rfl)) (pgs_cons (pg_name (i := 3) sc_first_of.nd rfl (Or.inl rfl)) pgs_nil)))
        (pss_one (ps_if (pt_cmpR op_eq (pe_fld (pv 3) rfl) (pv 1) (nomark _))
          (pss_one (ps_ret (pv 2)))
          pss_nil)))
      (pss_one (ps_ret pe_non))), ?_⟩)
  · obtain ⟨st, L, a, kk, rfl, S, k⟩ := h
    rfl
  · obtain ⟨st, L, a, kk, rfl, S, k⟩ := h
    obtain ⟨dS, hS⟩ := S.obj
    refine ⟨_, rfl, st, _, dS, _, _, rfl, hS, T.c_Store.cl, T.c_Store.n _ (by decide +kernel), rfl, L.gL, _, rfl, SqL.of S.gL, for_it (walk_enum (K := K) (a := L.gL) (xs := L.gs.map V.ref)) (fun i σ H' => ∃ v1 v2 : Option V, σ = [some (.ref st), some (.int kk), v1, v2] ∧ Same H H' ∧ ∀ (j : Nat) y, j < i → a.msgs[j]? = some y → y.k ≠ kk) ⟨none, none, rfl, .refl _, fun j y h => absurd h (Nat.not_lt_zero j)⟩ (fun i σ H' _ ⟨_, _, _, s, _⟩ => s.seq (SqL.of S.gL)) ?_ ?_⟩
    · rintro i x σ H1 H2 hi ⟨v1, v2, rfl, s1, hno⟩ ⟨t, u, v, rfl, ht, rfl, hu, hv⟩
      rw [List.length_map, S.gl] at hi
      obtain ⟨y, hy⟩ := get_of_lt hi
      obtain ⟨pm, hpm, hM⟩ := S.g_at hy
      have hv : (L.gs.map V.ref)[i]? = some v := hv
      rw [List.getElem?_map, hpm] at hv
      cases hv
      cases hu
      have s2 : Same H (upd H1 t (.tup [V.int i, V.ref pm])) := s1.trans (same_upd ht)
      obtain ⟨dm, tm, hm, _⟩ := hM.same s2
      refine ⟨t, _, rfl, SqT.of upd_same, rfl, _, _, rfl, _, _, rfl, rfl, ?_⟩
      refine ⟨_, rfl, pm, _, dm, _, _, rfl, hm, T.c_Message.cl, T.c_Message.n _ (by decide +kernel), rfl, _, rfl, rfl, _, rfl, ?_⟩
      refine ite2 (fun q => ?_) fun q => ?_
      · have e : y.k = kk := by
          have := V.int.inj (of_decide_eq_true q)
          omega
        have w := k _ s2
        have ef : a.msgs.findIdx? (fun x => x.k == kk) = some i := by
          refine List.findIdx?_eq_some_iff_getElem.mpr ⟨hi, ?_, fun j hj => ?_⟩
          · have ey : a.msgs[i] = y := by
              have := List.getElem?_eq_getElem hi
              rw [hy] at this
              exact (Option.some.inj this).symm
            rw [ey, e]
            simp
          · have hj' : j < a.msgs.length := Nat.lt_trans hj hi
            have := hno j a.msgs[j] hj (List.getElem?_eq_getElem hj')
            simpa using this
        rw [ef] at w
        exact ⟨_, rfl, w⟩
      · refine ⟨_, _, rfl, s2, fun j z hj hz => ?_⟩
        rcases Nat.lt_succ_iff_lt_or_eq.mp hj with h | h
        · exact hno j z h hz
        · subst h
          rw [hy] at hz
          cases hz
          exact fun e => q (decide_eq_true (by rw [e]))
    · rintro σ H1 ⟨v1, v2, rfl, s1, hno⟩
      have w := k _ s1
      rw [List.length_map, S.gl] at hno
      have ef : a.msgs.findIdx? (fun x => x.k == kk) = none := by
        refine List.findIdx?_eq_none_iff.mpr fun y hy => ?_
        obtain ⟨j, hj⟩ := List.getElem?_of_mem hy
        have := hno j y (lt_of_get hj) hj
        simpa using this
      rw [ef] at w
      exact w
end
end Ea

/-! The bodies of changes.py: the calls that change. -/
namespace Ea
open PySem PySem.Spec PyProof.Rows L2
theorem StoreAt.tick {c : CA} {H : Hp} {st dS : Addr} {L : Lay} {a : Su153.Abs} (S : StoreAt c H st L a) : StoreAt c (upd H st (.ins c.S dS (putF "time" (.int ((a.time : Int) + 1)) (sF a L)))) st L a.tick :=
  S.setS (dx := dS) .upd upd_same rfl rfl rfl rfl
theorem frm_tick {H : Hp} {st : Addr} {L : Lay} {o : HO} : Frm H (upd H st o) (foot st L) (foot st L) := Chg.upd.frm mem_st
section
variable {P : Program} {w : World} {K : PySem.W.Frag} {mg : Str → Option Value} {base : Heap}
def spTurn (T : Txt K mg) : Sp := fun vs H Q E => ∃ (st : V) (i : Nat) (up : Bool), vs = [st, .int i, .bl up] ∧ spDo T (if up = true then .wake i else .halt_ i) [.int i] [st, .int i] H Q E
theorem ok_turn (T : Txt K mg) : FnOk P w K mg base CX0 1 T.d_turn.f T.d_turn.fd ["store", "machine", "up"] (spTurn T) := by
  refine T.d_turn.F.ok sc_turn (fun vs H Q E h => ?_) (fun cdv A outer s H vs Q E hr h => ⟨_, (pss_cons (ps_if (pt_cmpR op_ge (pv 1) (pe_callB call_len_seq (by rfl) T.b_len PySem.boot_len (pa_cons (pe_fld (pv 0) rfl) pa_nil)) (nomark _))
        (pss_one (ps_ret (pe_lst (pa_cons (pe_gc (by rfl) T.k_NONE_SUCH) pa_nil))))
        pss_nil)
      (pss_cons (ps_set (i := 3) sc_turn.nd rfl (Or.inl rfl) (pe_ix ix_list (pe_fld (pv 0) rfl) (pv 1) (fun _ _ => rfl)))
      (pss_cons (ps_if (pt_cmpR op_eq (pe_fld (pv 3) rfl) (pv 2) (nomark _))
        (pss_one (ps_ret (pe_lst (pa_cons (pe_gc (by rfl) T.k_ALREADY) pa_nil))))
        pss_nil)
      (pss_cons (ps_fldaug (pv 0) pe_int in_add)
      (pss_cons (ps_fld (pv 3) (pv 2) rfl)
      (pss_one (ps_ret (pe_lst (pa_cons pe_int pa_nil))))))))), ?_⟩)
  · obtain ⟨_, i, up, rfl, st, L, a, e, S, g, hg, k⟩ := h
    rfl
  · obtain ⟨_, i, up, rfl, st, L, a, e, S, g, hg, k⟩ := h
    cases e
    obtain ⟨dS, hS⟩ := S.obj
    refine ⟨_, rfl, _, rfl, st, _, dS, _, _, rfl, hS, T.c_Store.cl, T.c_Store.n _ (by decide +kernel), rfl, _, _, rfl, .inl (SqL.of S.mL), _, _, rfl, rfl, _, rfl, ?_⟩
    rw [List.length_map, S.ml]
    refine ite2 (fun q => ?_) fun q => ?_
    · have e : a.machines.length ≤ i := by
        have := of_decide_eq_true q
        omega
      have ed : Su153.does a (if up = true then .wake i else .halt_ i) = (a, Su153.no (-2)) := by
        cases up
        · exact if_pos e
        · exact if_pos e
      rw [ed] at k
      exact ⟨one_le, fun p hp => k H L p S (.refl _ _) hp⟩
    have e : ¬ a.machines.length ≤ i := fun e => q (decide_eq_true (by omega))
    obtain ⟨m, hm⟩ := get_of_lt (Nat.lt_of_not_le e)
    obtain ⟨pq, hq, dq, tq, hq1, htq⟩ := S.m_at hm
    have ed : Su153.does a (if up = true then .wake i else .halt_ i) = if m.up = up then (a, Su153.no (-16)) else (a.tick.setM i { m with up := up }, Su153.num 0 []) := by
      cases up
      · refine (if_neg e).trans ?_
        rw [machine_at hm]
      · refine (if_neg e).trans ?_
        rw [machine_at hm]
    rw [ed] at k
    refine ⟨_, rfl, st, _, dS, _, _, rfl, hS, T.c_Store.cl, T.c_Store.n _ (by decide +kernel), rfl, _, rfl, _, _, _, _, rfl, rfl, SqL.of S.mL, atI_nat (by rw [List.getElem?_map, hq]; rfl), ?_⟩
    refine ⟨_, rfl, pq, _, dq, _, _, rfl, hq1, T.c_Machine.cl, T.c_Machine.n _ (by decide +kernel), rfl, _, rfl, rfl, _, rfl, ?_⟩
    refine ite2 (fun q2 => ?_) fun q2 => ?_
    · have eu : m.up = up := V.bl.inj (of_decide_eq_true q2)
      rw [if_pos eu] at k
      exact ⟨one_le, fun p hp => k H L p S (.refl _ _) hp⟩
    have eu : ¬ m.up = up := fun e => q2 (decide_eq_true (by rw [e]))
    rw [if_neg eu] at k
    refine ⟨_, rfl, st, _, dS, _, _, rfl, hS, T.c_Store.cl, T.c_Store.n _ (by decide +kernel), rfl, _, _, rfl, rfl, dS, _, hS, lt1000 rfl, ?_⟩
    have S1 := S.tick (dS := dS)
    have nq : pq ≠ st := ne_head hq1 hS d_SM.symm
    refine ⟨_, rfl, _, rfl, pq, _, dq, _, rfl, (by rw [upd_ne nq]; exact hq1), T.c_Machine.cl, T.c_Machine.n _ (by decide +kernel), lt1000 rfl, ?_⟩
    have ntq : tq ≠ st := ne_head htq hS (fun e => by cases e)
    have ntq2 : tq ≠ pq := ne_head htq hq1 (fun e => by cases e)
    have S2 := S1.setM (m := { m with up := up }) hq .upd ⟨dq, tq, upd_same, by
      show upd _ pq _ tq = _
      rw [upd_ne ntq2, upd_ne ntq]
      exact htq⟩
    exact ⟨one_le, fun p hp => k _ L p S2 (frm_tick.trans (Chg.upd.frm (mem_ms (List.mem_of_getElem? hq)))) hp⟩
def spDo_stop (T : Txt K mg) : Sp := fun vs H Q E => ∃ (st : V) (i : Nat), vs = [st, .int i] ∧ spDo T (.halt_ i) [.int i] [st, .int i] H Q E
theorem ok_stop (T : Txt K mg) : FnOk P w K mg base CX0 2 T.d_stop.f T.d_stop.fd ["store", "machine"] (spDo_stop T) := by
  have G_turn := ok_turn (P := P) (w := w) (base := base) T
  refine T.d_stop.F.ok sc_stop (fun vs H Q E h => ?_) (fun cdv A outer s H vs Q E hr h => ⟨_, (pss_one (ps_ret (pe_call G_turn (hr.mono (by decide)) (by rfl) T.d_turn.g T.d_turn.F.kp T.d_turn.b .nil pass0 (pa_cons (pv 0) (pa_cons (pv 1) (pa_cons pe_bl pa_nil)))))), ?_⟩)
  · obtain ⟨_, i, rfl, hk⟩ := h
    rfl
  · obtain ⟨_, i, rfl, hk⟩ := h
    exact ⟨_, rfl, _, rfl, _, i, false, rfl, hk⟩
def spDo_wake (T : Txt K mg) : Sp := fun vs H Q E => ∃ (st : V) (i : Nat), vs = [st, .int i] ∧ spDo T (.wake i) [.int i] [st, .int i] H Q E
theorem ok_wake (T : Txt K mg) : FnOk P w K mg base CX0 2 T.d_wake.f T.d_wake.fd ["store", "machine"] (spDo_wake T) := by
  have G_turn := ok_turn (P := P) (w := w) (base := base) T
  refine T.d_wake.F.ok sc_wake (fun vs H Q E h => ?_) (fun cdv A outer s H vs Q E hr h => ⟨_, (pss_one (ps_ret (pe_call G_turn (hr.mono (by decide)) (by rfl) T.d_turn.g T.d_turn.F.kp T.d_turn.b .nil pass0 (pa_cons (pv 0) (pa_cons (pv 1) (pa_cons pe_bl pa_nil)))))), ?_⟩)
  · obtain ⟨_, i, rfl, hk⟩ := h
    rfl
  · obtain ⟨_, i, rfl, hk⟩ := h
    exact ⟨_, rfl, _, rfl, _, i, true, rfl, hk⟩
def spDo_leave (T : Txt K mg) : Sp := fun vs H Q E => ∃ (st : V) (i : Nat), vs = [st, .int i] ∧ spDo T (.quit i) [.int i] [st, .int i] H Q E
theorem ok_leave (T : Txt K mg) : FnOk P w K mg base CX0 1 T.d_leave.f T.d_leave.fd ["store", "customer"] (spDo_leave T) := by
  refine T.d_leave.F.ok sc_leave (fun vs H Q E h => ?_) (fun cdv A outer s H vs Q E hr h => ⟨_, (pss_cons (ps_if (pt_cmpR op_ge (pv 1) (pe_callB call_len_seq (by rfl) T.b_len PySem.boot_len (pa_cons (pe_fld (pv 0) rfl) pa_nil)) (nomark _))
        (pss_one (ps_ret (pe_lst (pa_cons (pe_gc (by rfl) T.k_NONE_SUCH) pa_nil))))
        pss_nil)
      (pss_cons (ps_set (i := 2) sc_leave.nd rfl (Or.inl rfl) (pe_ix ix_list (pe_fld (pv 0) rfl) (pv 1) (fun _ _ => rfl)))
      (pss_cons (ps_if (pt_cmpR op_eq (pe_fld (pv 2) rfl) (pe_gc (by rfl) T.k_LEFT) (nomark _))
        (pss_one (ps_ret (pe_lst (pa_cons (pe_gc (by rfl) T.k_ALREADY) pa_nil))))
        pss_nil)
      (pss_cons (ps_fldaug (pv 0) pe_int in_add)
      (pss_cons (ps_fld (pv 2) (pe_gc (by rfl) T.k_LEFT) rfl)
      (pss_one (ps_ret (pe_lst (pa_cons pe_int pa_nil))))))))), ?_⟩)
  · obtain ⟨_, i, rfl, st, L, a, e, S, g, hg, k⟩ := h
    rfl
  · obtain ⟨_, i, rfl, st, L, a, e, S, g, hg, k⟩ := h
    cases e
    obtain ⟨dS, hS⟩ := S.obj
    refine ⟨_, rfl, _, rfl, st, _, dS, _, _, rfl, hS, T.c_Store.cl, T.c_Store.n _ (by decide +kernel), rfl, _, _, rfl, .inl (SqL.of S.cL), _, _, rfl, rfl, _, rfl, ?_⟩
    rw [List.length_map, S.cl]
    refine ite2 (fun q => ?_) fun q => ?_
    · have e : a.customers.length ≤ i := by
        have := of_decide_eq_true q
        omega
      rw [show Su153.does a (.quit i) = (a, Su153.no (-2)) from if_pos e] at k
      exact ⟨one_le, fun p hp => k H L p S (.refl _ _) hp⟩
    have e : ¬ a.customers.length ≤ i := fun e => q (decide_eq_true (by omega))
    obtain ⟨z, hz⟩ := get_of_lt (Nat.lt_of_not_le e)
    obtain ⟨pw, ct, hw, hct, hC⟩ := S.c_at hz
    obtain ⟨dC, tg, hc, htg, hl⟩ := id hC
    have ed : Su153.does a (.quit i) = if z.st = 3 then (a, Su153.no (-16)) else (a.tick.setC i { z with st := 3 }, Su153.num 0 []) := by
      refine (if_neg e).trans ?_
      rw [customer_at hz]
    rw [ed] at k
    refine ⟨_, rfl, st, _, dS, _, _, rfl, hS, T.c_Store.cl, T.c_Store.n _ (by decide +kernel), rfl, _, rfl, _, _, _, _, rfl, rfl, SqL.of S.cL, atI_nat (by rw [List.getElem?_map, hw]; rfl), ?_⟩
    refine ⟨_, rfl, pw, _, dC, _, _, rfl, hc, T.c_Customer.cl, T.c_Customer.n _ (by decide +kernel), rfl, rfl, _, rfl, ?_⟩
    refine ite2 (fun q2 => ?_) fun q2 => ?_
    · have eu : z.st = 3 := by
        have := V.int.inj (of_decide_eq_true q2)
        omega
      rw [if_pos eu] at k
      exact ⟨one_le, fun p hp => k H L p S (.refl _ _) hp⟩
    have eu : ¬ z.st = 3 := fun e => q2 (decide_eq_true (by rw [e] <;> rfl))
    rw [if_neg eu] at k
    refine ⟨_, rfl, st, _, dS, _, _, rfl, hS, T.c_Store.cl, T.c_Store.n _ (by decide +kernel), rfl, _, _, rfl, rfl, dS, _, hS, lt1000 rfl, ?_⟩
    have S1 := S.tick (dS := dS)
    have nq : pw ≠ st := ne_head hc hS d_SC.symm
    refine ⟨_, rfl, pw, _, dC, _, rfl, (by rw [upd_ne nq]; exact hc), T.c_Customer.cl, T.c_Customer.n _ (by decide +kernel), lt1000 rfl, ?_⟩
    have nt1 : tg ≠ st := ne_head htg hS (fun e => by cases e)
    have nt2 : tg ≠ pw := ne_head htg hc (fun e => by cases e)
    have nl1 : ct ≠ st := ne_head hl hS (fun e => by cases e)
    have nl2 : ct ≠ pw := ne_head hl hc (fun e => by cases e)
    have S2 := S1.setC0 (z := { z with st := 3 }) hw hct .upd ⟨dC, tg, upd_same, by
      show upd _ pw _ tg = _
      rw [upd_ne nt2, upd_ne nt1]
      exact htg, by
      rw [upd_ne nl2, upd_ne nl1]
      exact hl⟩
    exact ⟨one_le, fun p hp => k _ L p S2 (frm_tick.trans (Chg.upd.frm (mem_cs (List.mem_of_getElem? hw)))) hp⟩
def spDo_lose (T : Txt K mg) : Sp := fun vs H Q E => ∃ (st : V) (i : Nat), vs = [st, .int i] ∧ spDo T (.lose i) [.int i] [st, .int i] H Q E
theorem ok_lose (T : Txt K mg) : FnOk P w K mg base CX0 1 T.d_lose.f T.d_lose.fd ["store", "message"] (spDo_lose T) := by
  refine T.d_lose.F.ok sc_lose (fun vs H Q E h => ?_) (fun cdv A outer s H vs Q E hr h => ⟨_, (pss_cons (ps_if (pt_cmpR op_ge (pv 1) (pe_callB call_len_seq (by rfl) T.b_len PySem.boot_len (pa_cons (pe_fld (pv 0) rfl) pa_nil)) (nomark _))
        (pss_one (ps_ret (pe_lst (pa_cons (pe_gc (by rfl) T.k_NONE_SUCH) pa_nil))))
        pss_nil)
      (pss_cons (ps_fldaug (pv 0) pe_int in_add)
      (pss_cons (ps_expr (pe_bm PySem.F.plainAttrs_list PySem.F.slot_list_pop PySem.F.type_list_pop mt_popAt (pe_fld (pv 0) rfl) (pa_cons (pv 1) pa_nil)))
      (pss_one (ps_ret (pe_lst (pa_cons (pe_callB call_len_seq (by rfl) T.b_len PySem.boot_len (pa_cons (pe_fld (pv 0) rfl) pa_nil)) pa_nil))))))), ?_⟩)
  · obtain ⟨_, i, rfl, st, L, a, e, S, g, hg, k⟩ := h
    rfl
  · obtain ⟨_, i, rfl, st, L, a, e, S, g, hg, k⟩ := h
    cases e
    obtain ⟨dS, hS⟩ := S.obj
    refine ⟨_, rfl, _, rfl, st, _, dS, _, _, rfl, hS, T.c_Store.cl, T.c_Store.n _ (by decide +kernel), rfl, _, _, rfl, .inl (SqL.of S.gL), _, _, rfl, rfl, _, rfl, ?_⟩
    rw [List.length_map, S.gl]
    refine ite2 (fun q => ?_) fun q => ?_
    · have e : a.msgs.length ≤ i := by
        have := of_decide_eq_true q
        omega
      rw [show Su153.does a (.lose i) = (a, Su153.no (-2)) from if_pos e] at k
      exact ⟨one_le, fun p hp => k H L p S (.refl _ _) hp⟩
    have e : ¬ a.msgs.length ≤ i := fun e => q (decide_eq_true (by omega))
    rw [show Su153.does a (.lose i) = (a.tick.drop i, Su153.num (a.msgs.length - 1) []) from if_neg e] at k
    have hi : i < a.msgs.length := Nat.lt_of_not_le e
    obtain ⟨x, hx⟩ := get_of_lt hi
    obtain ⟨pm, hpm, _⟩ := S.g_at hx
    refine ⟨_, rfl, st, _, dS, _, _, rfl, hS, T.c_Store.cl, T.c_Store.n _ (by decide +kernel), rfl, _, _, rfl, rfl, dS, _, hS, lt1000 rfl, ?_⟩
    have S1 := S.tick (dS := dS)
    obtain ⟨dS1, hS1⟩ := S1.obj
    have hilen : i < (L.gs.map V.ref).length := by rw [List.length_map, S.gl]; exact hi
    refine ⟨_, rfl, st, _, dS1, _, _, rfl, hS1, T.c_Store.cl, T.c_Store.n _ (by decide +kernel), rfl, .inl ⟨rfl, _, SqL.of S1.gL⟩, _, rfl, L.gL, L.gs.map V.ref, i, i, .ref pm, rfl, rfl, S1.gL, by omega, by omega, seqIx_nat hilen, by rw [List.getElem?_map, hpm]; rfl, ?_⟩
    have S2 := S1.drop i
    obtain ⟨dS2, hS2⟩ := S2.obj
    refine ⟨_, rfl, st, _, dS2, _, _, rfl, hS2, T.c_Store.cl, T.c_Store.n _ (by decide +kernel), rfl, _, _, rfl, .inl (SqL.of S2.gL), one_le, fun p hp => ?_⟩
    rw [List.length_map, S2.gl]
    have el : (a.tick.drop i).msgs.length = a.msgs.length - 1 := by
      show (a.msgs.eraseIdx i).length = _
      rw [List.length_eraseIdx, if_pos hi]
    rw [el]
    exact k _ _ p S2 (frm_tick.trans (Chg.upd.frm mem_gL)) hp
def spDo_again (T : Txt K mg) : Sp := fun vs H Q E => ∃ (st : V) (i : Nat), vs = [st, .int i] ∧ spDo T (.again i) [.int i] [st, .int i] H Q E
theorem ok_again (T : Txt K mg) : FnOk P w K mg base CX0 1 T.d_again.f T.d_again.fd ["store", "message"] (spDo_again T) := by
  refine T.d_again.F.ok sc_again (fun vs H Q E h => ?_) (fun cdv A outer s H vs Q E hr h => ⟨_, (pss_cons (ps_if (pt_cmpR op_ge (pv 1) (pe_callB call_len_seq (by rfl) T.b_len PySem.boot_len (pa_cons (pe_fld (pv 0) rfl) pa_nil)) (nomark _))
        (pss_one (ps_ret (pe_lst (pa_cons (pe_gc (by rfl) T.k_NONE_SUCH) pa_nil))))
        pss_nil)
      (pss_cons (ps_if (pt_cmpR op_ge (pe_callB call_len_seq (by rfl) T.b_len PySem.boot_len (pa_cons (pe_fld (pv 0) rfl) pa_nil)) (pe_gc (by rfl) T.k_MOST_UNDER_WAY) (nomark _))
        (pss_one (ps_ret (pe_lst (pa_cons (pe_gc (by rfl) T.k_TOO_MANY) pa_nil))))
        pss_nil)
      (pss_cons (ps_fldaug (pv 0) pe_int in_add)
      (pss_cons (ps_expr (pe_bm PySem.F.plainAttrs_list PySem.F.slot_list_append PySem.F.type_list_append mt_append (pe_fld (pv 0) rfl) (pa_cons (pe_ix ix_list (pe_fld (pv 0) rfl) (pv 1) (fun _ _ => rfl)) pa_nil)))
      (pss_one (ps_ret (pe_lst (pa_cons (pe_callB call_len_seq (by rfl) T.b_len PySem.boot_len (pa_cons (pe_fld (pv 0) rfl) pa_nil)) pa_nil)))))))), ?_⟩)
  · obtain ⟨_, i, rfl, st, L, a, e, S, g, hg, k⟩ := h
    rfl
  · obtain ⟨_, i, rfl, st, L, a, e, S, g, hg, k⟩ := h
    cases e
    obtain ⟨dS, hS⟩ := S.obj
    refine ⟨_, rfl, _, rfl, st, _, dS, _, _, rfl, hS, T.c_Store.cl, T.c_Store.n _ (by decide +kernel), rfl, _, _, rfl, .inl (SqL.of S.gL), _, _, rfl, rfl, _, rfl, ?_⟩
    rw [List.length_map, S.gl]
    refine ite2 (fun q => ?_) fun q => ?_
    · have e : a.msgs.length ≤ i := by
        have := of_decide_eq_true q
        omega
      rw [show Su153.does a (.again i) = (a, Su153.no (-2)) from if_pos e] at k
      exact ⟨one_le, fun p hp => k H L p S (.refl _ _) hp⟩
    have e : ¬ a.msgs.length ≤ i := fun e => q (decide_eq_true (by omega))
    have hi : i < a.msgs.length := Nat.lt_of_not_le e
    obtain ⟨x, hx⟩ := get_of_lt hi
    obtain ⟨pm, hpm, hM⟩ := S.g_at hx
    have ed : Su153.does a (.again i) = if 60 ≤ a.msgs.length then (a, Su153.no (-28)) else (a.tick.send [x], Su153.num (a.msgs.length + 1) []) := by
      refine (if_neg e).trans ?_
      rw [msg_at hx]
      rfl
    rw [ed] at k
    refine ⟨_, rfl, st, _, dS, _, _, rfl, hS, T.c_Store.cl, T.c_Store.n _ (by decide +kernel), rfl, _, _, rfl, .inl (SqL.of S.gL), _, _, rfl, rfl, _, rfl, ?_⟩
    rw [List.length_map, S.gl]
    refine ite2 (fun q2 => ?_) fun q2 => ?_
    · have e2 : 60 ≤ a.msgs.length := by
        have := of_decide_eq_true q2
        omega
      rw [if_pos e2] at k
      exact ⟨one_le, fun p hp => k H L p S (.refl _ _) hp⟩
    have e2 : ¬ 60 ≤ a.msgs.length := fun e => q2 (decide_eq_true (by omega))
    rw [if_neg e2] at k
    refine ⟨_, rfl, st, _, dS, _, _, rfl, hS, T.c_Store.cl, T.c_Store.n _ (by decide +kernel), rfl, _, _, rfl, rfl, dS, _, hS, lt1000 rfl, ?_⟩
    have S1 := S.tick (dS := dS)
    have F1 : Frm H (upd H st (.ins T.ca.S dS (putF "time" (.int ((a.time : Int) + 1)) (sF a L)))) (foot st L) (foot st L) := frm_tick
    obtain ⟨dS1, hS1⟩ := S1.obj
    refine ⟨_, rfl, st, _, dS1, _, _, rfl, hS1, T.c_Store.cl, T.c_Store.n _ (by decide +kernel), rfl, .inl ⟨rfl, _, SqL.of S1.gL⟩, _, rfl, st, _, dS1, _, _, rfl, hS1, T.c_Store.cl, T.c_Store.n _ (by decide +kernel), rfl, _, rfl, _, _, _, _, rfl, rfl, SqL.of S1.gL, atI_nat (by rw [List.getElem?_map, hpm]; rfl), _, _, _, rfl, rfl, S1.gL, (by rw [List.length_map, S.gl]; exact small1000 (by omega)), ?_⟩
    have S2 := S1.push (hM.frm S F1)
    obtain ⟨dS2, hS2⟩ := S2.obj
    refine ⟨_, rfl, st, _, dS2, _, _, rfl, hS2, T.c_Store.cl, T.c_Store.n _ (by decide +kernel), rfl, _, _, rfl, .inl (SqL.of S2.gL), one_le, fun p hp => ?_⟩
    rw [List.length_map, S2.gl]
    have el : (a.tick.send [x]).msgs.length = a.msgs.length + 1 := by
      show (a.msgs ++ [x]).length = _
      rw [List.length_append]
      rfl
    rw [el]
    exact k _ _ p S2 (F1.trans (Chg.upd.frm mem_gL)) hp
def spDo_resend (T : Txt K mg) : Sp := fun vs H Q E => ∃ (st : V) (i : Nat), vs = [st, .int i] ∧ spDo T (.resend i) [.int i] [st, .int i] H Q E
theorem ok_resend (T : Txt K mg) : FnOk P w K mg base CX0 4 T.d_resend.f T.d_resend.fd ["store", "customer"] (spDo_resend T) := by
  have G_is_at_work := ok_is_at_work (P := P) (w := w) (base := base) T
  have G_has_no_room := ok_has_no_room (P := P) (w := w) (base := base) T
  have G_send_to_all := ok_send_to_all (P := P) (w := w) (base := base) T
  refine T.d_resend.F.ok sc_resend (fun vs H Q E h => ?_) (fun cdv A outer s H vs Q E hr h => ⟨_, (pss_cons (ps_if (pt_cmpR op_ge (pv 1) (pe_callB call_len_seq (by rfl) T.b_len PySem.boot_len (pa_cons (pe_fld (pv 0) rfl) pa_nil)) (nomark _))
        (pss_one (ps_ret (pe_lst (pa_cons (pe_gc (by rfl) T.k_NONE_SUCH) pa_nil))))
        pss_nil)
      (pss_cons (ps_if (pt_not (pt_val (pe_call G_is_at_work (hr.mono (by decide)) (by rfl) T.d_is_at_work.g T.d_is_at_work.F.kp T.d_is_at_work.b .nil pass0 (pa_cons (pv 0) (pa_cons (pv 1) pa_nil)))))
        (pss_one (ps_ret (pe_lst (pa_cons (pe_gc (by rfl) T.k_ALREADY) pa_nil))))
        pss_nil)
      (pss_cons (ps_if (pt_val (pe_call G_has_no_room (hr.mono (by decide)) (by rfl) T.d_has_no_room.g T.d_has_no_room.F.kp T.d_has_no_room.b .nil pass0 (pa_cons (pv 0) pa_nil)))
        (pss_one (ps_ret (pe_lst (pa_cons (pe_gc (by rfl) T.k_TOO_MANY) pa_nil))))
        pss_nil)
      (pss_cons (ps_fldaug (pv 0) pe_int in_add)
      (pss_cons (ps_expr (pe_call G_send_to_all (hr.mono (by decide)) (by rfl) T.d_send_to_all.g T.d_send_to_all.F.kp T.d_send_to_all.b .nil pass0 (pa_cons (pv 0) (pa_cons (pv 1) pa_nil))))
      (pss_one (ps_ret (pe_lst (pa_cons (pe_callB call_len_seq (by rfl) T.b_len PySem.boot_len (pa_cons (pe_fld (pv 0) rfl) pa_nil)) pa_nil))))))))), ?_⟩)
  · obtain ⟨_, i, rfl, st, L, a, e, S, g, hg, k⟩ := h
    rfl
  · obtain ⟨_, i, rfl, st, L, a, e, S, g, hg, k⟩ := h
    cases e
    obtain ⟨dS, hS⟩ := S.obj
    refine ⟨_, rfl, _, rfl, st, _, dS, _, _, rfl, hS, T.c_Store.cl, T.c_Store.n _ (by decide +kernel), rfl, _, _, rfl, .inl (SqL.of S.cL), _, _, rfl, rfl, _, rfl, ?_⟩
    rw [List.length_map, S.cl]
    refine ite2 (fun q => ?_) fun q => ?_
    · have e : a.customers.length ≤ i := by
        have := of_decide_eq_true q
        omega
      rw [show Su153.does a (.resend i) = (a, Su153.no (-2)) from if_pos e] at k
      exact ⟨one_le, fun p hp => k H L p S (.refl _ _) hp⟩
    have e : ¬ a.customers.length ≤ i := fun e => q (decide_eq_true (by omega))
    have hi : i < a.customers.length := Nat.lt_of_not_le e
    obtain ⟨z, hz⟩ := get_of_lt hi
    have ed : Su153.does a (.resend i) = if a.busy i = false then (a, Su153.no (-16)) else if 60 < a.msgs.length + a.n then (a, Su153.no (-28)) else (a.tick.send (a.calls i), Su153.num (a.msgs.length + a.n) []) := (if_neg e).trans rfl
    rw [ed] at k
    refine ⟨_, rfl, _, rfl, st, L, a, i, rfl, S, hi, _, rfl, ?_⟩
    refine ite2 (fun q2 => ?_) fun q2 => ?_
    · have e2 : a.busy i = false := by simpa using q2
      rw [if_pos e2] at k
      exact ⟨one_le, fun p hp => k H L p S (.refl _ _) hp⟩
    have e2 : ¬ a.busy i = false := by simpa using q2
    rw [if_neg e2] at k
    refine ⟨_, rfl, st, L, a, rfl, S, _, rfl, ?_⟩
    refine ite2 (fun q3 => ?_) fun q3 => ?_
    · rw [if_pos (of_decide_eq_true q3)] at k
      exact ⟨one_le, fun p hp => k H L p S (.refl _ _) hp⟩
    have e3 : ¬ 60 < a.msgs.length + a.n := fun e => q3 (decide_eq_true e)
    rw [if_neg e3] at k
    refine ⟨_, rfl, st, _, dS, _, _, rfl, hS, T.c_Store.cl, T.c_Store.n _ (by decide +kernel), rfl, _, _, rfl, rfl, dS, _, hS, lt1000 rfl, ?_⟩
    have S1 := S.tick (dS := dS)
    have hb : z.st = 1 ∨ z.st = 2 := (busy_of hz).mp (by simpa using e2)
    refine ⟨_, rfl, _, rfl, st, L, a.tick, i, z, rfl, S1, hz, hb, g.n.2, Nat.le_trans hg (by decide), fun H' gs' S2 F2 => ?_⟩
    obtain ⟨dS2, hS2⟩ := S2.obj
    refine ⟨_, rfl, st, _, dS2, _, _, rfl, hS2, T.c_Store.cl, T.c_Store.n _ (by decide +kernel), rfl, _, _, rfl, .inl (SqL.of S2.gL), one_le, fun p hp => ?_⟩
    rw [List.length_map, S2.gl]
    have el : (a.tick.send (a.tick.calls i)).msgs.length = a.msgs.length + a.n := by
      show (a.msgs ++ a.tick.calls i).length = _
      rw [List.length_append, calls_len]
      rfl
    rw [el]
    exact k _ { L with gs := gs' } p S2 (frm_tick.trans F2) hp
end
end Ea

/-! The bodies of changes.py: write, read. -/
namespace Ea
open PySem PySem.Spec PyProof.Rows L2
theorem foot_os {st b p : Addr} {L : Lay} (h : b ∈ foot st { L with os := L.os ++ [p] }) : b ∈ foot st L ∨ b = p := by
  unfold foot at h ⊢
  simp only [List.mem_cons, List.mem_append, List.not_mem_nil, or_false] at h ⊢
  rcases h with h | h | h | h | h | h | h | h | h | h
  · exact .inl (.inl h)
  · exact .inl (.inr (.inl h))
  · exact .inl (.inr (.inr (.inl h)))
  · exact .inl (.inr (.inr (.inr (.inl h))))
  · exact .inl (.inr (.inr (.inr (.inr (.inl h)))))
  · exact .inl (.inr (.inr (.inr (.inr (.inr (.inl h))))))
  · exact .inl (.inr (.inr (.inr (.inr (.inr (.inr (.inl h)))))))
  · exact .inl (.inr (.inr (.inr (.inr (.inr (.inr (.inr (.inl h))))))))
  · exact .inl (.inr (.inr (.inr (.inr (.inr (.inr (.inr (.inr h))))))))
  · exact .inr h
section
variable {P : Program} {w : World} {K : PySem.W.Frag} {mg : Str → Option Value} {base : Heap}
def spBegin (T : Txt K mg) : Sp := fun vs H Q _ => ∃ (st : Addr) (L : Lay) (a : Su153.Abs) (wr : Bool) (c v : Nat) (z : Su153.Customer), vs = [.ref st, .bl wr, .int c, .int v] ∧ StoreAt T.ca H st L a ∧ a.customers[c]? = some z ∧ z.got = [] ∧ z.tag = Su153.none_ ∧ z.v = 0 ∧
  a.machines.length ≤ 5 ∧ a.msgs.length ≤ 2000000 ∧ a.ops.length ≤ 1000 ∧
  ∀ (H' : Hp) (L' : Lay), StoreAt T.ca H' st L' (a.tick.begun c ⟨c, wr, v, a.time + 1, none⟩) → Frm H H' (foot st L) (foot st L') → Q (.int a.ops.length) H'
theorem ok_begin_operation (T : Txt K mg) : FnOk P w K mg base CX0 4 T.d_begin_operation.f T.d_begin_operation.fd ["store", "writing", "customer", "value"] (spBegin T) := by
  have G_Operation___init__ := ok_Operation (P := P) (w := w) (base := base) T
  have G_send_to_all := ok_send_to_all (P := P) (w := w) (base := base) T
  refine T.d_begin_operation.F.ok sc_begin_operation (fun vs H Q E h => ?_) (fun cdv A outer s H vs Q E hr h => ⟨_, (pss_cons (ps_fldaug (pv 0) pe_int in_add)
      (pss_cons (ps_set (i := 4) sc_begin_operation.nd rfl (Or.inl rfl) (pe_callB call_len_seq (by rfl) T.b_len PySem.boot_len (pa_cons (pe_fld (pv 0) rfl) pa_nil)))
      (pss_cons (ps_expr (pe_bm PySem.F.plainAttrs_list PySem.F.slot_list_append PySem.F.type_list_append mt_append (pe_fld (pv 0) rfl) (pa_cons (pe_make (mk_of T.c_Operation T.d_Operation___init__) G_Operation___init__ (hr.mono (by decide)) (by rfl) T.c_Operation.g T.d_Operation___init__.b .nil pass0 (pa_cons (pv 1) (pa_cons (pv 2) (pa_cons (pv 3) (pa_cons (pe_fld (pv 0) rfl) pa_nil))))) pa_nil)))
      (pss_cons (ps_set (i := 5) sc_begin_operation.nd rfl (Or.inl rfl) (pe_ix ix_list (pe_fld (pv 0) rfl) (pv 2) (fun _ _ => rfl)))
      (pss_cons (ps_fld (pv 5) (pe_gc (by rfl) T.k_ASKING) rfl)
      (pss_cons (ps_fld (pv 5) (pv 4) rfl)
      (pss_cons (ps_expr (pe_call G_send_to_all (hr.mono (by decide)) (by rfl) T.d_send_to_all.g T.d_send_to_all.F.kp T.d_send_to_all.b .nil pass0 (pa_cons (pv 0) (pa_cons (pv 2) pa_nil))))
      (pss_one (ps_ret (pv 4)))))))))), ?_⟩)
  · obtain ⟨st, L, a, wr, c, v, z, rfl, S, hz, z1, z2, z3, h5, hg, hl, k⟩ := h
    rfl
  · obtain ⟨st, L, a, wr, c, v, z, rfl, S, hz, z1, z2, z3, h5, hg, hl, k⟩ := h
    obtain ⟨dS, hS⟩ := S.obj
    refine ⟨_, rfl, st, _, dS, _, _, rfl, hS, T.c_Store.cl, T.c_Store.n _ (by decide +kernel), rfl, _, _, rfl, rfl, dS, _, hS, lt1000 rfl, ?_⟩
    have S1 := S.tick (dS := dS)
    have F1 : Frm H (upd H st (.ins T.ca.S dS (putF "time" (.int ((a.time : Int) + 1)) (sF a L)))) (foot st L) (foot st L) := frm_tick
    generalize (upd H st (.ins T.ca.S dS (putF "time" (.int ((a.time : Int) + 1)) (sF a L)))) = H1 at *
    obtain ⟨dS1, hS1⟩ := S1.obj
    refine ⟨_, rfl, st, _, dS1, _, _, rfl, hS1, T.c_Store.cl, T.c_Store.n _ (by decide +kernel), rfl, _, _, rfl, .inl (SqL.of S1.oL), ?_⟩
    refine ⟨_, rfl, st, _, dS1, _, _, rfl, hS1, T.c_Store.cl, T.c_Store.n _ (by decide +kernel), rfl, .inl ⟨rfl, _, SqL.of S1.oL⟩, _, rfl, _, rfl, _, rfl, _, rfl, st, _, dS1, _, _, rfl, hS1, T.c_Store.cl, T.c_Store.n _ (by decide +kernel), rfl, fun p dx np nd ne => ⟨p, dx, wr, c, v, a.time + 1, rfl, upd_same, fun H2 M => ⟨rfl, ?_⟩⟩⟩
    have s2 := same_make np nd M
    refine ⟨_, _, _, rfl, rfl, s2 _ _ S1.oL, (by rw [List.length_map, S1.ol]; exact small1000 hl), ?_⟩
    have S2 := S1.same s2
    have nos : p ∉ L.os := fun h => by
      obtain ⟨o, ho, _⟩ := S1.foot_some (mem_os h)
      rw [np] at ho
      cases ho
    have S3 := S2.addO (p := p) (o := ⟨c, wr, v, a.time + 1, none⟩) (H' := upd H2 L.oL (.lst (L.os.map V.ref ++ [.ref p]))) .upd (by rw [upd_same, List.map_append] <;> rfl) ⟨dx, M.1⟩ nos
    have F3 : Frm H (upd H2 L.oL (.lst (L.os.map V.ref ++ [.ref p]))) (foot st L) (foot st { L with os := L.os ++ [p] }) := by
      refine F1.trans ⟨fun b u e n => ?_, fun b hb => ?_⟩
      · rw [upd_ne (show b ≠ L.oL from fun q => n (q ▸ mem_oL))]
        exact s2 _ _ e
      · rcases foot_os hb with h | h
        · exact .inl h
        · exact .inr (h ▸ np)
    generalize (upd H2 L.oL (.lst (L.os.map V.ref ++ [.ref p]))) = H3 at *
    generalize eL : ({ L with os := L.os ++ [p] } : Lay) = L3 at S3 F3
    rw [List.length_map, S1.ol]
    obtain ⟨dS3, hS3⟩ := S3.obj
    obtain ⟨pw, ct, hw, hct, dC, tg, hc, htg, hl3⟩ := S3.c_at (show ({ a.tick with ops := a.tick.ops ++ [⟨c, wr, v, a.time + 1, none⟩] } : Su153.Abs).customers[c]? = some z from hz)
    refine ⟨_, rfl, st, _, dS3, _, _, rfl, hS3, T.c_Store.cl, T.c_Store.n _ (by decide +kernel), rfl, _, rfl, _, _, _, _, rfl, rfl, SqL.of S3.cL, atI_nat (by rw [List.getElem?_map, hw]; rfl), ?_⟩
    refine ⟨_, rfl, pw, _, dC, _, rfl, hc, T.c_Customer.cl, T.c_Customer.n _ (by decide +kernel), lt1000 rfl, ?_⟩
    refine ⟨_, rfl, _, rfl, pw, _, dC, _, rfl, upd_same, T.c_Customer.cl, T.c_Customer.n _ (by decide +kernel), lt1000 rfl, ?_⟩
    have kc : Chg pw H3 (upd (upd H3 pw (.ins T.ca.C dC (putF "how" (.int 1) (cF z ct tg)))) pw (.ins T.ca.C dC (putF "op" (.int a.ops.length) (putF "how" (.int 1) (cF z ct tg))))) := fun b u e n => by
      rw [upd_ne n, upd_ne n]
      exact e
    have ez : ({ z with st := 1, k := a.ops.length } : Su153.Customer) = ⟨1, a.ops.length, [], Su153.none_, 0⟩ := by rw [z1, z2, z3]
    have S4 := S3.setC0 (z := { z with st := 1, k := a.ops.length }) hw hct kc ⟨dC, tg, upd_same, kc _ _ htg (ne_head htg hc (fun e => by cases e)), kc _ _ hl3 (ne_head hl3 hc (fun e => by cases e))⟩
    rw [ez] at S4
    refine ⟨_, rfl, _, rfl, st, L3, _, c, ⟨1, a.ops.length, [], Su153.none_, 0⟩, rfl, S4, setC_at (show ({ a.tick with ops := a.tick.ops ++ [⟨c, wr, v, a.time + 1, none⟩] } : Su153.Abs).customers[c]? = some z from hz), .inl rfl, h5, hg, fun H5 gs' S5 F5 => ?_⟩
    exact ⟨_, rfl, k H5 { L3 with gs := gs' } S5 (F3.trans ((kc.frm (mem_cs (List.mem_of_getElem? hw))).trans F5))⟩
def spDo_read (T : Txt K mg) : Sp := fun vs H Q E => ∃ (st : V) (i : Nat), vs = [st, .int i] ∧ spDo T (.read i) [.int i] [st, .int i] H Q E
theorem ok_read (T : Txt K mg) : FnOk P w K mg base CX0 5 T.d_read.f T.d_read.fd ["store", "customer"] (spDo_read T) := by
  have G_is_full := ok_is_full (P := P) (w := w) (base := base) T
  have G_begin_operation := ok_begin_operation (P := P) (w := w) (base := base) T
  refine T.d_read.F.ok sc_read (fun vs H Q E h => ?_) (fun cdv A outer s H vs Q E hr h => ⟨_, (pss_cons (ps_if (pt_cmpR op_ge (pv 1) (pe_callB call_len_seq (by rfl) T.b_len PySem.boot_len (pa_cons (pe_fld (pv 0) rfl) pa_nil)) (nomark _))
        (pss_one (ps_ret (pe_lst (pa_cons (pe_gc (by rfl) T.k_NONE_SUCH) pa_nil))))
        pss_nil)
      (pss_cons (ps_if (pt_cmpR op_ne (pe_fld (pe_ix ix_list (pe_fld (pv 0) rfl) (pv 1) (fun _ _ => rfl)) rfl) (pe_gc (by rfl) T.k_IDLE) (nomark _))
        (pss_one (ps_ret (pe_lst (pa_cons (pe_gc (by rfl) T.k_ALREADY) pa_nil))))
        pss_nil)
      (pss_cons (ps_if (pt_val (pe_call G_is_full (hr.mono (by decide)) (by rfl) T.d_is_full.g T.d_is_full.F.kp T.d_is_full.b .nil pass0 (pa_cons (pv 0) pa_nil)))
        (pss_one (ps_ret (pe_lst (pa_cons (pe_gc (by rfl) T.k_TOO_MANY) pa_nil))))
        pss_nil)
      (pss_one (ps_ret (pe_lst (pa_cons (pe_call G_begin_operation (hr.mono (by decide)) (by rfl) T.d_begin_operation.g T.d_begin_operation.F.kp T.d_begin_operation.b .nil pass0 (pa_cons (pv 0) (pa_cons pe_bl (pa_cons (pv 1) (pa_cons pe_int pa_nil))))) pa_nil))))))), ?_⟩)
  · obtain ⟨_, i, rfl, st, L, a, e, S, g, hg, k⟩ := h
    rfl
  · obtain ⟨_, i, rfl, st, L, a, e, S, g, hg, k⟩ := h
    cases e
    obtain ⟨dS, hS⟩ := S.obj
    refine ⟨_, rfl, _, rfl, st, _, dS, _, _, rfl, hS, T.c_Store.cl, T.c_Store.n _ (by decide +kernel), rfl, _, _, rfl, .inl (SqL.of S.cL), _, _, rfl, rfl, _, rfl, ?_⟩
    rw [List.length_map, S.cl]
    refine ite2 (fun q => ?_) fun q => ?_
    · have e : a.customers.length ≤ i := by
        have := of_decide_eq_true q
        omega
      rw [show Su153.does a (.read i) = (a, Su153.no (-2)) from if_pos e] at k
      exact ⟨one_le, fun p hp => k H L p S (.refl _ _) hp⟩
    have e : ¬ a.customers.length ≤ i := fun e => q (decide_eq_true (by omega))
    have hi : i < a.customers.length := Nat.lt_of_not_le e
    obtain ⟨z, hz⟩ := get_of_lt hi
    obtain ⟨pw, ct, hw, hct, dC, tg, hc, htg, hl⟩ := S.c_at hz
    have ed : Su153.does a (.read i) = if z.st ≠ 0 then (a, Su153.no (-16)) else if 20 ≤ a.ops.length ∨ 60 < a.msgs.length + a.n then (a, Su153.no (-28)) else (a.tick.begun i ⟨i, false, 0, a.time + 1, none⟩, Su153.num a.ops.length []) := by
      refine (if_neg e).trans ?_
      rw [customer_at hz]
      rfl
    rw [ed] at k
    refine ⟨_, rfl, st, _, dS, _, _, rfl, hS, T.c_Store.cl, T.c_Store.n _ (by decide +kernel), rfl, _, rfl, _, _, _, _, rfl, rfl, SqL.of S.cL, atI_nat (by rw [List.getElem?_map, hw]; rfl), pw, _, dC, _, _, rfl, hc, T.c_Customer.cl, T.c_Customer.n _ (by decide +kernel), rfl, rfl, _, rfl, ?_⟩
    refine ite2 (fun q2 => ?_) fun q2 => ?_
    · have e3 : ¬ z.st = 0 := fun e => by
        rw [e] at q2
        exact absurd q2 (by decide)
      rw [if_pos e3] at k
      exact ⟨one_le, fun p hp => k H L p S (.refl _ _) hp⟩
    have e3 : z.st = 0 := Classical.byContradiction fun e => q2 (by
      rw [decide_eq_false (fun h => e (by have := V.int.inj h; omega))]
      rfl)
    rw [if_neg (fun h => h e3)] at k
    refine ⟨_, rfl, st, L, a, rfl, S, _, rfl, ?_⟩
    refine ite2 (fun q5 => ?_) fun q5 => ?_
    · rw [if_pos (of_decide_eq_true q5)] at k
      exact ⟨one_le, fun p hp => k H L p S (.refl _ _) hp⟩
    have e4 : ¬ (20 ≤ a.ops.length ∨ 60 < a.msgs.length + a.n) := fun e => q5 (decide_eq_true e)
    rw [if_neg e4] at k
    have qz := (g.cust _ z hz).idle e3
    refine ⟨_, rfl, _, rfl, st, L, a, false, i, 0, z, rfl, S, hz, qz.1, qz.2.1, qz.2.2, g.n.2, Nat.le_trans hg (by decide), Nat.le_trans g.ops (by decide), fun H' L' S' F' => ?_⟩
    exact ⟨one_le, fun p hp => k H' L' p S' F' hp⟩
def spDo_write (T : Txt K mg) : Sp := fun vs H Q E => ∃ (st : V) (i v : Nat), vs = [st, .int i, .int v] ∧ spDo T (.write i v) [.int i, .int v] [st, .int i, .int v] H Q E
theorem ok_write (T : Txt K mg) : FnOk P w K mg base CX0 5 T.d_write.f T.d_write.fd ["store", "customer", "value"] (spDo_write T) := by
  have G_is_full := ok_is_full (P := P) (w := w) (base := base) T
  have G_is_written := ok_is_written (P := P) (w := w) (base := base) T
  have G_begin_operation := ok_begin_operation (P := P) (w := w) (base := base) T
  refine T.d_write.F.ok sc_write (fun vs H Q E h => ?_) (fun cdv A outer s H vs Q E hr h => ⟨_, (pss_cons (ps_if (pt_cmpR op_ge (pv 1) (pe_callB call_len_seq (by rfl) T.b_len PySem.boot_len (pa_cons (pe_fld (pv 0) rfl) pa_nil)) (nomark _))
        (pss_one (ps_ret (pe_lst (pa_cons (pe_gc (by rfl) T.k_NONE_SUCH) pa_nil))))
        pss_nil)
      (pss_cons (ps_if (PW.pt (pw_or (pt_cmpR op_lt (pv 2) pe_int (nomark _)) (pw_or1 (pt_cmpR op_gt (pv 2) (pe_gc (by rfl) T.k_MOST_VALUE) (nomark _)))))
        (pss_one (ps_ret (pe_lst (pa_cons (pe_gc (by rfl) T.k_NOT_AS_TOLD) pa_nil))))
        pss_nil)
      (pss_cons (ps_if (pt_cmpR op_ne (pe_fld (pe_ix ix_list (pe_fld (pv 0) rfl) (pv 1) (fun _ _ => rfl)) rfl) (pe_gc (by rfl) T.k_IDLE) (nomark _))
        (pss_one (ps_ret (pe_lst (pa_cons (pe_gc (by rfl) T.k_ALREADY) pa_nil))))
        pss_nil)
      (pss_cons (ps_if (pt_val (pe_call G_is_written (hr.mono (by decide)) (by rfl) T.d_is_written.g T.d_is_written.F.kp T.d_is_written.b .nil pass0 (pa_cons (pv 0) (pa_cons (pv 2) pa_nil))))
        (pss_one (ps_ret (pe_lst (pa_cons (pe_gc (by rfl) T.k_WRITTEN) pa_nil))))
        pss_nil)
      (pss_cons (ps_if (pt_val (pe_call G_is_full (hr.mono (by decide)) (by rfl) T.d_is_full.g T.d_is_full.F.kp T.d_is_full.b .nil pass0 (pa_cons (pv 0) pa_nil)))
        (pss_one (ps_ret (pe_lst (pa_cons (pe_gc (by rfl) T.k_TOO_MANY) pa_nil))))
        pss_nil)
      (pss_one (ps_ret (pe_lst (pa_cons (pe_call G_begin_operation (hr.mono (by decide)) (by rfl) T.d_begin_operation.g T.d_begin_operation.F.kp T.d_begin_operation.b .nil pass0 (pa_cons (pv 0) (pa_cons pe_bl (pa_cons (pv 1) (pa_cons (pv 2) pa_nil))))) pa_nil))))))))), ?_⟩)
  · obtain ⟨_, i, v, rfl, st, L, a, e, S, g, hg, k⟩ := h
    rfl
  · obtain ⟨_, i, v, rfl, st, L, a, e, S, g, hg, k⟩ := h
    cases e
    obtain ⟨dS, hS⟩ := S.obj
    refine ⟨_, rfl, _, rfl, st, _, dS, _, _, rfl, hS, T.c_Store.cl, T.c_Store.n _ (by decide +kernel), rfl, _, _, rfl, .inl (SqL.of S.cL), _, _, rfl, rfl, _, rfl, ?_⟩
    rw [List.length_map, S.cl]
    refine ite2 (fun q => ?_) fun q => ?_
    · have e : a.customers.length ≤ i := by
        have := of_decide_eq_true q
        omega
      rw [show Su153.does a (.write i v) = (a, Su153.no (-2)) from if_pos e] at k
      exact ⟨one_le, fun p hp => k H L p S (.refl _ _) hp⟩
    have e : ¬ a.customers.length ≤ i := fun e => q (decide_eq_true (by omega))
    have hi : i < a.customers.length := Nat.lt_of_not_le e
    obtain ⟨z, hz⟩ := get_of_lt hi
    obtain ⟨pw, ct, hw, hct, dC, tg, hc, htg, hl⟩ := S.c_at hz
    have ed : Su153.does a (.write i v) = if v = 0 ∨ 40 < v then (a, Su153.no (-22)) else if z.st ≠ 0 then (a, Su153.no (-16)) else if (a.ops.any fun o => o.wr && o.v == v) = true then (a, Su153.no (-17)) else if 20 ≤ a.ops.length ∨ 60 < a.msgs.length + a.n then (a, Su153.no (-28)) else (a.tick.begun i ⟨i, true, v, a.time + 1, none⟩, Su153.num a.ops.length []) := by
      refine (if_neg e).trans ?_
      rw [customer_at hz]
      rfl
    rw [ed] at k
    have bad : (v = 0 ∨ 40 < v) → _ := fun h => by
      rw [if_pos h] at k
      exact (⟨one_le, fun p hp => k H L p S (.refl _ _) hp⟩ : 1 ≤ sizeLine ∧ ∀ p, H p = none → Q (.ref p) (upd H p (.lst [.int (-22)])))
    refine ⟨_, rfl, _, _, rfl, rfl, _, rfl, ?_⟩
    refine ite2 (fun q1 => ?_) fun q1 => ?_
    · exact iteT (bad (.inl (by have := of_decide_eq_true q1; omega)))
    refine ⟨_, rfl, _, _, rfl, rfl, _, rfl, ?_⟩
    refine ite2 (fun q1b => ?_) fun q1b => ?_
    · exact bad (.inr (by have := of_decide_eq_true q1b; omega))
    have e1 : ¬ (v = 0 ∨ 40 < v) := fun h => by
      rcases h with h | h
      · exact q1 (decide_eq_true (by omega))
      · exact q1b (decide_eq_true (by omega))
    rw [if_neg e1] at k
    refine ⟨_, rfl, st, _, dS, _, _, rfl, hS, T.c_Store.cl, T.c_Store.n _ (by decide +kernel), rfl, _, rfl, _, _, _, _, rfl, rfl, SqL.of S.cL, atI_nat (by rw [List.getElem?_map, hw]; rfl), pw, _, dC, _, _, rfl, hc, T.c_Customer.cl, T.c_Customer.n _ (by decide +kernel), rfl, rfl, _, rfl, ?_⟩
    refine ite2 (fun q2 => ?_) fun q2 => ?_
    · have e3 : ¬ z.st = 0 := fun e => by
        rw [e] at q2
        exact absurd q2 (by decide)
      rw [if_pos e3] at k
      exact ⟨one_le, fun p hp => k H L p S (.refl _ _) hp⟩
    have e3 : z.st = 0 := Classical.byContradiction fun e => q2 (by
      rw [decide_eq_false (fun h => e (by have := V.int.inj h; omega))]
      rfl)
    rw [if_neg (fun h => h e3)] at k
    refine ⟨_, rfl, _, rfl, st, L, a, v, rfl, S, Nat.le_trans g.ops (by decide), fun H1 s1 => ⟨_, rfl, ?_⟩⟩
    have S1 := S.same s1
    have F1 : Frm H H1 (foot st L) (foot st L) := .same s1
    refine ite2 (fun q4 => ?_) fun q4 => ?_
    · rw [if_pos q4] at k
      exact ⟨one_le, fun p hp => k H1 L p S1 F1 hp⟩
    rw [if_neg q4] at k
    refine ⟨_, rfl, st, L, a, rfl, S1, _, rfl, ?_⟩
    refine ite2 (fun q5 => ?_) fun q5 => ?_
    · rw [if_pos (of_decide_eq_true q5)] at k
      exact ⟨one_le, fun p hp => k H1 L p S1 F1 hp⟩
    have e4 : ¬ (20 ≤ a.ops.length ∨ 60 < a.msgs.length + a.n) := fun e => q5 (decide_eq_true e)
    rw [if_neg e4] at k
    have qz := (g.cust _ z hz).idle e3
    refine ⟨_, rfl, _, rfl, _, rfl, st, L, a, true, i, v, z, rfl, S1, hz, qz.1, qz.2.1, qz.2.2, g.n.2, Nat.le_trans hg (by decide), Nat.le_trans g.ops (by decide), fun H' L' S' F' => ?_⟩
    exact ⟨one_le, fun p hp => k H' L' p S' (F1.trans F') hp⟩
end
end Ea

/-! The bodies of changes.py: deliver, alone. -/
namespace Ea
open PySem PySem.Spec PyProof.Rows L2
section
variable {P : Program} {w : World} {K : PySem.W.Frag} {mg : Str → Option Value} {base : Heap}
def spDo_deliver (T : Txt K mg) : Sp := fun vs H Q E => ∃ (st : V) (i : Nat), vs = [st, .int i] ∧ spDo T (.deliver i) [.int i] [st, .int i] H Q E
theorem ok_deliver (T : Txt K mg) : FnOk P w K mg base CX0 6 T.d_deliver.f T.d_deliver.fd ["store", "message"] (spDo_deliver T) := by
  have G_come := ok_come (P := P) (w := w) (base := base) T
  refine T.d_deliver.F.ok sc_deliver (fun vs H Q E h => ?_) (fun cdv A outer s H vs Q E hr h => ⟨_, (pss_cons (ps_if (pt_cmpR op_ge (pv 1) (pe_callB call_len_seq (by rfl) T.b_len PySem.boot_len (pa_cons (pe_fld (pv 0) rfl) pa_nil)) (nomark _))
        (pss_one (ps_ret (pe_lst (pa_cons (pe_gc (by rfl) T.k_NONE_SUCH) pa_nil))))
        pss_nil)
      (pss_cons (ps_fldaug (pv 0) pe_int in_add)
      (pss_cons (ps_set (i := 2) sc_deliver.nd rfl (Or.inl rfl) (pe_fld (pe_ix ix_list (pe_fld (pv 0) rfl) (pv 1) (fun _ _ => rfl)) rfl))
      (pss_cons (ps_set (i := 3) sc_deliver.nd rfl (Or.inl rfl) (pe_call G_come (hr.mono (by decide)) (by rfl) T.d_come.g T.d_come.F.kp T.d_come.b .nil pass0 (pa_cons (pv 0) (pa_cons (pv 1) pa_nil))))
      (pss_cons (ps_if (pt_cmpR op_eq (pv 3) (pe_gc (by rfl) T.k_ENDED) (nomark _))
        (pss_one (ps_ret (pe_lst (pa_cons (pv 3) (pa_cons (pv 2) (pa_cons (pe_fld (pe_ix ix_list (pe_fld (pv 0) rfl) (pv 2) (fun _ _ => rfl)) rfl) pa_nil))))))
        pss_nil)
      (pss_one (ps_ret (pe_lst (pa_cons (pv 3) pa_nil))))))))), ?_⟩)
  · obtain ⟨_, i, rfl, st, L, a, e, S, g, hg, k⟩ := h
    rfl
  · obtain ⟨_, i, rfl, st, L, a, e, S, g, hg, k⟩ := h
    cases e
    obtain ⟨dS, hS⟩ := S.obj
    refine ⟨_, rfl, _, rfl, st, _, dS, _, _, rfl, hS, T.c_Store.cl, T.c_Store.n _ (by decide +kernel), rfl, _, _, rfl, .inl (SqL.of S.gL), _, _, rfl, rfl, _, rfl, ?_⟩
    rw [List.length_map, S.gl]
    refine ite2 (fun q => ?_) fun q => ?_
    · have e : a.msgs.length ≤ i := by
        have := of_decide_eq_true q
        omega
      rw [show Su153.does a (.deliver i) = (a, Su153.no (-2)) from if_pos e] at k
      exact ⟨one_le, fun p hp => k H L p S (.refl _ _) hp⟩
    have e : ¬ a.msgs.length ≤ i := fun e => q (decide_eq_true (by omega))
    have hi : i < a.msgs.length := Nat.lt_of_not_le e
    obtain ⟨x, hx⟩ := get_of_lt hi
    obtain ⟨pm, hpm, hM⟩ := S.g_at hx
    have okx := g.tick.msgOk hi
    rw [msg_at (show a.tick.msgs[i]? = some x from hx)] at okx
    obtain ⟨z, hz⟩ := get_of_lt okx.c
    have cm := deliver_came g.tick (show a.tick.msgs[i]? = some x from hx) hz
    have ed : Su153.does a (.deliver i) = ((a.tick.deliver i).1, (a.tick.deliver i).1.effect x.c (a.tick.deliver i).2) := by
      refine (if_neg e).trans ?_
      rw [msg_at hx]
    rw [ed] at k
    have hops := deliver_ops a.tick i
    refine ⟨_, rfl, st, _, dS, _, _, rfl, hS, T.c_Store.cl, T.c_Store.n _ (by decide +kernel), rfl, _, _, rfl, rfl, dS, _, hS, lt1000 rfl, ?_⟩
    have S1 := S.tick (dS := dS)
    have F1 : Frm H (upd H st (.ins T.ca.S dS (putF "time" (.int ((a.time : Int) + 1)) (sF a L)))) (foot st L) (foot st L) := frm_tick
    obtain ⟨dS1, hS1⟩ := S1.obj
    obtain ⟨dm, tm, hm, _⟩ := hM.frm S F1
    refine ⟨_, rfl, st, _, dS1, _, _, rfl, hS1, T.c_Store.cl, T.c_Store.n _ (by decide +kernel), rfl, _, rfl, _, _, _, _, rfl, rfl, SqL.of S1.gL, atI_nat (by rw [List.getElem?_map, hpm]; rfl), pm, _, dm, _, _, rfl, hm, T.c_Message.cl, T.c_Message.n _ (by decide +kernel), rfl, ?_⟩
    refine ⟨_, rfl, _, rfl, st, L, a.tick, i, rfl, S1, g.tick, hi, Nat.le_trans hg (by decide), fun H2 L2 S2 F2 => ?_⟩
    have F3 := F1.trans F2
    generalize a.tick.deliver i = r at *
    obtain ⟨dS2, hS2⟩ := S2.obj
    refine ⟨_, rfl, rfl, _, rfl, ?_⟩
    refine ite2 (fun q4 => ?_) fun q4 => ?_
    · have e4 : r.2 = 4 := by
        have := V.int.inj (of_decide_eq_true q4)
        omega
      obtain ⟨z', hz', hk', h4, _⟩ := cm.at_
      obtain ⟨o, ho⟩ := get_of_lt (l := r.1.ops) (i := x.k) (by
        rw [hops]
        obtain ⟨p, hp, _⟩ := okx.op
        exact lt_of_get hp)
      have ee : r.1.effect x.c r.2 = Su153.num 4 [x.k, o.v] := by
        unfold Su153.Abs.effect
        rw [if_pos e4, customer_at hz', hk', (h4 e4).1, op_at ho]
      rw [ee] at k
      obtain ⟨po, hpo, dO, hO⟩ := S2.o_at ho
      refine ⟨_, rfl, _, rfl, _, rfl, st, _, dS2, _, _, rfl, hS2, T.c_Store.cl, T.c_Store.n _ (by decide +kernel), rfl, _, rfl, _, _, _, _, rfl, rfl, SqL.of S2.oL, atI_nat (by rw [List.getElem?_map, hpo]; rfl), po, _, dO, _, _, rfl, hO, T.c_Operation.cl, T.c_Operation.n _ (by decide +kernel), rfl, (by show 3 ≤ sizeLine; decide), fun p hp => ?_⟩
      have := k H2 L2 p S2 F3 hp
      rw [e4]
      exact this
    · have e4 : ¬ r.2 = 4 := fun e => q4 (decide_eq_true (by rw [e] <;> rfl))
      have ee : r.1.effect x.c r.2 = Su153.num r.2 [] := by
        unfold Su153.Abs.effect
        rw [if_neg e4]
      rw [ee] at k
      exact ⟨_, rfl, one_le, fun p hp => k H2 L2 p S2 F3 hp⟩
def leftA : L2.St → Nat
  | [_, _, _, some (V.int d), _] => (400 - d).toNat
  | _ => 0
def spDo_alone (T : Txt K mg) : Sp := fun vs H Q E => ∃ (st : V) (i : Nat), vs = [st, .int i] ∧ spDo T (.alone i) [.int i] [st, .int i] H Q E
theorem ok_alone (T : Txt K mg) : FnOk P w K mg base CX0 6 T.d_alone.f T.d_alone.fd ["store", "customer"] (spDo_alone T) := by
  have G_is_at_work := ok_is_at_work (P := P) (w := w) (base := base) T
  have G_first_of := ok_first_of (P := P) (w := w) (base := base) T
  have G_come := ok_come (P := P) (w := w) (base := base) T
  refine T.d_alone.F.ok sc_alone (fun vs H Q E h => ?_) (fun cdv A outer s H vs Q E hr h => ⟨_, (pss_cons (ps_if (pt_cmpR op_ge (pv 1) (pe_callB call_len_seq (by rfl) T.b_len PySem.boot_len (pa_cons (pe_fld (pv 0) rfl) pa_nil)) (nomark _))
        (pss_one (ps_ret (pe_lst (pa_cons (pe_gc (by rfl) T.k_NONE_SUCH) pa_nil))))
        pss_nil)
      (pss_cons (ps_if (pt_not (pt_val (pe_call G_is_at_work (hr.mono (by decide)) (by rfl) T.d_is_at_work.g T.d_is_at_work.F.kp T.d_is_at_work.b .nil pass0 (pa_cons (pv 0) (pa_cons (pv 1) pa_nil)))))
        (pss_one (ps_ret (pe_lst (pa_cons (pe_gc (by rfl) T.k_ALREADY) pa_nil))))
        pss_nil)
      (pss_cons (ps_fldaug (pv 0) pe_int in_add)
      (pss_cons (ps_set (i := 2) sc_alone.nd rfl (Or.inl rfl) (pe_fld (pe_ix ix_list (pe_fld (pv 0) rfl) (pv 1) (fun _ _ => rfl)) rfl))
      (pss_cons (ps_set (i := 3) sc_alone.nd rfl (Or.inl rfl) pe_int)
      (pss_cons (ps_while PassesOwn.never (pt_cmpR op_lt (pv 3) (pe_gc (by rfl) T.k_MOST_ALONE) (nomark _))
        (pss_cons (ps_set (i := 4) sc_alone.nd rfl (Or.inl rfl) (pe_call G_first_of (hr.mono (by decide)) (by rfl) T.d_first_of.g T.d_first_of.F.kp T.d_first_of.b .nil pass0 (pa_cons (pv 0) (pa_cons (pv 2) pa_nil))))
        (pss_cons (ps_if (pt_cmp (pc_isN (pv 4)))
          (pss_one ps_break)
          pss_nil)
        (pss_cons (ps_aug (i := 3) sc_alone.nd rfl (Or.inl rfl) pe_int ip_add)
        (pss_one (ps_if (pt_cmpR op_eq (pe_call G_come (hr.mono (by decide)) (by rfl) T.d_come.g T.d_come.F.kp T.d_come.b .nil pass0 (pa_cons (pv 0) (pa_cons (pv 4) pa_nil))) (pe_gc (by rfl) T.k_ENDED) (nomark _))
          (pss_one (ps_ret (pe_lst (pa_cons (pv 3) (pa_cons pe_int pa_nil)))))
          pss_nil))))))
      (pss_one (ps_ret (pe_lst (pa_cons (pv 3) (pa_cons pe_int pa_nil))))))))))), ?_⟩)
  · obtain ⟨_, i, rfl, st, L, a, e, S, g, hg, k⟩ := h
    rfl
  · obtain ⟨_, i, rfl, st, L, a, e, S, g, hg, k⟩ := h
    cases e
    obtain ⟨dS, hS⟩ := S.obj
    refine ⟨_, rfl, _, rfl, st, _, dS, _, _, rfl, hS, T.c_Store.cl, T.c_Store.n _ (by decide +kernel), rfl, _, _, rfl, .inl (SqL.of S.cL), _, _, rfl, rfl, _, rfl, ?_⟩
    rw [List.length_map, S.cl]
    refine ite2 (fun q => ?_) fun q => ?_
    · have e : a.customers.length ≤ i := by
        have := of_decide_eq_true q
        omega
      rw [show Su153.does a (.alone i) = (a, Su153.no (-2)) from if_pos e] at k
      exact ⟨one_le, fun p hp => k H L p S (.refl _ _) hp⟩
    have e : ¬ a.customers.length ≤ i := fun e => q (decide_eq_true (by omega))
    have hi : i < a.customers.length := Nat.lt_of_not_le e
    obtain ⟨z, hz⟩ := get_of_lt hi
    have ed : Su153.does a (.alone i) = if a.busy i = false then (a, Su153.no (-16)) else ((Su153.Abs.alone i 400 a.tick 0).1, Su153.num (Su153.Abs.alone i 400 a.tick 0).2 [Su153.bit (!((Su153.Abs.alone i 400 a.tick 0).1.busy i))]) := (if_neg e).trans rfl
    rw [ed] at k
    refine ⟨_, rfl, _, rfl, st, L, a, i, rfl, S, hi, _, rfl, ?_⟩
    refine ite2 (fun q2 => ?_) fun q2 => ?_
    · have e2 : a.busy i = false := by simpa using q2
      rw [if_pos e2] at k
      exact ⟨one_le, fun p hp => k H L p S (.refl _ _) hp⟩
    have e2 : ¬ a.busy i = false := by simpa using q2
    rw [if_neg e2] at k
    have hb : z.st = 1 ∨ z.st = 2 := (busy_of hz).mp (by simpa using e2)
    refine ⟨_, rfl, st, _, dS, _, _, rfl, hS, T.c_Store.cl, T.c_Store.n _ (by decide +kernel), rfl, _, _, rfl, rfl, dS, _, hS, lt1000 rfl, ?_⟩
    have S1 := S.tick (dS := dS)
    have F1 : Frm H (upd H st (.ins T.ca.S dS (putF "time" (.int ((a.time : Int) + 1)) (sF a L)))) (foot st L) (foot st L) := frm_tick
    obtain ⟨dS1, hS1⟩ := S1.obj
    obtain ⟨pw, ct, hw, hct, dC, tg, hc, htg, hl⟩ := S1.c_at (show a.tick.customers[i]? = some z from hz)
    refine ⟨_, rfl, st, _, dS1, _, _, rfl, hS1, T.c_Store.cl, T.c_Store.n _ (by decide +kernel), rfl, _, rfl, _, _, _, _, rfl, rfl, SqL.of S1.cL, atI_nat (by rw [List.getElem?_map, hw]; rfl), pw, _, dC, _, _, rfl, hc, T.c_Customer.cl, T.c_Customer.n _ (by decide +kernel), rfl, ?_⟩
    have stop : ∀ {H' : Hp} {b : Su153.Abs} {L' : Lay} {d : Nat} {zb : Su153.Customer}, StoreAt T.ca H' st L' b → Frm H H' (foot st L) (foot st L') → Su153.Abs.alone i 400 a.tick 0 = (b, d) → b.customers[i]? = some zb → (zb.st = 1 ∨ zb.st = 2) → 2 ≤ sizeLine ∧ ∀ p, H' p = none → Q (.ref p) (upd H' p (.lst [.int d, .int 0])) := by
      intro H' b L' d zb S' F' e1 h1 h2
      rw [e1] at k
      refine ⟨by decide, fun p hp => ?_⟩
      have := k H' L' p S' F' hp
      rw [(busy_of h1).mpr h2] at this
      exact this
    refine while_by (fun σ H' => ∃ (b : Su153.Abs) (L' : Lay) (d : Nat) (v : Option V) (zb : Su153.Customer), σ = [some (.ref st), some (.int i), some (.int z.k), some (.int d), v] ∧ StoreAt T.ca H' st L' b ∧ Frm H H' (foot st L) (foot st L') ∧ Good b ∧ b.customers[i]? = some zb ∧ (zb.st = 1 ∨ zb.st = 2) ∧ zb.k = z.k ∧
      d ≤ 400 ∧ b.msgs.length ≤ 1000000 + 5 * d ∧ Su153.Abs.alone i 400 a.tick 0 = Su153.Abs.alone i (400 - d) b d) (fun σ _ => leftA σ) ⟨a.tick, L, 0, none, z, rfl, S1, F1, g.tick, hz, hb, rfl, by decide, hg, rfl⟩ ?_ ?_
    · rintro σ H1 ⟨b, L', d, v, zb, rfl, S', F', g', hzb, hbb, hkk, hd, hlen, hal⟩
      refine ⟨_, rfl, _, _, rfl, rfl, _, rfl, ?_⟩
      refine ite2 (fun qd => ?_) fun qd => ?_
      · have d4 : d < 400 := by
          have := of_decide_eq_true qd
          omega
        refine ⟨_, rfl, _, rfl, st, L', b, z.k, rfl, S', fun H2 s2 => ?_⟩
        have S2 := S'.same s2
        have F2 := F'.trans (Frm.same (F := foot st L') s2)
        cases hf : b.msgs.findIdx? (fun x => x.k == z.k) with
        | none =>
          rw [alone_none g' hzb hbb (by rw [hkk]; exact hf)] at hal
          refine ⟨_, rfl, _, rfl, ?_⟩
          refine iteT ?_
          exact ⟨_, rfl, stop S2 F2 hal hzb hbb⟩
        | some j =>
          have hj := find_lt hf
          obtain ⟨x, hx⟩ := get_of_lt hj
          have hxk : x.k = z.k := by
            have h1 := (List.findIdx?_eq_some_iff_getElem.mp hf)
            obtain ⟨h2, h3, _⟩ := h1
            have ey : b.msgs[j] = x := by
              have := List.getElem?_eq_getElem hj
              rw [hx] at this
              exact (Option.some.inj this).symm
            rw [ey] at h3
            simpa using h3
          have hxc : x.c = i := by
            obtain ⟨o, ho, how, _⟩ := (g'.cust i zb hzb).op hbb
            obtain ⟨p, hp, hpw⟩ := (g'.msg x (List.mem_of_getElem? hx)).op
            rw [hxk, ← hkk, ho] at hp
            cases hp
            exact hpw.symm.trans how
          have e400 : 400 - d = (400 - (d + 1)) + 1 := by omega
          rw [e400, alone_some g' hzb hbb (by rw [hkk]; exact hf)] at hal
          have cm := deliver_came g' hx (by rw [hxc]; exact hzb)
          rw [hxc] at cm
          refine ⟨_, rfl, _, rfl, ?_⟩
          refine iteF ?_
          refine ⟨_, rfl, _, _, rfl, rfl, ?_⟩
          refine ⟨_, rfl, _, rfl, st, L', b, j, rfl, S2, g', hj, by omega, fun H3 L3 S3 F3 => ?_⟩
          have g3 := g'.deliver hj
          have l3 := (deliver_len b j g'.n.1).1
          have n5 := g'.n.2
          generalize b.deliver j = r at *
          obtain ⟨z', hz', hk', h4, h5⟩ := cm.at_
          refine ⟨rfl, _, rfl, ?_⟩
          refine ite2 (fun q4 => ?_) fun q4 => ?_
          · have e4 : r.2 = 4 := by
              have := V.int.inj (of_decide_eq_true q4)
              omega
            have st0 := (h4 e4).2
            rw [alone_ended hz' st0] at hal
            rw [hal] at k
            refine ⟨_, rfl, (by show 2 ≤ sizeLine; decide), fun p hp => ?_⟩
            have := k H3 L3 p S3 (F2.trans F3) hp
            have nb : r.1.busy i = false := by
              unfold Su153.Abs.busy
              rw [customer_at hz', st0]
              rfl
            rw [nb] at this
            exact this
          · have e4 : ¬ r.2 = 4 := fun e => q4 (decide_eq_true (by rw [e] <;> rfl))
            refine ⟨⟨r.1, L3, d + 1, _, z', rfl, S3, F2.trans F3, g3, hz', h5 e4 hbb, hk'.trans hkk, by omega, by omega, hal⟩, ?_⟩
            show (400 - ((d : Int) + 1)).toNat < (400 - (d : Int)).toNat
            omega
      · have d4 : d = 400 := by
          have : ¬ d < 400 := fun h => qd (decide_eq_true (by omega))
          omega
        subst d4
        exact ⟨_, rfl, stop S' F' hal hzb hbb⟩
    · exact fun σ H Q Q' hq ⟨v, h1, i, j, e1, e2, k, e3, q⟩ => ⟨v, h1, i, j, e1, e2, k, e3, hq _ _ q⟩
end
end Ea

/-! The bodies: a call by its number. -/
namespace Ea
open PySem PySem.Spec PyProof.Rows L2
section
variable {P : Program} {w : World} {K : PySem.W.Frag} {mg : Str → Option Value} {base : Heap}
/-- a call on a begun store, given its number and the list of its numbers -/
def spCall (T : Txt K mg) (lo hi : Int) : Sp := fun vs H Q E => ∃ (st : V) (x : Su153.Call) (p : Int) (as : List Int) (g : Addr), vs = [st, .int p, .ref g] ∧ enc x = p :: as ∧ lo ≤ p ∧ p ≤ hi ∧ H g = some (.lst (as.map V.int)) ∧ spDo T x [] [st] H Q E
theorem spDo_args {T : Txt K mg} {x : Su153.Call} {l l' : List V} {st : V} {H : Hp} {Q : VK} {E : XK} (h : spDo T x l (st :: l) H Q E) : spDo T x l' (st :: l') H Q E := by
  obtain ⟨s, L, a, e, r⟩ := h
  refine ⟨s, L, a, ?_, r⟩
  rw [(List.cons.inj e).1]
def S_WITH_ONE_NUMBER_changes (T : Txt K mg) : Addr → Sp → Prop := fun f sp => (f = T.d_read.f ∧ sp = spDo_read T) ∨ (f = T.d_deliver.f ∧ sp = spDo_deliver T) ∨ (f = T.d_lose.f ∧ sp = spDo_lose T) ∨ (f = T.d_again.f ∧ sp = spDo_again T) ∨ (f = T.d_stop.f ∧ sp = spDo_stop T) ∨ (f = T.d_wake.f ∧ sp = spDo_wake T) ∨ (f = T.d_leave.f ∧ sp = spDo_leave T) ∨ (f = T.d_resend.f ∧ sp = spDo_resend T) ∨ (f = T.d_alone.f ∧ sp = spDo_alone T)
theorem held_of {T : Txt K mg} {x qual : Str} {st : Stmt} {ps : List Str} (d : DefAt K mg x qual st ps) {j : Nat} {sp : Sp} (F : FnOk P w K mg base CX0 j d.f d.fd ps sp) (h : j ≤ 6) : Held P w K mg base 6 d.f sp :=
  ⟨⟨d.fd, ps, F.mono h, d.F.kp, d.b⟩⟩
theorem held_change (T : Txt K mg) : ∀ f sp, S_WITH_ONE_NUMBER_changes T f sp → Held P w K mg base 6 f sp := by
  intro f sp h
  rcases h with ⟨rfl, rfl⟩ | ⟨rfl, rfl⟩ | ⟨rfl, rfl⟩ | ⟨rfl, rfl⟩ | ⟨rfl, rfl⟩ | ⟨rfl, rfl⟩ | ⟨rfl, rfl⟩ | ⟨rfl, rfl⟩ | ⟨rfl, rfl⟩
  · exact held_of (T := T) T.d_read (ok_read T) (by decide)
  · exact held_of (T := T) T.d_deliver (ok_deliver T) (by decide)
  · exact held_of (T := T) T.d_lose (ok_lose T) (by decide)
  · exact held_of (T := T) T.d_again (ok_again T) (by decide)
  · exact held_of (T := T) T.d_stop (ok_stop T) (by decide)
  · exact held_of (T := T) T.d_wake (ok_wake T) (by decide)
  · exact held_of (T := T) T.d_leave (ok_leave T) (by decide)
  · exact held_of (T := T) T.d_resend (ok_resend T) (by decide)
  · exact held_of (T := T) T.d_alone (ok_alone T) (by decide)
theorem mem_at {α : Type} {l : List α} {i : Nat} {x : α} (h : l[i]? = some x) : x ∈ l := List.mem_of_getElem? h
theorem ok_change (T : Txt K mg) : FnOk P w K mg base CX0 7 T.d_change.f T.d_change.fd ["store", "number", "given"] (spCall T 1 10) := by
  have G_write := ok_write (P := P) (w := w) (base := base) T
  have H_WITH_ONE_NUMBER_changes := held_change (P := P) (w := w) (base := base) T
  obtain ⟨dW, g_WITH_ONE_NUMBER_changes, cW⟩ := T.k_WITH_ONE_NUMBER_changes
  refine T.d_change.F.ok sc_change (fun vs H Q E h => ?_) (fun cdv A outer s H vs Q E hr h => ⟨_, (pss_cons (ps_if (pt_cmpR op_eq (pv 1) (pe_gc (by rfl) T.k_WRITE) (nomark _))
        (pss_one (ps_ret (pe_call G_write (hr.mono (by decide)) (by rfl) T.d_write.g T.d_write.F.kp T.d_write.b .nil pass0 (pa_cons (pv 0) (pa_cons (pe_ix ix_list (pv 2) pe_int (fun _ _ => rfl)) (pa_cons (pe_ix ix_list (pv 2) pe_int (fun _ _ => rfl)) pa_nil))))))
        pss_nil)
      (pss_one (ps_ret (pe_callX (S := S_WITH_ONE_NUMBER_changes T) H_WITH_ONE_NUMBER_changes (hr.mono (by decide)) (pe_ix ix_dI (pe_gc (by rfl) g_WITH_ONE_NUMBER_changes) (pv 1) (fun _ _ => rfl)) (pa_cons (pv 0) (pa_cons (pe_ix ix_list (pv 2) pe_int (fun _ _ => rfl)) pa_nil)))))), ?_⟩)
  · obtain ⟨st, x, p, as, g, rfl, _⟩ := h
    rfl
  · obtain ⟨st, x, p, as, g, rfl, he, h1, h10, hg, k⟩ := h
    refine ⟨_, rfl, rfl, _, rfl, ?_⟩
    cases x with
    | write i v =>
      obtain ⟨rfl, rfl⟩ := List.cons.inj he
      refine iteT ?_
      exact ⟨_, rfl, _, rfl, g, _, _, _, rfl, rfl, SqL.of hg, rfl, _, rfl, g, _, _, _, rfl, rfl, SqL.of hg, rfl, _, i, v, rfl, spDo_args k⟩
    | read i =>
      obtain ⟨rfl, rfl⟩ := List.cons.inj he
      refine ite2 (fun q => absurd (V.int.inj (of_decide_eq_true q)) (by decide)) fun _ => ?_
      exact ⟨_, rfl, dW, _, 2, T.d_read.f, rfl, rfl, cW, (by repeat (first | exact List.mem_cons_self .. | apply List.mem_cons_of_mem)), T.d_read.f, spDo_read T, rfl, (.inl ⟨rfl, rfl⟩), _, rfl, _, rfl, g, _, _, _, rfl, rfl, SqL.of hg, rfl, _, i, rfl, spDo_args k⟩
    | deliver i =>
      obtain ⟨rfl, rfl⟩ := List.cons.inj he
      refine ite2 (fun q => absurd (V.int.inj (of_decide_eq_true q)) (by decide)) fun _ => ?_
      exact ⟨_, rfl, dW, _, 3, T.d_deliver.f, rfl, rfl, cW, (by repeat (first | exact List.mem_cons_self .. | apply List.mem_cons_of_mem)), T.d_deliver.f, spDo_deliver T, rfl, (.inr (.inl ⟨rfl, rfl⟩)), _, rfl, _, rfl, g, _, _, _, rfl, rfl, SqL.of hg, rfl, _, i, rfl, spDo_args k⟩
    | lose i =>
      obtain ⟨rfl, rfl⟩ := List.cons.inj he
      refine ite2 (fun q => absurd (V.int.inj (of_decide_eq_true q)) (by decide)) fun _ => ?_
      exact ⟨_, rfl, dW, _, 4, T.d_lose.f, rfl, rfl, cW, (by repeat (first | exact List.mem_cons_self .. | apply List.mem_cons_of_mem)), T.d_lose.f, spDo_lose T, rfl, (.inr (.inr (.inl ⟨rfl, rfl⟩))), _, rfl, _, rfl, g, _, _, _, rfl, rfl, SqL.of hg, rfl, _, i, rfl, spDo_args k⟩
    | again i =>
      obtain ⟨rfl, rfl⟩ := List.cons.inj he
      refine ite2 (fun q => absurd (V.int.inj (of_decide_eq_true q)) (by decide)) fun _ => ?_
      exact ⟨_, rfl, dW, _, 5, T.d_again.f, rfl, rfl, cW, (by repeat (first | exact List.mem_cons_self .. | apply List.mem_cons_of_mem)), T.d_again.f, spDo_again T, rfl, (.inr (.inr (.inr (.inl ⟨rfl, rfl⟩)))), _, rfl, _, rfl, g, _, _, _, rfl, rfl, SqL.of hg, rfl, _, i, rfl, spDo_args k⟩
    | halt_ i =>
      obtain ⟨rfl, rfl⟩ := List.cons.inj he
      refine ite2 (fun q => absurd (V.int.inj (of_decide_eq_true q)) (by decide)) fun _ => ?_
      exact ⟨_, rfl, dW, _, 6, T.d_stop.f, rfl, rfl, cW, (by repeat (first | exact List.mem_cons_self .. | apply List.mem_cons_of_mem)), T.d_stop.f, spDo_stop T, rfl, (.inr (.inr (.inr (.inr (.inl ⟨rfl, rfl⟩))))), _, rfl, _, rfl, g, _, _, _, rfl, rfl, SqL.of hg, rfl, _, i, rfl, spDo_args k⟩
    | wake i =>
      obtain ⟨rfl, rfl⟩ := List.cons.inj he
      refine ite2 (fun q => absurd (V.int.inj (of_decide_eq_true q)) (by decide)) fun _ => ?_
      exact ⟨_, rfl, dW, _, 7, T.d_wake.f, rfl, rfl, cW, (by repeat (first | exact List.mem_cons_self .. | apply List.mem_cons_of_mem)), T.d_wake.f, spDo_wake T, rfl, (.inr (.inr (.inr (.inr (.inr (.inl ⟨rfl, rfl⟩)))))), _, rfl, _, rfl, g, _, _, _, rfl, rfl, SqL.of hg, rfl, _, i, rfl, spDo_args k⟩
    | quit i =>
      obtain ⟨rfl, rfl⟩ := List.cons.inj he
      refine ite2 (fun q => absurd (V.int.inj (of_decide_eq_true q)) (by decide)) fun _ => ?_
      exact ⟨_, rfl, dW, _, 8, T.d_leave.f, rfl, rfl, cW, (by repeat (first | exact List.mem_cons_self .. | apply List.mem_cons_of_mem)), T.d_leave.f, spDo_leave T, rfl, (.inr (.inr (.inr (.inr (.inr (.inr (.inl ⟨rfl, rfl⟩))))))), _, rfl, _, rfl, g, _, _, _, rfl, rfl, SqL.of hg, rfl, _, i, rfl, spDo_args k⟩
    | resend i =>
      obtain ⟨rfl, rfl⟩ := List.cons.inj he
      refine ite2 (fun q => absurd (V.int.inj (of_decide_eq_true q)) (by decide)) fun _ => ?_
      exact ⟨_, rfl, dW, _, 9, T.d_resend.f, rfl, rfl, cW, (by repeat (first | exact List.mem_cons_self .. | apply List.mem_cons_of_mem)), T.d_resend.f, spDo_resend T, rfl, (.inr (.inr (.inr (.inr (.inr (.inr (.inr (.inl ⟨rfl, rfl⟩)))))))), _, rfl, _, rfl, g, _, _, _, rfl, rfl, SqL.of hg, rfl, _, i, rfl, spDo_args k⟩
    | alone i =>
      obtain ⟨rfl, rfl⟩ := List.cons.inj he
      refine ite2 (fun q => absurd (V.int.inj (of_decide_eq_true q)) (by decide)) fun _ => ?_
      exact ⟨_, rfl, dW, _, 10, T.d_alone.f, rfl, rfl, cW, (by repeat (first | exact List.mem_cons_self .. | apply List.mem_cons_of_mem)), T.d_alone.f, spDo_alone T, rfl, (.inr (.inr (.inr (.inr (.inr (.inr (.inr (.inr (⟨rfl, rfl⟩))))))))), _, rfl, _, rfl, g, _, _, _, rfl, rfl, SqL.of hg, rfl, _, i, rfl, spDo_args k⟩
    | begin_ _ _ _ _ _ =>
      obtain ⟨rfl, rfl⟩ := List.cons.inj he
      exact absurd h1 (by decide)
    | _ =>
      obtain ⟨rfl, rfl⟩ := List.cons.inj he
      exact absurd h10 (by decide)
end
end Ea

/-! The bodies: a line. -/
namespace Ea
open PySem PySem.Spec PyProof.Rows L2
/-- a change elsewhere -/
theorem StoreAt.out {c : CA} {H H' : Hp} {st p : Addr} {L : Lay} {a : Su153.Abs} (S : StoreAt c H st L a) (k : Chg p H H') (np : NoTup H p) (hp : p ∉ foot st L) (hm : ∀ q x, MsgAt c H q x → q ≠ p) : StoreAt c H' st L a := by
  have ne : ∀ {b : Addr}, b ∈ foot st L → b ≠ p := fun hb e => hp (e ▸ hb)
  obtain ⟨ds, hs⟩ := S.obj
  refine ⟨⟨ds, k _ _ hs (ne mem_st)⟩, k _ _ S.mL (ne (by simp [foot])), k _ _ S.cL (ne (by simp [foot])), k _ _ S.gL (ne mem_gL), k _ _ S.oL (ne mem_oL), S.ml, S.cl, S.tl, S.gl, S.ol, ?_, ?_, ?_, ?_, S.mN, S.cN, S.oN, S.lN⟩
  · exact fun i q m h1 h2 => (S.mAt i q m h1 h2).keep k np (ne (mem_ms (List.mem_of_getElem? h1)))
  · exact fun i q t m h1 h2 h3 => (S.cAt i q t m h1 h2 h3).keep k np (ne (mem_cs (List.mem_of_getElem? h1))) (ne (mem_cts (List.mem_of_getElem? h2)))
  · exact fun i q m h1 h2 => (S.gAt i q m h1 h2).keep k np (hm _ _ (S.gAt i q m h1 h2))
  · exact fun i q m h1 h2 => (S.oAt i q m h1 h2).keep k (ne (mem_os (List.mem_of_getElem? h1)))
theorem msg_no_lst {c : CA} {H : Hp} {p : Addr} {xs : List V} (h : H p = some (.lst xs)) (q : Addr) (x : Su153.Msg) (m : MsgAt c H q x) : q ≠ p := by
  obtain ⟨_, _, h1, _⟩ := m
  exact ne_head h1 h (fun e => by cases e)
def tL : Option Str := some "store"
theorem d_GL : tG ≠ tL := by decide +kernel
theorem d_SL : tS ≠ tL := by decide +kernel
theorem d_ML : tM ≠ tL := by decide +kernel
theorem d_CL : tC ≠ tL := by decide +kernel
theorem d_OL : tO ≠ tL := by decide +kernel
theorem msg_no_line {c : CA} {H : Hp} {p C d : Addr} {v : V} {r : List (Str × V)} (h : H p = some (.ins C d (("store", v) :: r))) (q : Addr) (x : Su153.Msg) (m : MsgAt c H q x) : q ≠ p := by
  obtain ⟨_, _, h1, _⟩ := m
  exact ne_head h1 h d_GL
theorem StoreAt.no_line {c : CA} {H : Hp} {st p C d : Addr} {L : Lay} {a : Su153.Abs} {v : V} {r : List (Str × V)} (S : StoreAt c H st L a) (h : H p = some (.ins C d (("store", v) :: r))) : p ∉ foot st L := by
  intro z
  unfold foot at z
  simp only [List.mem_cons, List.mem_append] at z
  have nl : ∀ {b : Addr} {xs : List V}, H b = some (.lst xs) → p ≠ b := fun h2 => ne_head h h2 (fun e => by cases e)
  rcases z with e | e | e | e | e | e | e | e | e
  · obtain ⟨dx, h2⟩ := S.obj
    exact ne_head h2 h d_SL e.symm
  · exact nl S.mL e
  · exact nl S.cL e
  · exact nl S.gL e
  · exact nl S.oL e
  · obtain ⟨i, hi⟩ := List.getElem?_of_mem e
    obtain ⟨m, _, dx, tg, h2, _⟩ := S.m_of hi
    exact ne_head h2 h d_ML rfl
  · obtain ⟨i, hi⟩ := List.getElem?_of_mem e
    obtain ⟨t, m, _, _, dx, tg, h2, _⟩ := S.c_of hi
    exact ne_head h2 h d_CL rfl
  · obtain ⟨i, hi⟩ := List.getElem?_of_mem e
    obtain ⟨q, m, _, _, dx, tg, _, _, h2⟩ := S.t_of hi
    exact nl h2 rfl
  · obtain ⟨i, hi⟩ := List.getElem?_of_mem e
    obtain ⟨m, _, dx, h2⟩ := S.o_of hi
    exact ne_head h2 h d_OL rfl
section
variable {P : Program} {w : World} {K : PySem.W.Frag} {mg : Str → Option Value} {base : Heap}
/-- a line: not begun, or with its store; F: where it lies -/
def LineAt (T : Txt K mg) (H : Hp) (ln : Addr) : Option Su153.Abs → List Addr → Prop
  | none, F => F = [ln] ∧ ∃ dx, H ln = some (.ins T.c_Line.C dx [("store", .non)])
  | some a, F => ∃ st L dx, F = ln :: foot st L ∧ H ln = some (.ins T.c_Line.C dx [("store", .ref st)]) ∧ StoreAt T.ca H st L a
theorem LineAt.obj {T : Txt K mg} {H : Hp} {ln : Addr} {s : Option Su153.Abs} {F : List Addr} (h : LineAt T H ln s F) : ∃ dx v, H ln = some (.ins T.c_Line.C dx [("store", v)]) ∧ ln ∈ F := by
  cases s with
  | none =>
    obtain ⟨rfl, dx, h⟩ := h
    exact ⟨dx, _, h, List.mem_cons_self ..⟩
  | some a =>
    obtain ⟨st, L, dx, rfl, h, _⟩ := h
    exact ⟨dx, _, h, List.mem_cons_self ..⟩
theorem LineAt.same {T : Txt K mg} {H H' : Hp} {ln : Addr} {s : Option Su153.Abs} {F : List Addr} (h : LineAt T H ln s F) (k : Same H H') : LineAt T H' ln s F := by
  cases s with
  | none =>
    obtain ⟨e, dx, h⟩ := h
    exact ⟨e, dx, k _ _ h⟩
  | some a =>
    obtain ⟨st, L, dx, e, h, S⟩ := h
    exact ⟨st, L, dx, e, k _ _ h, S.same k⟩
/-- a list elsewhere changes -/
theorem LineAt.out {T : Txt K mg} {H H' : Hp} {ln p : Addr} {s : Option Su153.Abs} {F : List Addr} {xs : List V} (h : LineAt T H ln s F) (k : Chg p H H') (hp : H p = some (.lst xs)) (hn : p ∉ F) : LineAt T H' ln s F := by
  cases s with
  | none =>
    obtain ⟨rfl, dx, h⟩ := h
    exact ⟨rfl, dx, k _ _ h (ne_head h hp (fun e => by cases e))⟩
  | some a =>
    obtain ⟨st, L, dx, rfl, h, S⟩ := h
    exact ⟨st, L, dx, rfl, k _ _ h (ne_head h hp (fun e => by cases e)), S.out k (.lst hp) (fun z => hn (List.mem_cons_of_mem _ z)) (msg_no_lst hp)⟩
def spLineI (T : Txt K mg) : Sp := fun vs H Q _ => ∃ (p dx : Addr), vs = [.ref p] ∧ H p = some (.ins T.c_Line.C dx []) ∧ ∀ H', H' p = some (.ins T.c_Line.C dx [("store", .non)]) → Chg p H H' → Q .non H'
theorem ok_Line (T : Txt K mg) : FnOk P w K mg base CX0 1 T.d_Line___init__.f T.d_Line___init__.fd ["self"] (spLineI T) := by
  refine T.d_Line___init__.F.ok sc_Line___init__ (fun vs H Q E h => ?_) (fun cdv A outer s H vs Q E hr h => ⟨_, (pss_one (ps_fld (pv 0) pe_non rfl)), ?_⟩)
  · obtain ⟨p, dx, rfl, _⟩ := h
    rfl
  · obtain ⟨p, dx, rfl, hp, k⟩ := h
    refine ⟨_, rfl, p, _, dx, _, rfl, hp, T.c_Line.cl, T.c_Line.n _ (by decide +kernel), lt1000 rfl, ?_⟩
    exact k _ upd_same .upd
/-- a call on a line: its number, the list of its numbers -/
def spLine (T : Txt K mg) (x : Su153.Call) (ln : Addr) : Hp → VK → Prop := fun H Q => ∃ (s : Option Su153.Abs) (F : List Addr), LineAt T H ln s F ∧ (∀ a, s = some a → Good a ∧ a.msgs.length ≤ 1000000 ∧ a.time ≤ 1000000) ∧
  ∀ (H1 : Hp) (F' : List Addr) (q : Addr), LineAt T H1 ln (Su153.step s x).1 F' → Frm H H1 F F' → H1 q = none → Q (.ref q) (upd H1 q (.lst (ansV (Su153.step s x).2)))
def spLBegin (T : Txt K mg) : Sp := fun vs H Q _ => ∃ (ln : Addr) (n c q t on : Nat), vs = [.ref ln, .int n, .int c, .int q, .int t, .int on] ∧ spLine T (.begin_ n c q t on) ln H Q
theorem step_begin (s : Option Su153.Abs) (n c q t on : Nat) : Su153.step s (.begin_ n c q t on) = if Su153.okBegin n c q t on = false then (s, Su153.no (-22)) else (some (Su153.Abs.new n c q t (on == 1)), Su153.num 0 []) := by
  by_cases h : Su153.okBegin n c q t on = false
  · rw [if_pos h]
    cases s with
    | none =>
      show ((if (Su153.does (Su153.Abs.new 1 1 1 1 true) (.begin_ n c q t on)).2.value < 0 then none else some (Su153.does (Su153.Abs.new 1 1 1 1 true) (.begin_ n c q t on)).1, (Su153.does (Su153.Abs.new 1 1 1 1 true) (.begin_ n c q t on)).2) : Option Su153.Abs × Su153.Ans) = _
      rw [begin_bad h]
      rfl
    | some a =>
      show ((some (Su153.does a (.begin_ n c q t on)).1, (Su153.does a (.begin_ n c q t on)).2) : Option Su153.Abs × Su153.Ans) = _
      rw [begin_bad h]
  · rw [if_neg h]
    cases s with
    | none =>
      show ((if (Su153.does (Su153.Abs.new 1 1 1 1 true) (.begin_ n c q t on)).2.value < 0 then none else some (Su153.does (Su153.Abs.new 1 1 1 1 true) (.begin_ n c q t on)).1, (Su153.does (Su153.Abs.new 1 1 1 1 true) (.begin_ n c q t on)).2) : Option Su153.Abs × Su153.Ans) = _
      rw [begin_ok h]
      rfl
    | some a =>
      show ((some (Su153.does a (.begin_ n c q t on)).1, (Su153.does a (.begin_ n c q t on)).2) : Option Su153.Abs × Su153.Ans) = _
      rw [begin_ok h]
theorem okBegin_iff {n c a t on : Nat} : Su153.okBegin n c a t on = true ↔ (1 ≤ n ∧ n ≤ 5) ∧ (1 ≤ c ∧ c ≤ 4) ∧ (1 ≤ a ∧ a ≤ n) ∧ (1 ≤ t ∧ t ≤ n) ∧ on ≤ 1 := by
  unfold Su153.okBegin
  simp only [Bool.and_eq_true, decide_eq_true_eq]
  exact Iff.rfl
theorem ok_Line_begin (T : Txt K mg) : FnOk P w K mg base CX0 6 T.d_Line_begin.f T.d_Line_begin.fd ["self", "machines", "customers", "asked", "told", "on"] (spLBegin T) := by
  have G_Store___init__ := ok_Store (P := P) (w := w) (base := base) T
  refine T.d_Line_begin.F.ok sc_Line_begin (fun vs H Q E h => ?_) (fun cdv A outer s H vs Q E hr h => ⟨_, (pss_cons (ps_if (PW.pt (pw_or (pt_cmpR op_lt (pv 1) pe_int (nomark _)) (pw_or1 (pt_cmpR op_gt (pv 1) (pe_gc (by rfl) T.k_MOST_MACHINES) (nomark _)))))
        (pss_one (ps_ret (pe_lst (pa_cons (pe_gc (by rfl) T.k_NOT_AS_TOLD) pa_nil))))
        pss_nil)
      (pss_cons (ps_if (PW.pt (pw_or (pt_cmpR op_lt (pv 2) pe_int (nomark _)) (pw_or1 (pt_cmpR op_gt (pv 2) (pe_gc (by rfl) T.k_MOST_CUSTOMERS) (nomark _)))))
        (pss_one (ps_ret (pe_lst (pa_cons (pe_gc (by rfl) T.k_NOT_AS_TOLD) pa_nil))))
        pss_nil)
      (pss_cons (ps_if (PW.pt (pw_or (pt_cmpR op_lt (pv 3) pe_int (nomark _)) (pw_or (pt_cmpR op_gt (pv 3) (pv 1) (nomark _)) (pw_or (pt_cmpR op_lt (pv 4) pe_int (nomark _)) (pw_or (pt_cmpR op_gt (pv 4) (pv 1) (nomark _)) (pw_or1 (pt_cmpR op_gt (pv 5) pe_int (nomark _))))))))
        (pss_one (ps_ret (pe_lst (pa_cons (pe_gc (by rfl) T.k_NOT_AS_TOLD) pa_nil))))
        pss_nil)
      (pss_cons (ps_fld (pv 0) (pe_make (mk_of T.c_Store T.d_Store___init__) G_Store___init__ (hr.mono (by decide)) (by rfl) T.c_Store.g T.d_Store___init__.b .nil pass0 (pa_cons (pv 1) (pa_cons (pv 2) (pa_cons (pv 3) (pa_cons (pv 4) (pa_cons (pv 5) pa_nil)))))) rfl)
      (pss_one (ps_ret (pe_lst (pa_cons pe_int pa_nil)))))))), ?_⟩)
  · obtain ⟨ln, n, c, q, t, on, rfl, _⟩ := h
    rfl
  · obtain ⟨ln, n, c, q, t, on, rfl, s, F, hL, hs, k⟩ := h
    rw [step_begin] at k
    have bad : ¬ ((1 ≤ n ∧ n ≤ 5) ∧ (1 ≤ c ∧ c ≤ 4) ∧ (1 ≤ q ∧ q ≤ n) ∧ (1 ≤ t ∧ t ≤ n) ∧ on ≤ 1) → 1 ≤ sizeLine ∧ ∀ p, H p = none → Q (.ref p) (upd H p (.lst [.int (-22)])) := fun h => by
      have e : Su153.okBegin n c q t on = false := by
        cases z : Su153.okBegin n c q t on with
        | false => rfl
        | true => exact absurd (okBegin_iff.mp z) h
      rw [if_pos e] at k
      exact ⟨one_le, fun p hp => k H F p hL (.refl _ _) hp⟩
    have dt : ∀ {p : Prop} [Decidable p], decide p = true → p := fun h => of_decide_eq_true h
    refine ⟨_, rfl, _, _, rfl, rfl, _, rfl, ?_⟩
    refine ite2 (fun q1 => ?_) fun q1 => ?_
    · exact iteT (bad (by have := dt q1; omega))
    refine ⟨_, rfl, _, _, rfl, rfl, _, rfl, ?_⟩
    refine ite2 (fun q2 => ?_) fun q2 => ?_
    · exact bad (by have := dt q2; omega)
    refine ⟨_, rfl, _, _, rfl, rfl, _, rfl, ?_⟩
    refine ite2 (fun q3 => ?_) fun q3 => ?_
    · exact iteT (bad (by have := dt q3; omega))
    refine ⟨_, rfl, _, _, rfl, rfl, _, rfl, ?_⟩
    refine ite2 (fun q4 => ?_) fun q4 => ?_
    · exact bad (by have := dt q4; omega)
    refine ⟨_, rfl, _, _, rfl, rfl, _, rfl, ?_⟩
    refine ite2 (fun q5 => ?_) fun q5 => ?_
    · exact iteT (bad (by have := dt q5; omega))
    refine ⟨_, rfl, _, rfl, _, _, rfl, rfl, _, rfl, ?_⟩
    refine ite2 (fun q6 => ?_) fun q6 => ?_
    · exact iteT (bad (by have := dt q6; omega))
    refine ⟨_, rfl, _, _, rfl, rfl, _, rfl, ?_⟩
    refine ite2 (fun q7 => ?_) fun q7 => ?_
    · exact iteT (bad (by have := dt q7; omega))
    refine ⟨_, rfl, _, rfl, _, _, rfl, rfl, _, rfl, ?_⟩
    refine ite2 (fun q8 => ?_) fun q8 => ?_
    · exact iteT (bad (by have := dt q8; omega))
    refine ⟨_, rfl, _, _, rfl, rfl, _, rfl, ?_⟩
    refine ite2 (fun q9 => ?_) fun q9 => ?_
    · exact bad (by have := dt q9; omega)
    have df : ∀ {p : Prop} [Decidable p], ¬ decide p = true → ¬ p := fun h e => h (decide_eq_true e)
    have w1 := df q1
    have w2 := df q2
    have w3 := df q3
    have w4 := df q4
    have w5 := df q5
    have w6 := df q6
    have w7 := df q7
    have w8 := df q8
    have w9 := df q9
    have e : Su153.okBegin n c q t on = true := okBegin_iff.mpr (by omega)
    rw [if_neg (by rw [e]; decide)] at k
    obtain ⟨dL, v0, hln, mln⟩ := hL.obj
    refine ⟨_, rfl, _, rfl, _, rfl, _, rfl, _, rfl, fun x dx nx nd ne => ⟨x, dx, n, c, q, t, on, rfl, e, upd_same, fun H2 L S2 ft ch => ⟨rfl, ?_⟩⟩⟩
    have s2 : Same H H2 := Same.made nx nd ch
    have hln2 := s2 _ _ hln
    refine ⟨_, rfl, ln, _, dL, _, rfl, hln2, T.c_Line.cl, T.c_Line.n _ (by decide +kernel), lt1000 rfl, ?_⟩
    have S3 : StoreAt T.ca (upd H2 ln (.ins T.c_Line.C dL (putF "store" (.ref x) [("store", v0)]))) x L (Su153.Abs.new n c q t (on == 1)) := S2.out .upd (.ins hln2) (S2.no_line hln2) (msg_no_line hln2)
    refine ⟨one_le, fun p hp => k _ (ln :: foot x L) p ⟨x, L, dL, rfl, upd_same, S3⟩ ⟨fun b o e n => ?_, fun b hb => ?_⟩ hp⟩
    · rw [upd_ne (show b ≠ ln from fun z => n (z ▸ mln))]
      exact s2 _ _ e
    · rcases List.mem_cons.mp hb with rfl | hb
      · exact .inl mln
      · refine .inr ?_
        have z := ft b hb
        rcases z with rfl | z
        · exact nx
        · have n1 : b ≠ x := fun e => by rw [e, upd_same] at z; cases z
          rw [upd_ne n1] at z
          have n2 : b ≠ dx := fun e => by rw [e, upd_same] at z; cases z
          rw [upd_ne n2] at z
          exact z
end
end Ea

/-! The bodies of telling.py: what is read off. -/
namespace Ea
open PySem PySem.Spec PyProof.Rows L2
section
variable {P : Program} {w : World} {K : PySem.W.Frag} {mg : Str → Option Value} {base : Heap}
/-- a call that only tells -/
def spAsk (T : Txt K mg) (x : Su153.Call) (as : List V) : Sp := fun vs H Q _ => ∃ (st : Addr) (L : Lay) (a : Su153.Abs), vs = .ref st :: as ∧ StoreAt T.ca H st L a ∧ Good a ∧ a.msgs.length ≤ 1000000 ∧ a.time ≤ 1000000 ∧
  ∀ (H1 : Hp) (p : Addr), Same H H1 → H1 p = none → Q (.ref p) (upd H1 p (.lst (ansV (Su153.does a x).2)))
def spTold1 (T : Txt K mg) (x : Nat → Su153.Call) : Sp := fun vs H Q E => ∃ (st : V) (i : Nat), vs = [st, .int i] ∧ spAsk T (x i) [.int i] [st, .int i] H Q E
theorem line_le {n : Nat} (h : Nat.ble n 20 = true) : n ≤ sizeLine := Nat.le_trans (Nat.le_of_ble_eq_true h) (by decide)

theorem if_bl {b : Bool} {A : Nat → Prop} (h : A (Su153.bit b)) : if b = true then A 1 else A 0 := by
  cases b
  · exact h
  · exact h
theorem ok_message_told (T : Txt K mg) : FnOk P w K mg base CX0 1 T.d_message_told.f T.d_message_told.fd ["store", "place"] ((fun T : Txt K mg => spTold1 T .message) T) := by
  refine T.d_message_told.F.ok sc_message_told (fun vs H Q E h => ?_) (fun cdv A outer s H vs Q E hr h => ⟨_, (pss_cons (ps_if (pt_cmpR op_ge (pv 1) (pe_callB call_len_seq (by rfl) T.b_len PySem.boot_len (pa_cons (pe_fld (pv 0) rfl) pa_nil)) (nomark _))
        (pss_one (ps_ret (pe_lst (pa_cons (pe_gc (by rfl) T.k_NONE_SUCH) pa_nil))))
        pss_nil)
      (pss_cons (ps_set (i := 2) sc_message_told.nd rfl (Or.inl rfl) (pe_ix ix_list (pe_fld (pv 0) rfl) (pv 1) (fun _ _ => rfl)))
      (pss_one (ps_ret (pe_lst (pa_cons (pe_fld (pv 2) rfl) (pa_cons (pe_fld (pv 2) rfl) (pa_cons (pe_fld (pv 2) rfl) (pa_cons (pe_fld (pv 2) rfl) (pa_cons (pe_ix ix_tup (pe_fld (pv 2) rfl) pe_int (fun _ _ => rfl)) (pa_cons (pe_ix ix_tup (pe_fld (pv 2) rfl) pe_int (fun _ _ => rfl)) (pa_cons (pe_fld (pv 2) rfl) pa_nil)))))))))))), ?_⟩)
  · obtain ⟨_, i, rfl, st, L, a, e, S, g, hg, ht, k⟩ := h
    rfl
  · obtain ⟨_, i, rfl, st, L, a, e, S, g, hg, ht, k⟩ := h
    cases e
    obtain ⟨dS, hS⟩ := S.obj
    refine ⟨_, rfl, _, rfl, st, _, dS, _, _, rfl, hS, T.c_Store.cl, T.c_Store.n _ (by decide +kernel), rfl, _, _, rfl, .inl (SqL.of S.gL), _, _, rfl, rfl, _, rfl, ?_⟩
    rw [List.length_map, S.gl]
    refine ite2 (fun q => ?_) fun q => ?_
    · have e : a.msgs.length ≤ i := by
        have := of_decide_eq_true q
        omega
      have ed : Su153.does a (.message i) = (a, Su153.no (-2)) := if_pos e
      rw [ed] at k
      exact ⟨one_le, fun p hp => k H p (.refl _) hp⟩
    have e : ¬ a.msgs.length ≤ i := fun e => q (decide_eq_true (by omega))
    obtain ⟨x, hx⟩ := get_of_lt (Nat.lt_of_not_le e)
    obtain ⟨pq, hq, dq, tq, hq1, htq⟩ := S.g_at hx
    have ed : Su153.does a (.message i) = (a, Su153.num x.kind [x.c, x.m, x.k, x.tag.n, x.tag.c, x.v]) := by
      refine (if_neg e).trans ?_
      rw [msg_at hx]
    rw [ed] at k
    refine ⟨_, rfl, st, _, dS, _, _, rfl, hS, T.c_Store.cl, T.c_Store.n _ (by decide +kernel), rfl, _, rfl, _, _, _, _, rfl, rfl, SqL.of S.gL, atI_nat (by rw [List.getElem?_map, hq]; rfl), ?_⟩
    have R := htq
    refine ⟨_, rfl, pq, _, dq, _, _, rfl, hq1, T.c_Message.cl, T.c_Message.n _ (by decide +kernel), rfl, _, rfl, pq, _, dq, _, _, rfl, hq1, T.c_Message.cl, T.c_Message.n _ (by decide +kernel), rfl, _, rfl, pq, _, dq, _, _, rfl, hq1, T.c_Message.cl, T.c_Message.n _ (by decide +kernel), rfl, _, rfl, pq, _, dq, _, _, rfl, hq1, T.c_Message.cl, T.c_Message.n _ (by decide +kernel), rfl, _, rfl, pq, _, dq, _, _, rfl, hq1, T.c_Message.cl, T.c_Message.n _ (by decide +kernel), rfl, _, _, _, _, rfl, rfl, SqT.of htq, rfl, _, rfl, pq, _, dq, _, _, rfl, hq1, T.c_Message.cl, T.c_Message.n _ (by decide +kernel), rfl, _, _, _, _, rfl, rfl, SqT.of htq, rfl, _, rfl, pq, _, dq, _, _, rfl, hq1, T.c_Message.cl, T.c_Message.n _ (by decide +kernel), rfl, line_le rfl, fun p hp => k H p (.refl _) hp⟩
theorem ok_machine_told (T : Txt K mg) : FnOk P w K mg base CX0 1 T.d_machine_told.f T.d_machine_told.fd ["store", "number"] ((fun T : Txt K mg => spTold1 T .machine) T) := by
  refine T.d_machine_told.F.ok sc_machine_told (fun vs H Q E h => ?_) (fun cdv A outer s H vs Q E hr h => ⟨_, (pss_cons (ps_if (pt_cmpR op_ge (pv 1) (pe_callB call_len_seq (by rfl) T.b_len PySem.boot_len (pa_cons (pe_fld (pv 0) rfl) pa_nil)) (nomark _))
        (pss_one (ps_ret (pe_lst (pa_cons (pe_gc (by rfl) T.k_NONE_SUCH) pa_nil))))
        pss_nil)
      (pss_cons (ps_set (i := 2) sc_machine_told.nd rfl (Or.inl rfl) (pe_ix ix_list (pe_fld (pv 0) rfl) (pv 1) (fun _ _ => rfl)))
      (pss_one (ps_ret (pe_lst (pa_cons (pe_ifExp (pt_val (pe_fld (pv 2) rfl)) pe_int pe_int) (pa_cons (pe_ix ix_tup (pe_fld (pv 2) rfl) pe_int (fun _ _ => rfl)) (pa_cons (pe_ix ix_tup (pe_fld (pv 2) rfl) pe_int (fun _ _ => rfl)) (pa_cons (pe_fld (pv 2) rfl) pa_nil))))))))), ?_⟩)
  · obtain ⟨_, i, rfl, st, L, a, e, S, g, hg, ht, k⟩ := h
    rfl
  · obtain ⟨_, i, rfl, st, L, a, e, S, g, hg, ht, k⟩ := h
    cases e
    obtain ⟨dS, hS⟩ := S.obj
    refine ⟨_, rfl, _, rfl, st, _, dS, _, _, rfl, hS, T.c_Store.cl, T.c_Store.n _ (by decide +kernel), rfl, _, _, rfl, .inl (SqL.of S.mL), _, _, rfl, rfl, _, rfl, ?_⟩
    rw [List.length_map, S.ml]
    refine ite2 (fun q => ?_) fun q => ?_
    · have e : a.machines.length ≤ i := by
        have := of_decide_eq_true q
        omega
      have ed : Su153.does a (.machine i) = (a, Su153.no (-2)) := if_pos e
      rw [ed] at k
      exact ⟨one_le, fun p hp => k H p (.refl _) hp⟩
    have e : ¬ a.machines.length ≤ i := fun e => q (decide_eq_true (by omega))
    obtain ⟨x, hx⟩ := get_of_lt (Nat.lt_of_not_le e)
    obtain ⟨pq, hq, dq, tq, hq1, htq⟩ := S.m_at hx
    have ed : Su153.does a (.machine i) = (a, Su153.num (Su153.bit x.up) [x.tag.n, x.tag.c, x.v]) := by
      refine (if_neg e).trans ?_
      rw [machine_at hx]
    rw [ed] at k
    refine ⟨_, rfl, st, _, dS, _, _, rfl, hS, T.c_Store.cl, T.c_Store.n _ (by decide +kernel), rfl, _, rfl, _, _, _, _, rfl, rfl, SqL.of S.mL, atI_nat (by rw [List.getElem?_map, hq]; rfl), ?_⟩
    refine ⟨_, rfl, pq, _, dq, _, _, rfl, hq1, T.c_Machine.cl, T.c_Machine.n _ (by decide +kernel), rfl, _, rfl, ?_⟩
    have k2 : ∀ (p : Addr), H p = none → Q (.ref p) (upd H p (.lst [.int (Su153.bit x.up : Nat), .int x.tag.n, .int x.tag.c, .int x.v])) := fun p hp => k H p (.refl _) hp
    cases hu : x.up with
    | true =>
      rw [hu] at k2
      refine iteT ?_
      exact ⟨_, rfl, pq, _, dq, _, _, rfl, hq1, T.c_Machine.cl, T.c_Machine.n _ (by decide +kernel), rfl, _, _, _, _, rfl, rfl, SqT.of htq, rfl, _, rfl, pq, _, dq, _, _, rfl, hq1, T.c_Machine.cl, T.c_Machine.n _ (by decide +kernel), rfl, _, _, _, _, rfl, rfl, SqT.of htq, rfl, _, rfl, pq, _, dq, _, _, rfl, hq1, T.c_Machine.cl, T.c_Machine.n _ (by decide +kernel), rfl, line_le rfl, fun p hp => k2 p hp⟩
    | false =>
      rw [hu] at k2
      refine iteF ?_
      exact ⟨_, rfl, pq, _, dq, _, _, rfl, hq1, T.c_Machine.cl, T.c_Machine.n _ (by decide +kernel), rfl, _, _, _, _, rfl, rfl, SqT.of htq, rfl, _, rfl, pq, _, dq, _, _, rfl, hq1, T.c_Machine.cl, T.c_Machine.n _ (by decide +kernel), rfl, _, _, _, _, rfl, rfl, SqT.of htq, rfl, _, rfl, pq, _, dq, _, _, rfl, hq1, T.c_Machine.cl, T.c_Machine.n _ (by decide +kernel), rfl, line_le rfl, fun p hp => k2 p hp⟩
theorem ok_customer_told (T : Txt K mg) : FnOk P w K mg base CX0 1 T.d_customer_told.f T.d_customer_told.fd ["store", "number"] ((fun T : Txt K mg => spTold1 T .customer) T) := by
  refine T.d_customer_told.F.ok sc_customer_told (fun vs H Q E h => ?_) (fun cdv A outer s H vs Q E hr h => ⟨_, (pss_cons (ps_if (pt_cmpR op_ge (pv 1) (pe_callB call_len_seq (by rfl) T.b_len PySem.boot_len (pa_cons (pe_fld (pv 0) rfl) pa_nil)) (nomark _))
        (pss_one (ps_ret (pe_lst (pa_cons (pe_gc (by rfl) T.k_NONE_SUCH) pa_nil))))
        pss_nil)
      (pss_cons (ps_set (i := 2) sc_customer_told.nd rfl (Or.inl rfl) (pe_ix ix_list (pe_fld (pv 0) rfl) (pv 1) (fun _ _ => rfl)))
      (pss_one (ps_ret (pe_lst (pa_cons (pe_fld (pv 2) rfl) (pa_cons (pe_fld (pv 2) rfl) (pa_cons (pe_callB call_len_seq (by rfl) T.b_len PySem.boot_len (pa_cons (pe_fld (pv 2) rfl) pa_nil)) (pa_cons (pe_ix ix_tup (pe_fld (pv 2) rfl) pe_int (fun _ _ => rfl)) (pa_cons (pe_ix ix_tup (pe_fld (pv 2) rfl) pe_int (fun _ _ => rfl)) (pa_cons (pe_fld (pv 2) rfl) pa_nil))))))))))), ?_⟩)
  · obtain ⟨_, i, rfl, st, L, a, e, S, g, hg, ht, k⟩ := h
    rfl
  · obtain ⟨_, i, rfl, st, L, a, e, S, g, hg, ht, k⟩ := h
    cases e
    obtain ⟨dS, hS⟩ := S.obj
    refine ⟨_, rfl, _, rfl, st, _, dS, _, _, rfl, hS, T.c_Store.cl, T.c_Store.n _ (by decide +kernel), rfl, _, _, rfl, .inl (SqL.of S.cL), _, _, rfl, rfl, _, rfl, ?_⟩
    rw [List.length_map, S.cl]
    refine ite2 (fun q => ?_) fun q => ?_
    · have e : a.customers.length ≤ i := by
        have := of_decide_eq_true q
        omega
      have ed : Su153.does a (.customer i) = (a, Su153.no (-2)) := if_pos e
      rw [ed] at k
      exact ⟨one_le, fun p hp => k H p (.refl _) hp⟩
    have e : ¬ a.customers.length ≤ i := fun e => q (decide_eq_true (by omega))
    obtain ⟨x, hx⟩ := get_of_lt (Nat.lt_of_not_le e)
    obtain ⟨pq, ct, hq, hct, dq, tq, hq1, htq, hl⟩ := S.c_at hx
    have ed : Su153.does a (.customer i) = (a, Su153.num x.st [x.k, x.got.length, x.tag.n, x.tag.c, x.v]) := by
      refine (if_neg e).trans ?_
      rw [customer_at hx]
    rw [ed] at k
    refine ⟨_, rfl, st, _, dS, _, _, rfl, hS, T.c_Store.cl, T.c_Store.n _ (by decide +kernel), rfl, _, rfl, _, _, _, _, rfl, rfl, SqL.of S.cL, atI_nat (by rw [List.getElem?_map, hq]; rfl), ?_⟩
    refine ⟨_, rfl, pq, _, dq, _, _, rfl, hq1, T.c_Customer.cl, T.c_Customer.n _ (by decide +kernel), rfl, _, rfl, pq, _, dq, _, _, rfl, hq1, T.c_Customer.cl, T.c_Customer.n _ (by decide +kernel), rfl, _, rfl, pq, _, dq, _, _, rfl, hq1, T.c_Customer.cl, T.c_Customer.n _ (by decide +kernel), rfl, _, _, rfl, .inl (SqL.of hl), _, rfl, pq, _, dq, _, _, rfl, hq1, T.c_Customer.cl, T.c_Customer.n _ (by decide +kernel), rfl, _, _, _, _, rfl, rfl, SqT.of htq, rfl, _, rfl, pq, _, dq, _, _, rfl, hq1, T.c_Customer.cl, T.c_Customer.n _ (by decide +kernel), rfl, _, _, _, _, rfl, rfl, SqT.of htq, rfl, _, rfl, pq, _, dq, _, _, rfl, hq1, T.c_Customer.cl, T.c_Customer.n _ (by decide +kernel), rfl, line_le rfl, fun p hp => ?_⟩
    rw [show (natV x.got).length = x.got.length from List.length_map _]
    exact k H p (.refl _) hp
theorem ok_op_told (T : Txt K mg) : FnOk P w K mg base CX0 1 T.d_op_told.f T.d_op_told.fd ["store", "number"] ((fun T : Txt K mg => spTold1 T .op) T) := by
  refine T.d_op_told.F.ok sc_op_told (fun vs H Q E h => ?_) (fun cdv A outer s H vs Q E hr h => ⟨_, (pss_cons (ps_if (pt_cmpR op_ge (pv 1) (pe_callB call_len_seq (by rfl) T.b_len PySem.boot_len (pa_cons (pe_fld (pv 0) rfl) pa_nil)) (nomark _))
        (pss_one (ps_ret (pe_lst (pa_cons (pe_gc (by rfl) T.k_NONE_SUCH) pa_nil))))
        pss_nil)
      (pss_cons (ps_set (i := 2) sc_op_told.nd rfl (Or.inl rfl) (pe_ix ix_list (pe_fld (pv 0) rfl) (pv 1) (fun _ _ => rfl)))
      (pss_one (ps_ret (pe_lst (pa_cons (pe_ifExp (pt_val (pe_fld (pv 2) rfl)) pe_int pe_int) (pa_cons (pe_fld (pv 2) rfl) (pa_cons (pe_fld (pv 2) rfl) (pa_cons (pe_fld (pv 2) rfl) (pa_cons (pe_fld (pv 2) rfl) pa_nil)))))))))), ?_⟩)
  · obtain ⟨_, i, rfl, st, L, a, e, S, g, hg, ht, k⟩ := h
    rfl
  · obtain ⟨_, i, rfl, st, L, a, e, S, g, hg, ht, k⟩ := h
    cases e
    obtain ⟨dS, hS⟩ := S.obj
    refine ⟨_, rfl, _, rfl, st, _, dS, _, _, rfl, hS, T.c_Store.cl, T.c_Store.n _ (by decide +kernel), rfl, _, _, rfl, .inl (SqL.of S.oL), _, _, rfl, rfl, _, rfl, ?_⟩
    rw [List.length_map, S.ol]
    refine ite2 (fun q => ?_) fun q => ?_
    · have e : a.ops.length ≤ i := by
        have := of_decide_eq_true q
        omega
      have ed : Su153.does a (.op i) = (a, Su153.no (-2)) := if_pos e
      rw [ed] at k
      exact ⟨one_le, fun p hp => k H p (.refl _) hp⟩
    have e : ¬ a.ops.length ≤ i := fun e => q (decide_eq_true (by omega))
    obtain ⟨x, hx⟩ := get_of_lt (Nat.lt_of_not_le e)
    obtain ⟨pq, hq, dq, hq1⟩ := S.o_at hx
    have ed : Su153.does a (.op i) = (a, Su153.num (Su153.bit x.wr) [x.who, x.v, x.since, x.til.getD 0]) := by
      refine (if_neg e).trans ?_
      rw [op_at hx]
    rw [ed] at k
    refine ⟨_, rfl, st, _, dS, _, _, rfl, hS, T.c_Store.cl, T.c_Store.n _ (by decide +kernel), rfl, _, rfl, _, _, _, _, rfl, rfl, SqL.of S.oL, atI_nat (by rw [List.getElem?_map, hq]; rfl), ?_⟩
    refine ⟨_, rfl, pq, _, dq, _, _, rfl, hq1, T.c_Operation.cl, T.c_Operation.n _ (by decide +kernel), rfl, _, rfl, ?_⟩
    have k2 : ∀ (p : Addr), H p = none → Q (.ref p) (upd H p (.lst [.int (Su153.bit x.wr : Nat), .int x.who, .int x.v, .int x.since, .int (x.til.getD 0 : Nat)])) := fun p hp => k H p (.refl _) hp
    cases hu : x.wr with
    | true =>
      rw [hu] at k2
      refine iteT ?_
      exact ⟨_, rfl, pq, _, dq, _, _, rfl, hq1, T.c_Operation.cl, T.c_Operation.n _ (by decide +kernel), rfl, _, rfl, pq, _, dq, _, _, rfl, hq1, T.c_Operation.cl, T.c_Operation.n _ (by decide +kernel), rfl, _, rfl, pq, _, dq, _, _, rfl, hq1, T.c_Operation.cl, T.c_Operation.n _ (by decide +kernel), rfl, _, rfl, pq, _, dq, _, _, rfl, hq1, T.c_Operation.cl, T.c_Operation.n _ (by decide +kernel), rfl, line_le rfl, fun p hp => k2 p hp⟩
    | false =>
      rw [hu] at k2
      refine iteF ?_
      exact ⟨_, rfl, pq, _, dq, _, _, rfl, hq1, T.c_Operation.cl, T.c_Operation.n _ (by decide +kernel), rfl, _, rfl, pq, _, dq, _, _, rfl, hq1, T.c_Operation.cl, T.c_Operation.n _ (by decide +kernel), rfl, _, rfl, pq, _, dq, _, _, rfl, hq1, T.c_Operation.cl, T.c_Operation.n _ (by decide +kernel), rfl, _, rfl, pq, _, dq, _, _, rfl, hq1, T.c_Operation.cl, T.c_Operation.n _ (by decide +kernel), rfl, line_le rfl, fun p hp => k2 p hp⟩
theorem ok_state (T : Txt K mg) : FnOk P w K mg base CX0 1 T.d_state.f T.d_state.fd ["store"] ((fun T : Txt K mg => spAsk T .state []) T) := by
  refine T.d_state.F.ok sc_state (fun vs H Q E h => ?_) (fun cdv A outer s H vs Q E hr h => ⟨_, (pss_one (ps_ret (pe_lst (pa_cons (pe_fld (pv 0) rfl) (pa_cons (pe_callB call_len_seq (by rfl) T.b_len PySem.boot_len (pa_cons (pe_fld (pv 0) rfl) pa_nil)) (pa_cons (pe_fld (pv 0) rfl) (pa_cons (pe_fld (pv 0) rfl) (pa_cons (pe_fld (pv 0) rfl) (pa_cons (pe_callB call_len_seq (by rfl) T.b_len PySem.boot_len (pa_cons (pe_fld (pv 0) rfl) pa_nil)) (pa_cons (pe_callB call_len_seq (by rfl) T.b_len PySem.boot_len (pa_cons (pe_fld (pv 0) rfl) pa_nil)) (pa_cons (pe_callB call_len_seq (by rfl) T.b_len PySem.boot_len (pa_cons (pe_fld (pv 0) rfl) pa_nil)) pa_nil))))))))))), ?_⟩)
  · obtain ⟨st, L, a, rfl, S, g, hg, ht, k⟩ := h
    rfl
  · obtain ⟨st, L, a, rfl, S, g, hg, ht, k⟩ := h
    obtain ⟨dS, hS⟩ := S.obj
    refine ⟨_, rfl, st, _, dS, _, _, rfl, hS, T.c_Store.cl, T.c_Store.n _ (by decide +kernel), rfl, _, rfl, st, _, dS, _, _, rfl, hS, T.c_Store.cl, T.c_Store.n _ (by decide +kernel), rfl, _, _, rfl, .inl (SqL.of S.mL), _, rfl, st, _, dS, _, _, rfl, hS, T.c_Store.cl, T.c_Store.n _ (by decide +kernel), rfl, _, rfl, st, _, dS, _, _, rfl, hS, T.c_Store.cl, T.c_Store.n _ (by decide +kernel), rfl, _, rfl, st, _, dS, _, _, rfl, hS, T.c_Store.cl, T.c_Store.n _ (by decide +kernel), rfl, _, rfl, st, _, dS, _, _, rfl, hS, T.c_Store.cl, T.c_Store.n _ (by decide +kernel), rfl, _, _, rfl, .inl (SqL.of S.cL), _, rfl, st, _, dS, _, _, rfl, hS, T.c_Store.cl, T.c_Store.n _ (by decide +kernel), rfl, _, _, rfl, .inl (SqL.of S.gL), _, rfl, st, _, dS, _, _, rfl, hS, T.c_Store.cl, T.c_Store.n _ (by decide +kernel), rfl, _, _, rfl, .inl (SqL.of S.oL), line_le rfl, fun p hp => ?_⟩
    rw [List.length_map, List.length_map, List.length_map, List.length_map, S.ml, S.cl, S.gl, S.ol]
    have k2 : Q (.ref p) (upd H p (.lst [.int (a.time : Nat), .int (a.machines.length : Nat), .int (a.ask : Nat), .int (a.tell : Nat), .int (Su153.bit a.on : Nat), .int (a.customers.length : Nat), .int (a.msgs.length : Nat), .int (a.ops.length : Nat)])) := k H p (.refl _) hp
    have e : onI a.on = (Su153.bit a.on : Nat) := by cases a.on <;> rfl
    rw [e]
    exact k2
theorem ok_safe (T : Txt K mg) : FnOk P w K mg base CX0 1 T.d_safe.f T.d_safe.fd ["store"] ((fun T : Txt K mg => spAsk T .safe []) T) := by
  refine T.d_safe.F.ok sc_safe (fun vs H Q E h => ?_) (fun cdv A outer s H vs Q E hr h => ⟨_, (pss_one (ps_ret (pe_lst (pa_cons (pe_ifExp (PW.pt (pw_and (pt_cmpR op_eq (pe_fld (pv 0) rfl) pe_int (nomark _)) (pw_and1 (pt_cmpR op_gt (pe_op op_add (pe_fld (pv 0) rfl) (pe_fld (pv 0) rfl)) (pe_callB call_len_seq (by rfl) T.b_len PySem.boot_len (pa_cons (pe_fld (pv 0) rfl) pa_nil)) (nomark _))))) pe_int pe_int) pa_nil)))), ?_⟩)
  · obtain ⟨st, L, a, rfl, S, g, hg, ht, k⟩ := h
    rfl
  · obtain ⟨st, L, a, rfl, S, g, hg, ht, k⟩ := h
    obtain ⟨dS, hS⟩ := S.obj
    have k2 : ∀ (p : Addr), H p = none → Q (.ref p) (upd H p (.lst [.int (Su153.bit a.safe : Nat)])) := fun p hp => k H p (.refl _) hp
    refine ⟨_, rfl, st, _, dS, _, _, rfl, hS, T.c_Store.cl, T.c_Store.n _ (by decide +kernel), rfl, rfl, _, rfl, ?_⟩
    refine ite2 (fun q => ?_) fun q => ?_
    · have e : a.on = true := by
        have := V.int.inj (of_decide_eq_true q)
        unfold onI at this
        split at this
        · assumption
        · cases this
      refine ⟨_, rfl, st, _, dS, _, _, rfl, hS, T.c_Store.cl, T.c_Store.n _ (by decide +kernel), rfl, _, rfl, st, _, dS, _, _, rfl, hS, T.c_Store.cl, T.c_Store.n _ (by decide +kernel), rfl, _, _, rfl, rfl, _, rfl, st, _, dS, _, _, rfl, hS, T.c_Store.cl, T.c_Store.n _ (by decide +kernel), rfl, _, _, rfl, .inl (SqL.of S.mL), _, _, rfl, rfl, _, rfl, ?_⟩
      rw [List.length_map, S.ml]
      refine ite2 (fun q => ?_) fun q => ?_
      · have es : a.safe = true := by
          unfold Su153.Abs.safe Su153.Abs.n
          have := of_decide_eq_true q
          rw [e, decide_eq_true (by omega)]
          rfl
        rw [es] at k2
        exact ⟨one_le, fun p hp => k2 p hp⟩
      · have es : a.safe = false := by
          unfold Su153.Abs.safe Su153.Abs.n
          have : ¬ (a.machines.length : Int) < (a.ask : Int) + (a.tell : Int) := fun h => q (decide_eq_true h)
          rw [decide_eq_false (by omega), Bool.and_false]
        rw [es] at k2
        exact ⟨one_le, fun p hp => k2 p hp⟩
    · have e : a.on = false := by
        cases e : a.on with
        | false => rfl
        | true => exact absurd (decide_eq_true (by rw [e]; rfl)) q
      have es : a.safe = false := by
        unfold Su153.Abs.safe
        rw [e, Bool.false_and]
      rw [es] at k2
      exact ⟨one_le, fun p hp => k2 p hp⟩
end
end Ea

/-! The bodies of moments.py: what was told, who counts. -/
namespace Ea
open PySem PySem.Spec PyProof.Rows L2
theorem pickB {b : Bool} {A B : Prop} (h1 : b = true → A) (h2 : b = false → B) : if b = true then A else B := by
  cases b
  · exact h2 rfl
  · exact h1 rfl
/-- what a comprehension over the list at a wants, its own list at D -/
def LcTo (K : PySem.W.Frag) (a : Addr) (g : TG) (tt : TT) (te : TE) (vs : List Nat) (σ : L2.St) (H1 : Hp) (D : Addr) (Qd : Hp → Prop) : Prop := ∃ W : Nat → Nat → Hp → Prop, (∃ m, W 0 m (upd H1 D (.lst []))) ∧ ∀ i m H, W i m H → ((Itl K a).stop i H ∧ Qd H) ∨ ((Itl K a).go i H ∧ ∃ N : Hp → Prop, (∀ H', N H' → ∃ m', m' < m ∧ W (i + 1) m' H') ∧ ∀ x H', (Itl K a).yld i H x H' → g x (wipe σ vs) H' fun σ2 H2 => wipe σ2 vs = wipe σ vs ∧ tt σ2 H2 fun b H3 => if b = true then te σ2 H3 fun y H4 => ∃ acc, H4 D = some (.lst acc) ∧ acc.length < sizeLine ∧ N (upd H4 D (.lst (acc ++ [y]))) else N H3)
/-- a comprehension whose turns change nothing of what stands -/
theorem lc_pure {K : PySem.W.Frag} {a : Addr} {α : Type} {A : List α} {f : α → V} {p : α → Bool} {v : α → V} {g : TG} {tt : TT} {te : TE} {vs : List Nat} {σ : L2.St} {H1 : Hp} {D : Addr} {Qd : Hp → Prop} (hA : SqL K H1 a (A.map f)) (hz : A.length ≤ 1000) (hD : H1 D = none)
    (hs : ∀ x ∈ A, ∀ H, Same H1 H → ∀ (Y : V → Hp → Prop) (N : Hp → Prop), (p x = true → ∀ H2, Same H H2 → Y (v x) H2) → (p x = false → ∀ H2, Same H H2 → N H2) →
      g (f x) (wipe σ vs) H fun σ2 H2 => wipe σ2 vs = wipe σ vs ∧ tt σ2 H2 fun b H3 => if b = true then te σ2 H3 fun y H4 => Y y H4 else N H3)
    (hd : ∀ H, Same H1 H → H D = some (.lst ((A.filter p).map v)) → Qd H) :
    LcTo K a g tt te vs σ H1 D Qd := by
  refine lc_list (K := K) (a := a) (xs := A.map f) (fun i H => Same H1 H ∧ H D = some (.lst (((A.take i).filter p).map v))) ⟨same_upd hD, upd_same⟩ (fun i H _ h => h.1.seq hA) ?_ ?_
  · rintro i x H hi ⟨s1, h1⟩
    rw [List.getElem?_map] at hi
    obtain ⟨y, hy, rfl⟩ := Option.map_eq_some_iff.mp hi
    refine hs y (List.mem_of_getElem? hy) H s1 _ _ (fun hp H2 s2 => ⟨_, s2 _ _ h1, ?_, ?_, ?_⟩) (fun hp H2 s2 => ⟨s1.trans s2, ?_⟩)
    · rw [List.length_map]
      refine small1000 (Nat.le_trans (List.length_filter_le ..) ?_)
      rw [List.length_take]
      omega
    · intro b o e
      rw [upd_ne (ne_of_none e hD)]
      exact s2 _ _ (s1 _ _ e)
    · rw [upd_same, take_succ hy, List.filter_append, List.map_append, List.filter_cons_of_pos hp]
      rfl
    · rw [s2 _ _ h1, take_succ hy, List.filter_append, List.filter_cons_of_neg (by rw [hp]; exact Bool.false_ne_true)]
      rw [List.filter_nil, List.append_nil]
  · rintro H ⟨s1, h1⟩
    rw [List.length_map, List.take_length] at h1
    exact hd H s1 h1
theorem filter_yes {α : Type} (l : List α) : l.filter (fun _ => true) = l := List.filter_eq_self.mpr fun _ _ => rfl
/-- one operation told, as the program keeps it -/
def tdF (k : Nat) (o : Su149.Op) : List (Str × V) := [("number", .int k), ("writing", .bl o.wr), ("value", .int o.v), ("began", .int o.since), ("ended", .int (o.upto : Nat))]
def TdAt (C : Addr) (H : Hp) (q : Addr) (k : Nat) (o : Su149.Op) : Prop := ∃ dx, H q = some (.ins C dx (tdF k o))
theorem TdAt.same {C : Addr} {H H' : Hp} {q : Addr} {k : Nat} {o : Su149.Op} (h : TdAt C H q k o) (s : Same H H') : TdAt C H' q k o := let ⟨dx, e⟩ := h; ⟨dx, s _ _ e⟩
def rf (ad : Nat → Addr) (A : List Nat) : List V := A.map fun k => V.ref (ad k)
def TAll (C : Addr) (H : Hp) (ad : Nat → Addr) (A : List Nat) (F : Nat → Su149.Op) : Prop := ∀ k ∈ A, TdAt C H (ad k) k (F k)
theorem TAll.same {C : Addr} {H H' : Hp} {ad : Nat → Addr} {A : List Nat} {F : Nat → Su149.Op} (h : TAll C H ad A F) (s : Same H H') : TAll C H' ad A F := fun k hk => (h k hk).same s
theorem TAll.sub {C : Addr} {H : Hp} {ad : Nat → Addr} {A : List Nat} {F : Nat → Su149.Op} (h : TAll C H ad A F) {p : Nat → Bool} : TAll C H ad (A.filter p) F := fun k hk => h k (memf hk)
section
variable {P : Program} {w : World} {K : PySem.W.Frag} {mg : Str → Option Value} {base : Heap}
def spToldI (T : Txt K mg) : Sp := fun vs H Q _ => ∃ (p dx q : Addr) (k e : Nat) (o : Su153.Op), vs = [.ref p, .int k, .ref q, .int e] ∧ H p = some (.ins T.c_Told.C dx []) ∧ OpAt T.ca H q o ∧
  ∀ H', Made H H' p (.ins T.c_Told.C dx [("number", .int k), ("writing", .bl o.wr), ("value", .int o.v), ("began", .int o.since), ("ended", .int e)]) → Q .non H'
theorem ok_Told (T : Txt K mg) : FnOk P w K mg base CX0 1 T.d_Told___init__.f T.d_Told___init__.fd ["self", "number", "op", "ended"] (spToldI T) := by
  refine T.d_Told___init__.F.ok sc_Told___init__ (fun vs H Q E h => ?_) (fun cdv A outer s H vs Q E hr h => ⟨_, (pss_cons (ps_fld (pv 0) (pv 1) rfl)
      (pss_cons (ps_fld (pv 0) (pe_fld (pv 2) rfl) rfl)
      (pss_cons (ps_fld (pv 0) (pe_fld (pv 2) rfl) rfl)
      (pss_cons (ps_fld (pv 0) (pe_fld (pv 2) rfl) rfl)
      (pss_one (ps_fld (pv 0) (pv 3) rfl)))))), ?_⟩)
  · obtain ⟨p, dx, q, k, e, o, rfl, hp, ⟨dO, hq⟩, kk⟩ := h
    rfl
  · obtain ⟨p, dx, q, k, e, o, rfl, hp, ⟨dO, hq⟩, kk⟩ := h
    have n : q ≠ p := ne_head hq hp (fun e => by cases e)
    refine ⟨_, rfl, _, rfl, p, _, dx, _, rfl, hp, T.c_Told.cl, T.c_Told.n _ (by decide +kernel), lt1000 rfl, ?_⟩
    refine ⟨_, rfl, q, _, dO, _, _, rfl, (by first | exact (upd_ne n).trans hq | exact (upd_ne n).trans ((upd_ne n).trans hq) | exact (upd_ne n).trans ((upd_ne n).trans ((upd_ne n).trans hq))), T.c_Operation.cl, T.c_Operation.n _ (by decide +kernel), rfl, _, rfl, p, _, dx, _, rfl, upd_same, T.c_Told.cl, T.c_Told.n _ (by decide +kernel), lt1000 rfl, ?_⟩
    refine ⟨_, rfl, q, _, dO, _, _, rfl, (by first | exact (upd_ne n).trans hq | exact (upd_ne n).trans ((upd_ne n).trans hq) | exact (upd_ne n).trans ((upd_ne n).trans ((upd_ne n).trans hq))), T.c_Operation.cl, T.c_Operation.n _ (by decide +kernel), rfl, _, rfl, p, _, dx, _, rfl, upd_same, T.c_Told.cl, T.c_Told.n _ (by decide +kernel), lt1000 rfl, ?_⟩
    refine ⟨_, rfl, q, _, dO, _, _, rfl, (by first | exact (upd_ne n).trans hq | exact (upd_ne n).trans ((upd_ne n).trans hq) | exact (upd_ne n).trans ((upd_ne n).trans ((upd_ne n).trans hq))), T.c_Operation.cl, T.c_Operation.n _ (by decide +kernel), rfl, _, rfl, p, _, dx, _, rfl, upd_same, T.c_Told.cl, T.c_Told.n _ (by decide +kernel), lt1000 rfl, ?_⟩
    refine ⟨_, rfl, _, rfl, p, _, dx, _, rfl, upd_same, T.c_Told.cl, T.c_Told.n _ (by decide +kernel), lt1000 rfl, ?_⟩
    exact kk _ ⟨upd_same, fun b o h n => by
      rw [upd_ne n, upd_ne n, upd_ne n, upd_ne n, upd_ne n]
      exact h⟩
/-- what was told, of those of A -/
def Told (T : Txt K mg) (H : Hp) (p : Addr) (ad : Nat → Addr) (A : List Nat) (F : Nat → Su149.Op) : Prop := H p = some (.lst (rf ad A)) ∧ TAll T.c_Told.C H ad A F
theorem Told.same {T : Txt K mg} {H H' : Hp} {p : Addr} {ad : Nat → Addr} {A : List Nat} {F : Nat → Su149.Op} (h : Told T H p ad A F) (s : Same H H') : Told T H' p ad A F := ⟨s _ _ h.1, h.2.same s⟩
def spReadings (T : Txt K mg) : Sp := fun vs H Q _ => ∃ (p : Addr) (ad : Nat → Addr) (A : List Nat) (F : Nat → Su149.Op), vs = [.ref p] ∧ Told T H p ad A F ∧ A.length ≤ 20 ∧
  ∀ H' q, Same H H' → H q = none → H' q = some (.lst (rf ad (A.filter fun k => !(F k).wr))) → Q (.ref q) H'
theorem ok_readings_of (T : Txt K mg) : FnOk P w K mg base CX0 1 T.d_readings_of.f T.d_readings_of.fd ["told"] (spReadings T) := by
  refine T.d_readings_of.F.ok sc_readings_of (fun vs H Q E h => ?_) (fun cdv A outer s H vs Q E hr h => ⟨_, (pss_one (ps_ret (pe_lc (own := [("op", 1)]) (g := gName 1) (tt := (tNot (tB (tFld K (tVar 1) "writing")))) (te := (tVar 1)) (by rfl) sc_readings_of.nd (pi_list (pv 0)) (blkOk_by (own := [("op", 1)]) (N := ["told", "op"]) (sc := defScope s_readings_of) (by decide +kernel)) (fun _ _ _ _ _ => by exact pg_name (i := 1) sc_readings_of.nd rfl (Or.inl rfl)) (fun _ _ _ _ _ => by exact (pts_one (pt_not (pt_val (pe_fld (pv 1) rfl))))) (fun _ _ _ _ _ => by exact (pv 1))))), ?_⟩)
  · obtain ⟨p, ad, A, F, rfl, ⟨h1, h2⟩, hl, k⟩ := h
    rfl
  · obtain ⟨p, ad, A, F, rfl, ⟨h1, h2⟩, hl, k⟩ := h
    refine ⟨_, rfl, _, rfl, ⟨_, SqL.of h1⟩, fun D hD => lc_pure (p := fun k => !(F k).wr) (v := fun k => V.ref (ad k)) (SqL.of h1) (by omega) hD ?_ fun H' s hq => k H' D s hD hq⟩
    intro x hx H1 s Y N hy hn
    obtain ⟨dx, e⟩ := (h2 x hx).same s
    refine ⟨rfl, _, rfl, ad x, _, dx, _, _, rfl, e, T.c_Told.cl, T.c_Told.n _ (by decide +kernel), rfl, _, rfl, ?_⟩
    exact pickB (fun q => ⟨_, rfl, hy q _ (.refl _)⟩) (fun q => hn q _ (.refl _))
theorem cnt_is {S : List Nat} {F : Nat → Su149.Op} (h : Hist S F) {k : Nat} (hk : k ∈ S) : cntD S F k = (decide (((F k).upto : Int) < 1000001) || inV (.int ((F k).v : Int)) (natV ((S.filter fun j => !(F j).wr).map fun j => (F j).v))) := by
  unfold cntD
  have e1 : (F k).til.isSome = decide (((F k).upto : Int) < 1000001) := by
    have := (h.upto hk).2.2
    cases e : (F k).til.isSome with
    | true => exact (decide_eq_true (by have := this.mpr e; omega)).symm
    | false => exact (decide_eq_false fun q => by rw [this.mp (by omega)] at e; cases e).symm
  have e2 : (S.any fun j => !(F j).wr && (F j).v == (F k).v) = inV (.int ((F k).v : Int)) (natV ((S.filter fun j => !(F j).wr).map fun j => (F j).v)) := by
    rw [inV_nat, Bool.eq_iff_iff, List.any_eq_true, List.contains_iff_mem, List.mem_map]
    constructor
    · rintro ⟨j, hj, q⟩
      rw [Bool.and_eq_true, beq_iff_eq] at q
      exact ⟨j, List.mem_filter.mpr ⟨hj, q.1⟩, q.2⟩
    · rintro ⟨j, hj, q⟩
      obtain ⟨h1, h2⟩ := List.mem_filter.mp hj
      exact ⟨j, h1, by rw [h2, q]; simp⟩
  rw [e1, e2]
def spCounts (T : Txt K mg) : Sp := fun vs H Q _ => ∃ (p : Addr) (ad : Nat → Addr) (S : List Nat) (F : Nat → Su149.Op), vs = [.ref p] ∧ Told T H p ad S F ∧ Hist S F ∧
  ∀ H' q, Same H H' → H q = none → H' q = some (.lst (rf ad (cntL S F))) → Q (.ref q) H'
theorem ok_who_counts (T : Txt K mg) : FnOk P w K mg base CX0 2 T.d_who_counts.f T.d_who_counts.fd ["told"] (spCounts T) := by
  have G_readings_of := ok_readings_of (P := P) (w := w) (base := base) T
  refine T.d_who_counts.F.ok sc_who_counts (fun vs H Q E h => ?_) (fun cdv A outer s H vs Q E hr h => ⟨_, (pss_cons (ps_set (i := 1) sc_who_counts.nd rfl (Or.inr rfl) (pe_lc (own := [("op", 2)]) (g := gName 2) (te := (tFld K (tVar 2) "value")) (by rfl) sc_who_counts.nd (pi_list (pe_call G_readings_of (hr.mono (by decide)) (by rfl) T.d_readings_of.g T.d_readings_of.F.kp T.d_readings_of.b .nil pass0 (pa_cons (pv 0) pa_nil))) (blkOk_by (own := [("op", 2)]) (N := ["told", "read_of", "op"]) (sc := defScope s_who_counts) (by decide +kernel)) (fun _ _ _ _ _ => by exact pg_name (i := 2) sc_who_counts.nd rfl (Or.inl rfl)) (fun _ _ _ _ _ => by exact pts_nil) (fun _ _ _ _ _ => by exact (pe_fld (pv 2) rfl))))
      (pss_one (ps_ret (pe_lc (own := [("op", 2)]) (g := gName 2) (tt := (tOr (tTest (tOp (rI0 fun i j => .bl (decide (i < j))) (tFld K (tVar 2) "ended") (L2.tC (.int (1000001))))) (tTest (tOp (rIn K false) (tFld K (tVar 2) "value") (tVar 1))))) (te := (tVar 2)) (by rfl) sc_who_counts.nd (pi_list (pv 0)) (blkOk_by (own := [("op", 2)]) (N := ["told", "read_of", "op"]) (sc := defScope s_who_counts) (by decide +kernel)) (fun _ _ _ _ _ => by exact pg_name (i := 2) sc_who_counts.nd rfl (Or.inl rfl)) (fun _ _ _ _ _ => by exact (pts_one (PW.pt (pw_or (pt_cmpR op_lt (pe_fld (pv 2) rfl) (pe_gc (by rfl) T.k_OPEN_END) (nomark _)) (pw_or1 (pt_cmpR op_in_seq (pe_fld (pv 2) rfl) (pv 1) (by rfl))))))) (fun _ _ _ _ _ => by exact (pv 2)))))), ?_⟩)
  · obtain ⟨p, ad, S, F, rfl, hT, hh, k⟩ := h
    rfl
  · obtain ⟨p, ad, S, F, rfl, hT, hh, k⟩ := h
    refine ⟨_, rfl, p, ad, S, F, rfl, hT, hh.len, fun H1 q s1 nq hq => ?_⟩
    refine ⟨_, rfl, ⟨_, SqL.of hq⟩, fun D hD => lc_pure (A := S.filter fun j => !(F j).wr) (p := fun _ => true) (v := fun k => V.int ((F k).v : Int)) (SqL.of hq) (Nat.le_trans hh.sub.len (by decide)) hD ?_ ?_⟩
    · intro x hx H2 s2 Y N hy hn
      obtain ⟨dx, e⟩ := (hT.2.sub x hx).same (s1.trans s2)
      exact ⟨rfl, _, rfl, ad x, _, dx, _, _, rfl, e, T.c_Told.cl, T.c_Told.n _ (by decide +kernel), rfl, hy rfl _ (.refl _)⟩
    · intro H2 s2 hD2
      rw [filter_yes] at hD2
      have s3 := s1.trans s2
      obtain ⟨h1, h2⟩ := hT.same s3
      have hD3 : H2 D = some (.lst (natV ((S.filter fun j => !(F j).wr).map fun j => (F j).v))) := by
        rw [hD2]
        unfold natV
        rw [List.map_map]
        rfl
      refine ⟨_, rfl, _, rfl, ⟨_, SqL.of h1⟩, fun D' hD' => lc_pure (p := cntD S F) (v := fun k => V.ref (ad k)) (SqL.of h1) (Nat.le_trans hh.len (by decide)) hD' ?_ fun H' s hq => k H' D' (s3.trans s) (Same.free s3 hD') hq⟩
      intro x hx H3 s4 Y N hy hn
      obtain ⟨dx, e⟩ := (h2 x hx).same s4
      have ec := cnt_is hh hx
      obtain ⟨b, hb⟩ : ∃ b, b = decide (((F x).upto : Int) < 1000001) := ⟨_, rfl⟩
      rw [← hb] at ec
      refine ⟨rfl, _, rfl, ad x, _, dx, _, _, rfl, e, T.c_Told.cl, T.c_Told.n _ (by decide +kernel), rfl, _, _, rfl, rfl, b, congrArg V.bl hb.symm, ?_⟩
      cases b with
      | true => exact ⟨_, rfl, hy ec _ (.refl _)⟩
      | false =>
        rw [Bool.false_or] at ec
        refine ⟨_, rfl, ad x, _, dx, _, _, rfl, e, T.c_Told.cl, T.c_Told.n _ (by decide +kernel), rfl, _, rfl, _, _, rfl, .inl (SqL.of (s4 _ _ hD3)), rfl, flat_nat _, _, rfl, ?_⟩
        exact pickB (fun q => ⟨_, rfl, hy (ec.trans q) _ (.refl _)⟩) (fun q => hn (ec.trans q) _ (.refl _))
def spAhead (T : Txt K mg) : Sp := fun vs H Q _ => ∃ (p q dp dq : Addr) (fp fq : List (Str × V)) (i j : Int), vs = [.ref p, .ref q] ∧ H p = some (.ins T.c_Value.C dp fp) ∧ H q = some (.ins T.c_Value.C dq fq) ∧ fp.lookup ("first_end" : Str) = some (V.int i) ∧ fq.lookup ("last_beginning" : Str) = some (V.int j) ∧ Q (.bl (decide (i < j))) H
theorem ok_comes_ahead (T : Txt K mg) : FnOk P w K mg base CX0 1 T.d_comes_ahead.f T.d_comes_ahead.fd ["value", "other"] (spAhead T) := by
  refine T.d_comes_ahead.F.ok sc_comes_ahead (fun vs H Q E h => ?_) (fun cdv A outer s H vs Q E hr h => ⟨_, (pss_one (ps_ret (pe_cmpR op_lt (pe_fld (pv 0) rfl) (pe_fld (pv 1) rfl) (nomark _)))), ?_⟩)
  · obtain ⟨p, q, dp, dq, fp, fq, i, j, rfl, hp, hq, e1, e2, k⟩ := h
    rfl
  · obtain ⟨p, q, dp, dq, fp, fq, i, j, rfl, hp, hq, e1, e2, k⟩ := h
    exact ⟨_, rfl, p, _, dp, _, _, rfl, hp, T.c_Value.cl, T.c_Value.n _ (by decide +kernel), e1, _, rfl, q, _, dq, _, _, rfl, hq, T.c_Value.cl, T.c_Value.n _ (by decide +kernel), e2, _, _, rfl, rfl, k⟩
end
end Ea

/-! The bodies of moments.py: what is known at a time; one value. -/
namespace Ea
open PySem PySem.Spec PyProof.Rows L2
def ppD (a : Su153.Abs) (t k : Nat) : Bool := (decide ((opD a k).since ≤ t) && ((opD a k).wr || decide ((opD a k).upto ≤ t))) && ((a.op k).wr || (a.op k).til.isSome)
theorem cutS_range (a : Su153.Abs) (t : Nat) : cutS a.shown (opD a) t = (List.range a.ops.length).filter (ppD a t) := by
  unfold cutS Su153.Abs.shown
  rw [List.filter_filter]
  rfl
theorem pp_1 {a : Su153.Abs} {t i e : Nat} {o : Su153.Op} (g : Good a) (ho : a.ops[i]? = some o) (he : o.til = some e) (h : e ≤ t) : ppD a t i = true ∧ cutF (opD a) t i = ⟨o.wr, o.v, o.since, o.til⟩ := by
  have eo := op_at ho
  have s := ((g.op i o ho).til e he).1
  have eu : (opD a i).upto = e := upto_some (by rw [opD_eq eo]; exact he)
  constructor
  · unfold ppD
    rw [eu, opD_eq eo, eo, he]
    have h1 : o.since ≤ t := by omega
    simp [h, h1]
  · unfold cutF
    rw [eu, if_pos h, opD_eq eo]
theorem pp_2 {a : Su153.Abs} {t i : Nat} {o : Su153.Op} (h6 : t ≤ 1000000) (ho : a.ops[i]? = some o) (hn : ∀ e, o.til = some e → ¬ e ≤ t) (hw : o.wr = true) (h : o.since ≤ t) : ppD a t i = true ∧ cutF (opD a) t i = ⟨o.wr, o.v, o.since, none⟩ := by
  have eo := op_at ho
  constructor
  · unfold ppD
    rw [opD_eq eo, eo, hw]
    simp [h]
  · unfold cutF
    have : ¬ (opD a i).upto ≤ t := by
      cases he : o.til with
      | none =>
        rw [upto_none (by rw [opD_eq eo]; exact he)]
        omega
      | some e =>
        rw [upto_some (t := e) (by rw [opD_eq eo]; exact he)]
        exact hn e he
    rw [if_neg this, opD_eq eo]
theorem pp_3 {a : Su153.Abs} {t i : Nat} {o : Su153.Op} (h6 : t ≤ 1000000) (ho : a.ops[i]? = some o) (hn : ∀ e, o.til = some e → ¬ e ≤ t) (h : ¬ (o.wr = true ∧ o.since ≤ t)) : ppD a t i = false := by
  have eo := op_at ho
  have hu : decide ((opD a i).upto ≤ t) = false := by
    refine decide_eq_false ?_
    cases he : o.til with
    | none =>
      rw [upto_none (by rw [opD_eq eo]; exact he)]
      omega
    | some e =>
      rw [upto_some (t := e) (by rw [opD_eq eo]; exact he)]
      exact hn e he
  unfold ppD
  rw [hu, opD_eq eo, Bool.or_false]
  cases hw : o.wr with
  | false => simp
  | true =>
    have : ¬ o.since ≤ t := fun z => h ⟨hw, z⟩
    simp [this]
/-- one more is told -/
theorem Told.snoc {K : PySem.W.Frag} {mg : Str → Option Value} {T : Txt K mg} {H H2 : Hp} {tl x : Addr} {ad : Nat → Addr} {i : Nat} {p : Nat → Bool} {F : Nat → Su149.Op} (h : Told T H tl ad ((List.range i).filter p) F) (s : Same H H2) (hp : p i = true) (hx : TdAt T.c_Told.C H2 x i (F i)) :
    Told T (upd H2 tl (.lst (rf ad ((List.range i).filter p) ++ [V.ref x]))) tl (fun k => if k = i then x else ad k) ((List.range (i + 1)).filter p) F := by
  have e : (List.range (i + 1)).filter p = (List.range i).filter p ++ [i] := by
    rw [List.range_succ, List.filter_append, List.filter_cons_of_pos hp, List.filter_nil]
  have lt : ∀ k ∈ (List.range i).filter p, k ≠ i := fun k hk => Nat.ne_of_lt (List.mem_range.mp (memf hk))
  have hl := s _ _ h.1
  refine ⟨?_, fun k hk => ?_⟩
  · rw [upd_same, e]
    unfold rf
    rw [List.map_append]
    congr 2
    congr 1
    · exact List.map_congr_left fun k hk => by
        dsimp only
        rw [if_neg (lt k hk)]
    · show _ = [V.ref (if i = i then x else ad i)]
      rw [if_pos rfl]
  · rw [e] at hk
    have go : ∀ {q : Addr} {k : Nat}, TdAt T.c_Told.C H2 q k (F k) → TdAt T.c_Told.C (upd H2 tl (.lst (rf ad ((List.range i).filter p) ++ [V.ref x]))) q k (F k) := fun ⟨dx, z⟩ => ⟨dx, by
      rw [upd_ne (ne_head z hl (fun e => by cases e))]
      exact z⟩
    rcases List.mem_append.mp hk with hk | hk
    · dsimp only
      rw [if_neg (lt k hk)]
      exact go ((h.2 k hk).same s)
    · rw [List.mem_singleton.mp hk]
      dsimp only
      rw [if_pos rfl]
      exact go hx
theorem Told.skip {K : PySem.W.Frag} {mg : Str → Option Value} {T : Txt K mg} {H : Hp} {tl : Addr} {ad : Nat → Addr} {i : Nat} {p : Nat → Bool} {F : Nat → Su149.Op} (h : Told T H tl ad ((List.range i).filter p) F) (hp : p i = false) : Told T H tl ad ((List.range (i + 1)).filter p) F := by
  have e : (List.range (i + 1)).filter p = (List.range i).filter p := by
    rw [List.range_succ, List.filter_append, List.filter_cons_of_neg (by rw [hp]; exact Bool.false_ne_true), List.filter_nil, List.append_nil]
  rw [e]
  exact h
section
variable {P : Program} {w : World} {K : PySem.W.Frag} {mg : Str → Option Value} {base : Heap}
def spToldBy (T : Txt K mg) : Sp := fun vs H Q _ => ∃ (st : Addr) (L : Lay) (a : Su153.Abs) (t : Nat), vs = [.ref L.oL, .int t] ∧ StoreAt T.ca H st L a ∧ Good a ∧ t ≤ 1000000 ∧
  ∀ (H' : Hp) (p : Addr) (ad : Nat → Addr), Same H H' → H p = none → Told T H' p ad (cutS a.shown (opD a) t) (cutF (opD a) t) → Q (.ref p) H'
theorem ok_told_by (T : Txt K mg) : FnOk P w K mg base CX0 3 T.d_told_by.f T.d_told_by.fd ["ops", "time"] (spToldBy T) := by
  have G_Told___init__ := ok_Told (P := P) (w := w) (base := base) T
  refine T.d_told_by.F.ok sc_told_by (fun vs H Q E h => ?_) (fun cdv A outer s H vs Q E hr h => ⟨_, (pss_cons (ps_set (i := 2) sc_told_by.nd rfl (Or.inl rfl) (pe_lst pa_nil))
      (pss_cons (ps_for PassesOwn.never rfl (pi_enum (by rfl) T.b_enumerate (pa_cons (pv 0) pa_nil)) (pg_tup rfl (pgs_cons (pg_name (i := 3) sc_told_by.nd rfl (Or.inl rfl)) (pgs_cons (pg_name (i := 4) sc_told_by.nd rfl (Or.inl rfl)) pgs_nil)))
        (pss_one (ps_if (PW.pt (pw_and (pt_cmpR op_gt (pe_fld (pv 4) rfl) pe_int (nomark _)) (pw_and1 (pt_cmpR op_le (pe_fld (pv 4) rfl) (pv 1) (nomark _)))))
          (pss_one (ps_expr (pe_bm PySem.F.plainAttrs_list PySem.F.slot_list_append PySem.F.type_list_append mt_append (pv 2) (pa_cons (pe_make (mk_of T.c_Told T.d_Told___init__) G_Told___init__ (hr.mono (by decide)) (by rfl) T.c_Told.g T.d_Told___init__.b .nil pass0 (pa_cons (pv 3) (pa_cons (pv 4) (pa_cons (pe_fld (pv 4) rfl) pa_nil)))) pa_nil))))
          (pss_one (ps_if (PW.pt (pw_and (pt_val (pe_fld (pv 4) rfl)) (pw_and1 (pt_cmpR op_le (pe_fld (pv 4) rfl) (pv 1) (nomark _)))))
            (pss_one (ps_expr (pe_bm PySem.F.plainAttrs_list PySem.F.slot_list_append PySem.F.type_list_append mt_append (pv 2) (pa_cons (pe_make (mk_of T.c_Told T.d_Told___init__) G_Told___init__ (hr.mono (by decide)) (by rfl) T.c_Told.g T.d_Told___init__.b .nil pass0 (pa_cons (pv 3) (pa_cons (pv 4) (pa_cons (pe_gc (by rfl) T.k_OPEN_END) pa_nil)))) pa_nil))))
            pss_nil)))))
      (pss_one (ps_ret (pv 2))))), ?_⟩)
  · obtain ⟨st, L, a, t, rfl, S, g, h6, k⟩ := h
    rfl
  · obtain ⟨st, L, a, t, rfl, S, g, h6, k⟩ := h
    rw [cutS_range] at k
    refine ⟨Nat.zero_le _, fun tl htl => ?_⟩
    have ntl : H tl = none := htl
    have s0 : Same H (upd H tl (.lst [])) := same_upd htl
    refine ⟨_, rfl, L.oL, _, rfl, SqL.of (s0 _ _ S.oL), for_it (walk_enum (K := K) (a := L.oL) (xs := L.os.map V.ref)) (fun i σ H' => ∃ (v3 v4 : Option V) (ad : Nat → Addr), σ = [some (.ref L.oL), some (.int t), some (.ref tl), v3, v4] ∧ Same H H' ∧ Told T H' tl ad ((List.range i).filter (ppD a t)) (cutF (opD a) t)) ⟨none, none, fun _ => tl, rfl, s0, upd_same, fun k hk => by cases hk⟩ (fun i σ H' _ ⟨_, _, _, _, s, _⟩ => s.seq (SqL.of S.oL)) ?_ ?_⟩
    · rintro i x σ H1 H2 hi ⟨v3, v4, ad, rfl, s1, hT⟩ ⟨tp, u, v, rfl, htp, rfl, hu, hv⟩
      rw [List.length_map, S.ol] at hi
      obtain ⟨o, ho⟩ := get_of_lt hi
      obtain ⟨po, hpo, dO, hO⟩ := S.o_at ho
      have hv : (L.os.map V.ref)[i]? = some v := hv
      rw [List.getElem?_map, hpo] at hv
      cases hv
      cases hu
      have g20 := g.ops
      have s2 : Same H1 (upd H1 tp (.tup [V.int i, V.ref po])) := same_upd htp
      have hO2 := s2 _ _ (s1 _ _ hO)
      have hl := s2 _ _ hT.1
      refine ⟨tp, _, rfl, SqT.of upd_same, rfl, _, _, rfl, _, _, rfl, rfl, ?_⟩
      generalize upd H1 tp (.tup [V.int i, V.ref po]) = H2 at s2 hO2 hl ⊢
      by_cases c1 : ∃ e, o.til = some e ∧ e ≤ t
      · obtain ⟨e, he, het⟩ := c1
        have eo := pp_1 g ho he het
        have b := (g.op i o ho).til e he
        have b1 := (g.op i o ho).s1
        refine ⟨_, rfl, po, _, dO, _, _, rfl, hO2, T.c_Operation.cl, T.c_Operation.n _ (by decide +kernel), rfl, _, _, rfl, rfl, _, rfl, ?_⟩
        refine ite2 (fun q => ?_) fun q => absurd (decide_eq_true (by rw [he]; show (0 : Int) < (e : Int); omega)) q
        refine ⟨_, rfl, po, _, dO, _, _, rfl, hO2, T.c_Operation.cl, T.c_Operation.n _ (by decide +kernel), rfl, _, rfl, _, _, rfl, rfl, _, rfl, ?_⟩
        refine ite2 (fun q => ?_) fun q => absurd (decide_eq_true (by rw [he]; show (e : Int) ≤ (t : Int); omega)) q
        refine ⟨_, rfl, .inl ⟨rfl, _, SqL.of hl⟩, _, rfl, _, rfl, _, rfl, po, _, dO, _, _, rfl, hO2, T.c_Operation.cl, T.c_Operation.n _ (by decide +kernel), rfl, fun x dx nx nd ne => ⟨x, dx, po, i, o.til.getD 0, o, rfl, upd_same, ⟨dO, by rw [upd_ne (ne_of_none hO2 nx), upd_ne (ne_of_none hO2 nd)]; exact hO2⟩, fun H3 M => ⟨rfl, ?_⟩⟩⟩
        have s3 := same_make nx nd M
        have hl3 := s3 _ _ hl
        refine ⟨_, _, _, rfl, rfl, hl3, ?_, ?_⟩
        · unfold rf
          rw [List.length_map]
          exact small1000 (Nat.le_trans (List.length_filter_le ..) (by rw [List.length_range]; omega))
        · refine ⟨_, _, _, rfl, ?_, (hT.same s2).snoc s3 eo.1 ⟨dx, ?_⟩⟩
          · intro b u e
            rw [upd_ne (ne_of_none e ntl)]
            exact s3 _ _ (s2 _ _ (s1 _ _ e))
          · rw [eo.2, tdF, upto_some (t := e) he, ← show o.til.getD 0 = e from by rw [he]; rfl]
            exact M.1
      have hn : ∀ e, o.til = some e → ¬ e ≤ t := fun e he h => c1 ⟨e, he, h⟩
      have c1b : ¬ ((0 : Int) < (o.til.getD 0 : Nat) ∧ ((o.til.getD 0 : Nat) : Int) ≤ (t : Int)) := by
        rintro ⟨h1, h2⟩
        cases he : o.til with
        | none =>
          rw [he] at h1
          exact absurd h1 (by decide)
        | some e =>
          rw [he] at h2
          exact hn e he (by have h2 : (e : Int) ≤ (t : Int) := h2; omega)
      have c2 : o.wr = true ∧ o.since ≤ t ∨ ¬ (o.wr = true ∧ o.since ≤ t) := Classical.em _
      refine ⟨_, rfl, po, _, dO, _, _, rfl, hO2, T.c_Operation.cl, T.c_Operation.n _ (by decide +kernel), rfl, _, _, rfl, rfl, _, rfl, ?_⟩
      refine ite2 (fun q => ⟨_, rfl, po, _, dO, _, _, rfl, hO2, T.c_Operation.cl, T.c_Operation.n _ (by decide +kernel), rfl, _, rfl, _, _, rfl, rfl, _, rfl, ite2 (fun q2 => absurd ⟨of_decide_eq_true q, of_decide_eq_true q2⟩ c1b) fun q2 => ?_⟩) fun q => ?_
      all_goals
        refine ⟨_, rfl, po, _, dO, _, _, rfl, hO2, T.c_Operation.cl, T.c_Operation.n _ (by decide +kernel), rfl, _, rfl, ?_⟩
        rcases c2 with ⟨hw, hs⟩ | c2
        · have eo := pp_2 h6 ho hn hw hs
          refine ite2 (fun q => ?_) fun q => absurd hw q
          refine ⟨_, rfl, po, _, dO, _, _, rfl, hO2, T.c_Operation.cl, T.c_Operation.n _ (by decide +kernel), rfl, _, rfl, _, _, rfl, rfl, _, rfl, ?_⟩
          refine ite2 (fun q => ?_) fun q => absurd (decide_eq_true (by show (o.since : Int) ≤ (t : Int); omega)) q
          refine ⟨_, rfl, .inl ⟨rfl, _, SqL.of hl⟩, _, rfl, _, rfl, fun x dx nx nd ne => ⟨x, dx, po, i, 1000001, o, rfl, upd_same, ⟨dO, by rw [upd_ne (ne_of_none hO2 nx), upd_ne (ne_of_none hO2 nd)]; exact hO2⟩, fun H3 M => ⟨rfl, ?_⟩⟩⟩
          have s3 := same_make nx nd M
          have hl3 := s3 _ _ hl
          refine ⟨_, _, _, rfl, rfl, hl3, ?_, ?_⟩
          · unfold rf
            rw [List.length_map]
            exact small1000 (Nat.le_trans (List.length_filter_le ..) (by rw [List.length_range]; omega))
          · refine ⟨_, _, _, rfl, ?_, (hT.same s2).snoc s3 eo.1 ⟨dx, ?_⟩⟩
            · intro b u e
              rw [upd_ne (ne_of_none e ntl)]
              exact s3 _ _ (s2 _ _ (s1 _ _ e))
            · rw [eo.2, tdF, upto_none (o := ⟨o.wr, o.v, o.since, none⟩) rfl]
              exact M.1
        · have eo := pp_3 h6 ho hn c2
          have fin : ∀ W : L2.St → Hp → Prop, True := fun _ => trivial
          refine ite2 (fun q => ?_) fun q => ⟨_, _, _, rfl, s1.trans s2, (hT.same s2).skip eo⟩
          refine ⟨_, rfl, po, _, dO, _, _, rfl, hO2, T.c_Operation.cl, T.c_Operation.n _ (by decide +kernel), rfl, _, rfl, _, _, rfl, rfl, _, rfl, ?_⟩
          refine ite2 (fun q2 => absurd ⟨q, by have : (o.since : Int) ≤ (t : Int) := of_decide_eq_true q2; omega⟩ c2) fun q2 => ⟨_, _, _, rfl, s1.trans s2, (hT.same s2).skip eo⟩
    · rintro σ H1 ⟨v3, v4, ad, rfl, s1, hT⟩
      rw [List.length_map, S.ol] at hT
      exact ⟨_, rfl, k H1 tl ad s1 htl hT⟩
end
end Ea

/-! The bodies of moments.py: the values that there are. -/
namespace Ea
open PySem PySem.Spec PyProof.Rows L2
theorem Told.chg {K : PySem.W.Frag} {mg : Str → Option Value} {T : Txt K mg} {H H' : Hp} {p l C d : Addr} {fs : List (Str × V)} {ad : Nat → Addr} {A : List Nat} {F : Nat → Su149.Op} (h : Told T H l ad A F) (hp : H p = some (.ins C d fs)) (hd : head (.ins C d fs) ≠ some "number") (k : Chg p H H') : Told T H' l ad A F := by
  refine ⟨k _ _ h.1 fun e => ?_, fun j hj => ?_⟩
  · have := h.1
    rw [e, hp] at this
    cases this
  · obtain ⟨dx, e⟩ := h.2 j hj
    exact ⟨dx, k _ _ e (ne_head e hp hd.symm)⟩
def vF (S : List Nat) (F : Nat → Su149.Op) (v : Nat) (l : Addr) : List (Str × V) := [("value", .int v), ("ops", .ref l), ("first_end", .int (firstD S F v : Nat)), ("last_beginning", .int (lastD S F v : Nat))]
section
variable {P : Program} {w : World} {K : PySem.W.Frag} {mg : Str → Option Value} {base : Heap}
def ValAt (T : Txt K mg) (H : Hp) (q : Addr) (ad : Nat → Addr) (S : List Nat) (F : Nat → Su149.Op) (v : Nat) : Prop := ∃ dx l, H q = some (.ins T.c_Value.C dx (vF S F v l)) ∧ H l = some (.lst (rf ad (ofD S F v)))
theorem ValAt.same {T : Txt K mg} {H H' : Hp} {q : Addr} {ad : Nat → Addr} {S : List Nat} {F : Nat → Su149.Op} {v : Nat} (h : ValAt T H q ad S F v) (s : Same H H') : ValAt T H' q ad S F v := let ⟨dx, l, e1, e2⟩ := h; ⟨dx, l, s _ _ e1, s _ _ e2⟩
theorem nat_mem {A : List Nat} {f : Nat → Nat} {m : Int} (h : m ∈ A.map fun k => ((f k : Nat) : Int)) : ∃ k ∈ A, m = (f k : Int) := by
  obtain ⟨k, hk, e⟩ := List.mem_map.mp h
  exact ⟨k, hk, e.symm⟩
def spValI (T : Txt K mg) : Sp := fun vs H Q _ => ∃ (p dx l : Addr) (ad : Nat → Addr) (S : List Nat) (F : Nat → Su149.Op) (v : Nat), vs = [.ref p, .int v, .ref l] ∧ H p = some (.ins T.c_Value.C dx []) ∧ Told T H l ad (ofD S F v) F ∧ Hist S F ∧ v ∈ valuesD S F ∧
  ∀ H', H' p = some (.ins T.c_Value.C dx (vF S F v l)) → Chg p H H' → Q .non H'
theorem ok_Value (T : Txt K mg) : FnOk P w K mg base CX0 1 T.d_Value___init__.f T.d_Value___init__.fd ["self", "value", "ops"] (spValI T) := by
  refine T.d_Value___init__.F.ok sc_Value___init__ (fun vs H Q E h => ?_) (fun cdv A outer s H vs Q E hr h => ⟨_, (pss_cons (ps_fld (pv 0) (pv 1) rfl)
      (pss_cons (ps_fld (pv 0) (pv 2) rfl)
      (pss_cons (ps_fld (pv 0) (pe_ifExp (pt_cmpR op_eq (pv 1) pe_int (nomark _)) pe_int (pe_callB (cr_min rfl) (by rfl) T.b_min (by decide +kernel) (pa_cons (pe_lc (own := [("op", 3)]) (g := gName 3) (te := (tFld K (tVar 3) "ended")) (by rfl) sc_Value___init__.nd (pi_list (pv 2)) (blkOk_by (own := [("op", 3)]) (N := ["self", "value", "ops", "op"]) (sc := defScope s_Value___init__) (by decide +kernel)) (fun _ _ _ _ _ => by exact pg_name (i := 3) sc_Value___init__.nd rfl (Or.inl rfl)) (fun _ _ _ _ _ => by exact pts_nil) (fun _ _ _ _ _ => by exact (pe_fld (pv 3) rfl))) pa_nil))) rfl)
      (pss_one (ps_fld (pv 0) (pe_callBK cr_maxDef (by rfl) T.b_max (by decide +kernel) (pa_cons (pe_lc (own := [("op", 3)]) (g := gName 3) (te := (tFld K (tVar 3) "began")) (by rfl) sc_Value___init__.nd (pi_list (pv 2)) (blkOk_by (own := [("op", 3)]) (N := ["self", "value", "ops", "op"]) (sc := defScope s_Value___init__) (by decide +kernel)) (fun _ _ _ _ _ => by exact pg_name (i := 3) sc_Value___init__.nd rfl (Or.inl rfl)) (fun _ _ _ _ _ => by exact pts_nil) (fun _ _ _ _ _ => by exact (pe_fld (pv 3) rfl))) pa_nil) (pk_cons pe_int pk_nil)) rfl))))), ?_⟩)
  · obtain ⟨p, dx, l, ad, S, F, v, rfl, hp, hT, hh, hv, kk⟩ := h
    rfl
  · obtain ⟨p, dx, l, ad, S, F, v, rfl, hp, hT, hh, hv, kk⟩ := h
    have hlen : (ofD S F v).length ≤ 1000 := Nat.le_trans (List.length_filter_le ..) (Nat.le_trans hh.len (by decide))
    refine ⟨_, rfl, _, rfl, p, _, dx, _, rfl, hp, T.c_Value.cl, T.c_Value.n _ (by decide +kernel), lt1000 rfl, ?_⟩
    refine ⟨_, rfl, _, rfl, p, _, dx, _, rfl, upd_same, T.c_Value.cl, T.c_Value.n _ (by decide +kernel), lt1000 rfl, ?_⟩
    have h1 : (upd (upd H p (.ins T.c_Value.C dx (putF "value" (.int v) []))) p (.ins T.c_Value.C dx (putF "ops" (.ref l) (putF "value" (.int v) [])))) p = some (.ins T.c_Value.C dx [("value", .int v), ("ops", .ref l)]) := upd_same
    have c1 : Chg p H (upd (upd H p (.ins T.c_Value.C dx (putF "value" (.int v) []))) p (.ins T.c_Value.C dx (putF "ops" (.ref l) (putF "value" (.int v) [])))) := fun b o e n => by
      rw [upd_ne n, upd_ne n]
      exact e
    generalize upd (upd H p (.ins T.c_Value.C dx (putF "value" (.int v) []))) p (.ins T.c_Value.C dx (putF "ops" (.ref l) (putF "value" (.int v) []))) = H1 at h1 c1 ⊢
    have hT1 : Told T H1 l ad (ofD S F v) F := hT.chg hp (by intro z; cases z) c1
    refine ⟨_, rfl, rfl, _, rfl, ?_⟩
    refine ite2 (fun q => ?_) fun q => ?_
    · have e0 : v = 0 := by
        have := V.int.inj (of_decide_eq_true q)
        omega
      have ef : firstD S F v = 0 := by
        unfold firstD
        rw [if_pos e0]
      unfold vF at kk
      rw [ef] at kk
      refine ⟨_, rfl, p, _, dx, _, rfl, h1, T.c_Value.cl, T.c_Value.n _ (by decide +kernel), lt1000 rfl, ?_⟩
      have h2 : (upd H1 p (.ins T.c_Value.C dx (putF "first_end" (.int 0) [("value", .int v), ("ops", .ref l)]))) p = some (.ins T.c_Value.C dx [("value", .int v), ("ops", .ref l), ("first_end", .int 0)]) := upd_same
      have ch : Chg p H (upd H1 p (.ins T.c_Value.C dx (putF "first_end" (.int 0) [("value", .int v), ("ops", .ref l)]))) := fun b o e n => by
        rw [upd_ne n]
        exact c1 _ _ e n
      generalize (upd H1 p (.ins T.c_Value.C dx (putF "first_end" (.int 0) [("value", .int v), ("ops", .ref l)]))) = H2 at h2 ch ⊢
      -- H2: three fields stand
      have hT2 : Told T H2 l ad (ofD S F v) F := hT.chg hp (by intro z; cases z) ch
      refine ⟨_, rfl, _, rfl, ⟨_, SqL.of hT2.1⟩, fun D hD => lc_pure (p := fun _ => true) (v := fun k => V.int ((F k).since : Int)) (SqL.of hT2.1) hlen hD ?_ fun H3 s3 hD3 => ?_⟩
      · intro x hx H3 s3 Y N hy hn
        obtain ⟨dt, e⟩ := (hT2.2 x hx).same s3
        exact ⟨rfl, _, rfl, ad x, _, dt, _, _, rfl, e, T.c_Told.cl, T.c_Told.n _ (by decide +kernel), rfl, hy rfl _ (.refl _)⟩
      rw [filter_yes] at hD3
      have hD4 : H3 D = some (.lst (((ofD S F v).map fun k => (((F k).since : Nat) : Int)).map V.int)) := by
        rw [hD3, List.map_map]
        rfl
      refine ⟨D, _, 0, rfl, rfl, SqL.of hD4, fun m hm => ?_⟩
      have em : m = (lastD S F v : Nat) := by
        rcases hm with ⟨e0, rfl⟩ | ⟨h1, h2⟩
        · have e0 : ofD S F v = [] := List.map_eq_nil_iff.mp e0
          have := lastD_is (S := S) (F := F) (v := v) (m := 0) (.inr rfl) (fun k hk => by rw [e0] at hk; cases hk)
          rw [this]
          rfl
        · obtain ⟨k, hk, rfl⟩ := nat_mem (f := fun k => (F k).since) h1
          rw [lastD_is (m := (F k).since) (.inl ⟨k, hk, rfl⟩) fun j hj => by
            have := h2 _ (List.mem_map.mpr ⟨j, hj, rfl⟩)
            omega]
      subst em
      exact ⟨_, rfl, p, _, dx, _, rfl, s3 _ _ h2, T.c_Value.cl, T.c_Value.n _ (by decide +kernel), lt1000 rfl, kk _ upd_same fun b o e n => by
        rw [upd_ne n]
        exact s3 _ _ (ch _ _ e n)⟩
    · have e0 : v ≠ 0 := fun e => q (decide_eq_true (by rw [e]; rfl))
      refine ⟨_, rfl, _, rfl, ⟨_, SqL.of hT1.1⟩, fun D hD => lc_pure (p := fun _ => true) (v := fun k => V.int ((F k).upto : Int)) (SqL.of hT1.1) hlen hD ?_ fun H3 s3 hD3 => ?_⟩
      · intro x hx H3 s3 Y N hy hn
        obtain ⟨dt, e⟩ := (hT1.2 x hx).same s3
        exact ⟨rfl, _, rfl, ad x, _, dt, _, _, rfl, e, T.c_Told.cl, T.c_Told.n _ (by decide +kernel), rfl, hy rfl _ (.refl _)⟩
      rw [filter_yes] at hD3
      have hD4 : H3 D = some (.lst (((ofD S F v).map fun k => (((F k).upto : Nat) : Int)).map V.int)) := by
        rw [hD3, List.map_map]
        rfl
      have hne := ofD_ne hh hv e0
      refine ⟨D, _, rfl, SqL.of hD4, ?_, fun m hm1 hm2 => ?_⟩
      · rw [List.length_map]
        exact List.length_pos_iff.mpr hne
      obtain ⟨kf, hkf, em⟩ := nat_mem (f := fun k => (F k).upto) hm1
      have ef : ((firstD S F v : Nat) : Int) = m := by
        rw [em, firstD_is hh e0 ⟨kf, hkf, rfl⟩ fun j hj => by
          have := hm2 _ (List.mem_map.mpr ⟨j, hj, rfl⟩)
          omega]
      unfold vF at kk
      rw [ef] at kk
      refine ⟨_, rfl, p, _, dx, _, rfl, s3 _ _ h1, T.c_Value.cl, T.c_Value.n _ (by decide +kernel), lt1000 rfl, ?_⟩
      have h2 : (upd H3 p (.ins T.c_Value.C dx (putF "first_end" (.int m) [("value", .int v), ("ops", .ref l)]))) p = some (.ins T.c_Value.C dx [("value", .int v), ("ops", .ref l), ("first_end", .int m)]) := upd_same
      have ch : Chg p H (upd H3 p (.ins T.c_Value.C dx (putF "first_end" (.int m) [("value", .int v), ("ops", .ref l)]))) := fun b o e n => by
        rw [upd_ne n]
        exact s3 _ _ (c1 _ _ e n)
      generalize (upd H3 p (.ins T.c_Value.C dx (putF "first_end" (.int m) [("value", .int v), ("ops", .ref l)]))) = H2 at h2 ch ⊢
      -- H2: three fields stand
      have hT2 : Told T H2 l ad (ofD S F v) F := hT.chg hp (by intro z; cases z) ch
      refine ⟨_, rfl, _, rfl, ⟨_, SqL.of hT2.1⟩, fun D hD => lc_pure (p := fun _ => true) (v := fun k => V.int ((F k).since : Int)) (SqL.of hT2.1) hlen hD ?_ fun H3 s3 hD3 => ?_⟩
      · intro x hx H3 s3 Y N hy hn
        obtain ⟨dt, e⟩ := (hT2.2 x hx).same s3
        exact ⟨rfl, _, rfl, ad x, _, dt, _, _, rfl, e, T.c_Told.cl, T.c_Told.n _ (by decide +kernel), rfl, hy rfl _ (.refl _)⟩
      rw [filter_yes] at hD3
      have hD4 : H3 D = some (.lst (((ofD S F v).map fun k => (((F k).since : Nat) : Int)).map V.int)) := by
        rw [hD3, List.map_map]
        rfl
      refine ⟨D, _, 0, rfl, rfl, SqL.of hD4, fun m hm => ?_⟩
      have em : m = (lastD S F v : Nat) := by
        rcases hm with ⟨e0, rfl⟩ | ⟨h1, h2⟩
        · have e0 : ofD S F v = [] := List.map_eq_nil_iff.mp e0
          have := lastD_is (S := S) (F := F) (v := v) (m := 0) (.inr rfl) (fun k hk => by rw [e0] at hk; cases hk)
          rw [this]
          rfl
        · obtain ⟨k, hk, rfl⟩ := nat_mem (f := fun k => (F k).since) h1
          rw [lastD_is (m := (F k).since) (.inl ⟨k, hk, rfl⟩) fun j hj => by
            have := h2 _ (List.mem_map.mpr ⟨j, hj, rfl⟩)
            omega]
      subst em
      exact ⟨_, rfl, p, _, dx, _, rfl, s3 _ _ h2, T.c_Value.cl, T.c_Value.n _ (by decide +kernel), lt1000 rfl, kk _ upd_same fun b o e n => by
        rw [upd_ne n]
        exact s3 _ _ (ch _ _ e n)⟩
end
end Ea

/-! The bodies of moments.py: all values. -/
namespace Ea
open PySem PySem.Spec PyProof.Rows L2
/-- the dict of lists by values -/
def kvL (lof : Nat → Addr) (ks : List Nat) : List (Key × V) := ks.map fun v : Nat => (Sum.inl (v : Int), V.ref (lof v))
theorem valV_kvL {lof : Nat → Addr} (v : Nat) : ∀ ks : List Nat, valV (kvL lof ks) (Sum.inl (v : Int)) = if v ∈ ks then some (V.ref (lof v)) else none
  | [] => rfl
  | k :: ks => by
    show valV ((Sum.inl (k : Int), V.ref (lof k)) :: kvL lof ks) (Sum.inl (v : Int)) = _
    by_cases e : k = v
    · subst e
      rw [valV_pos rfl, if_pos (List.mem_cons_self ..)]
    · rw [valV_neg (fun z => e (by have := Sum.inl.inj z; omega)), valV_kvL v ks]
      by_cases m : v ∈ ks
      · rw [if_pos m, if_pos (List.mem_cons_of_mem _ m)]
      · rw [if_neg m, if_neg fun z => by
          rcases List.mem_cons.mp z with z | z
          · exact e z.symm
          · exact m z]
theorem line15 {α : Type} {x : α} : [x].length ≤ 15 := Nat.le_of_ble_eq_true rfl
structure DictAt (H1 H : Hp) (d : Addr) (ks : List Nat) (lof : Nat → Addr) (g : Nat → List V) : Prop where
  d : H d = some (.dK (kvL lof ks))
  l : ∀ v ∈ ks, H (lof v) = some (.lst (g v))
  inj : ∀ v ∈ ks, ∀ u ∈ ks, lof v = lof u → v = u
  new : ∀ v ∈ ks, H1 (lof v) = none
theorem DictAt.get {H1 H : Hp} {d : Addr} {ks : List Nat} {lof : Nat → Addr} {g : Nat → List V} (D : DictAt H1 H d ks lof g) {v : Nat} (hv : v ∈ ks) : DGet H d (.int (v : Int)) (some (.ref (lof v))) := by
  have z := DGet.k (k := Sum.inl (v : Int)) D.d
  rw [valV_kvL, if_pos hv] at z
  exact z
theorem DictAt.get? {H1 H : Hp} {d : Addr} {ks : List Nat} {lof : Nat → Addr} {g : Nat → List V} (D : DictAt H1 H d ks lof g) (v : Nat) : DGet H d (.int (v : Int)) (if v ∈ ks then some (.ref (lof v)) else none) := by
  have z := DGet.k (k := Sum.inl (v : Int)) D.d
  rw [valV_kvL] at z
  exact z
theorem DictAt.same {H1 H H' : Hp} {d : Addr} {ks : List Nat} {lof : Nat → Addr} {g : Nat → List V} (D : DictAt H1 H d ks lof g) (s : Same H H') : DictAt H1 H' d ks lof g := ⟨s _ _ D.d, fun v hv => s _ _ (D.l v hv), D.inj, D.new⟩
/-- a new key with an empty list -/
theorem DictAt.put {H1 H : Hp} {d l v0 : Addr} {v : Nat} {ks : List Nat} {lof : Nat → Addr} (D : DictAt H1 H d ks lof (fun _ => [])) (hv : v ∉ ks) (hl : H l = none) (h1 : H1 l = none) :
    DictAt H1 (upd (upd H l (.lst [])) d (.dK (putK (kvL lof ks) (Sum.inl (v : Int)) (.ref l)))) d (ks ++ [v]) (fun u => if u = v then l else lof u) (fun _ => []) := by
  have nl : ∀ u ∈ ks, lof u ≠ l := fun u hu => ne_of_none (D.l u hu) hl
  have nd : l ≠ d := (ne_of_none D.d hl).symm
  have ndu : ∀ u ∈ ks, lof u ≠ d := fun u hu e => by
    have := D.l u hu
    rw [e, D.d] at this
    cases this
  have up : ∀ u ∈ ks, (if u = v then l else lof u) = lof u := fun u hu => if_neg fun (e : u = v) => hv (e ▸ hu)
  have z : valV (kvL lof ks) (Sum.inl (v : Int)) = none := by rw [valV_kvL, if_neg hv]
  refine ⟨?_, fun u hu => ?_, fun u hu x hx e => ?_, fun u hu => ?_⟩
  · rw [upd_same, putK_new _ z]
    unfold kvL
    rw [List.map_append]
    congr 3
    · exact List.map_congr_left fun u hu => by
        dsimp only
        rw [up u hu]
    · show _ = [(Sum.inl (v : Int), V.ref (if v = v then l else lof v))]
      rw [if_pos rfl]
  · rcases List.mem_append.mp hu with hu | hu
    · try dsimp only
      rw [up u hu, upd_ne (ndu u hu), upd_ne (nl u hu)]
      exact D.l u hu
    · rw [List.mem_singleton.mp hu]
      try dsimp only
      rw [if_pos rfl, upd_ne nd, upd_same]
  · rcases List.mem_append.mp hu with hu | hu
    · rcases List.mem_append.mp hx with hx | hx
      · try dsimp only at e
        rw [up u hu, up x hx] at e
        exact D.inj u hu x hx e
      · rw [List.mem_singleton.mp hx] at e
        try dsimp only at e
        rw [up u hu, if_pos rfl] at e
        exact absurd e (nl u hu)
    · rcases List.mem_append.mp hx with hx | hx
      · rw [List.mem_singleton.mp hu] at e
        try dsimp only at e
        rw [up x hx, if_pos rfl] at e
        exact absurd e.symm (nl x hx)
      · rw [List.mem_singleton.mp hu, List.mem_singleton.mp hx]
  · rcases List.mem_append.mp hu with hu | hu
    · try dsimp only
      rw [up u hu]
      exact D.new u hu
    · rw [List.mem_singleton.mp hu]
      try dsimp only
      rw [if_pos rfl]
      exact h1
/-- one of the lists grows -/
theorem DictAt.grow {H1 H : Hp} {d : Addr} {v : Nat} {x : V} {ks : List Nat} {lof : Nat → Addr} {g : Nat → List V} (D : DictAt H1 H d ks lof g) (hv : v ∈ ks) : DictAt H1 (upd H (lof v) (.lst (g v ++ [x]))) d ks lof (fun u => if u = v then g u ++ [x] else g u) := by
  refine ⟨?_, fun u hu => ?_, D.inj, D.new⟩
  · rw [upd_ne fun e => by
      have := D.l v hv
      rw [← e, D.d] at this
      cases this]
    exact D.d
  · try dsimp only
    by_cases e : u = v
    · subst e
      rw [if_pos rfl, upd_same]
    · rw [if_neg e, upd_ne fun z => e (D.inj u hu v hv z)]
      exact D.l u hu
theorem DictAt.g_eq {H1 H : Hp} {d : Addr} {ks : List Nat} {lof : Nat → Addr} {g g' : Nat → List V} (D : DictAt H1 H d ks lof g) (e : ∀ v ∈ ks, g v = g' v) : DictAt H1 H d ks lof g' := ⟨D.d, fun v hv => by rw [← e v hv]; exact D.l v hv, D.inj, D.new⟩
/-- the keys behind i turns -/
def keysT (S : List Nat) (F : Nat → Su149.Op) (i : Nat) : List Nat := 0 :: (((cntL S F).take i).filter fun k => (F k).wr).map fun k => (F k).v
theorem keysT_all (S : List Nat) (F : Nat → Su149.Op) {i : Nat} (h : (cntL S F).length = i) : keysT S F i = keysL S F := by
  unfold keysT keysL
  rw [← h, List.take_length]
theorem keysT_wr {S : List Nat} {F : Nat → Su149.Op} {i x : Nat} (h : (cntL S F)[i]? = some x) (hw : (F x).wr = true) : keysT S F (i + 1) = keysT S F i ++ [(F x).v] := by
  unfold keysT
  rw [take_succ h, List.filter_append, List.filter_cons_of_pos (p := fun k => (F k).wr) hw, List.map_append]
  rfl
theorem keysT_rd {S : List Nat} {F : Nat → Su149.Op} {i x : Nat} (h : (cntL S F)[i]? = some x) (hw : (F x).wr = false) : keysT S F (i + 1) = keysT S F i := by
  unfold keysT
  rw [take_succ h, List.filter_append, List.filter_cons_of_neg (p := fun k => (F k).wr) (by rw [hw]; exact Bool.false_ne_true), List.filter_nil, List.append_nil]
theorem keysT_new {S : List Nat} {F : Nat → Su149.Op} {i x : Nat} (hh : Hist S F) (h : (cntL S F)[i]? = some x) (hw : (F x).wr = true) : (F x).v ∉ keysT S F i := fun hm => by
  have nd : (keysT S F (i + 1)).Nodup := by
    have z := keysL_nodup hh
    have : (keysT S F (i + 1)).Sublist (keysL S F) := by
      unfold keysT keysL
      exact (((List.take_sublist _ _).filter _).map _).cons₂ _
    exact List.Nodup.sublist this z
  rw [keysT_wr h hw] at nd
  have := (List.nodup_append.mp nd).2.2 _ hm _ (List.mem_cons_self ..)
  exact this rfl
theorem keys_few {S : List Nat} {F : Nat → Su149.Op} (hh : Hist S F) (i : Nat) : (keysT S F i).length ≤ 21 := by
  unfold keysT
  rw [List.length_cons, List.length_map]
  have := List.length_filter_le (fun k => (F k).wr) ((cntL S F).take i)
  have l2 : ((cntL S F).take i).length ≤ (cntL S F).length := by
    rw [List.length_take]
    exact Nat.min_le_right _ _
  have l3 : (cntL S F).length ≤ S.length := List.length_filter_le ..
  have := hh.len
  omega
theorem keysL_few {S : List Nat} {F : Nat → Su149.Op} (hh : Hist S F) : (keysL S F).length ≤ 21 := by
  rw [← keysT_all S F rfl]
  exact keys_few hh _
theorem back_nat {ys : List Int} {ks : List Nat} (p : ys.Perm (ks.map fun n : Nat => (n : Int))) (s : ys.Pairwise (· ≤ ·)) : ∃ l : List Nat, ys = l.map (fun n : Nat => (n : Int)) ∧ l.Perm ks ∧ l.Pairwise (· ≤ ·) := by
  have nn : ∀ y ∈ ys, 0 ≤ y := fun y hy => by
    obtain ⟨n, _, e⟩ := List.mem_map.mp (p.mem_iff.mp hy)
    omega
  refine ⟨ys.map Int.toNat, ?_, ?_, ?_⟩
  · rw [List.map_map]
    refine (List.map_id ys).symm.trans (List.map_congr_left fun y hy => ?_)
    have := nn y hy
    show y = ((y.toNat : Nat) : Int)
    omega
  · have := p.map Int.toNat
    rw [List.map_map] at this
    have e : (Int.toNat ∘ fun n : Nat => (n : Int)) = id := funext fun n => Int.toNat_natCast n
    rw [e, List.map_id] at this
    exact this
  · rw [List.pairwise_map]
    exact s.imp fun h => by omega
section
variable {P : Program} {w : World} {K : PySem.W.Frag} {mg : Str → Option Value} {base : Heap}
/-- the values' objects -/
def Vals_ (T : Txt K mg) (H : Hp) (p : Addr) (va ad : Nat → Addr) (S : List Nat) (F : Nat → Su149.Op) (vs : List Nat) : Prop := H p = some (.lst (rf va vs)) ∧ ∀ v ∈ vs, ValAt T H (va v) ad S F v
theorem Vals_.same {T : Txt K mg} {H H' : Hp} {p : Addr} {va ad : Nat → Addr} {S : List Nat} {F : Nat → Su149.Op} {vs : List Nat} (h : Vals_ T H p va ad S F vs) (s : Same H H') : Vals_ T H' p va ad S F vs := ⟨s _ _ h.1, fun v hv => (h.2 v hv).same s⟩
def spValues (T : Txt K mg) : Sp := fun vs H Q _ => ∃ (p : Addr) (ad : Nat → Addr) (S : List Nat) (F : Nat → Su149.Op), vs = [.ref p] ∧ Told T H p ad S F ∧ Hist S F ∧
  ∀ (H' : Hp) (q : Addr) (va : Nat → Addr), Same H H' → H q = none → Vals_ T H' q va ad S F (valuesD S F) → Q (.ref q) H'
theorem ok_values_there_are (T : Txt K mg) : FnOk P w K mg base CX0 3 T.d_values_there_are.f T.d_values_there_are.fd ["told"] (spValues T) := by
  have G_Value___init__ := ok_Value (P := P) (w := w) (base := base) T
  have G_who_counts := ok_who_counts (P := P) (w := w) (base := base) T
  refine T.d_values_there_are.F.ok sc_values_there_are (fun vs H Q E h => ?_) (fun cdv A outer s H vs Q E hr h => ⟨_, (pss_cons (ps_set (i := 1) sc_values_there_are.nd rfl (Or.inl rfl) (pe_call G_who_counts (hr.mono (by decide)) (by rfl) T.d_who_counts.g T.d_who_counts.F.kp T.d_who_counts.b .nil pass0 (pa_cons (pv 0) pa_nil)))
      (pss_cons (ps_set (i := 2) sc_values_there_are.nd rfl (Or.inr rfl) (pe_disp (pps_cons pe_int (pe_lst pa_nil) pps_nil) (by rfl) (by rfl) (fun z => by cases z) (by decide)))
      (pss_cons (ps_for PassesOwn.never rfl (pi_list (pv 1)) (pg_name (i := 3) sc_values_there_are.nd rfl (Or.inl rfl))
        (pss_one (ps_if (pt_val (pe_fld (pv 3) rfl))
          (pss_one (ps_dput (hu_of hr) (pv 2) (pe_fld (pv 3) rfl) (pe_lst pa_nil) rfl))
          pss_nil)))
      (pss_cons (ps_for PassesOwn.never rfl (pi_list (pv 1)) (pg_name (i := 3) sc_values_there_are.nd rfl (Or.inl rfl))
        (pss_one (ps_if (pt_cmp (pc_din (hu_of hr) (pe_fld (pv 3) rfl) (pv 2)))
          (pss_one (ps_expr (pe_bm PySem.F.plainAttrs_list PySem.F.slot_list_append PySem.F.type_list_append mt_append (pe_dget (hu_of hr) (pv 2) (pe_fld (pv 3) rfl) (fun _ _ => rfl)) (pa_cons (pv 3) pa_nil))))
          pss_nil)))
      (pss_one (ps_ret (pe_lc (own := [("value", 4)]) (g := gName 4) (by rfl) sc_values_there_are.nd (pi_list (pe_callB (call_sortedDI rfl) (by rfl) T.b_sorted (by decide +kernel) (pa_cons (pv 2) pa_nil))) (blkOk_by (own := [("value", 4)]) (N := ["told", "counting", "ops_of", "op", "value"]) (sc := defScope s_values_there_are) (by decide +kernel)) (fun _ _ _ _ _ => by exact pg_name (i := 4) sc_values_there_are.nd rfl (Or.inl rfl)) (fun _ _ _ _ _ => by exact pts_nil) (fun _ _ _ _ _ => by exact (pe_make (mk_of T.c_Value T.d_Value___init__) G_Value___init__ (hr.mono (by decide)) (by rfl) T.c_Value.g T.d_Value___init__.b .nil pass0 (pa_cons (pv 4) (pa_cons (pe_dget (hu_of hr) (pv 2) (pv 4) (fun _ _ => rfl)) pa_nil))))))))))), ?_⟩)
  · obtain ⟨p, ad, S, F, rfl, hT, hh, k⟩ := h
    rfl
  · obtain ⟨p, ad, S, F, rfl, hT, hh, k⟩ := h
    refine ⟨_, rfl, p, ad, S, F, rfl, hT, hh, fun H1 q s1 nq hq => ?_⟩
    have hTc : TAll T.c_Told.C H1 ad (cntL S F) F := (hT.2.same s1).sub
    have clen : (cntL S F).length ≤ 20 := hh.sub.len
    -- ops_of = {0: []}
    refine fun d hd => ⟨Nat.zero_le _, fun l hl => ?_⟩
    have hd1 : H1 d = none := hd
    have ndl : d ≠ l := ne_of_none (upd_same (H := H1) (a := d) (o := .dK [])) hl
    have hl1 : H1 l = none := (upd_ne ndl.symm).symm.trans hl
    refine ⟨(upd_ne ndl).trans upd_same, [(Sum.inl 0, .ref l)], rfl, line15, ?_⟩
    have D0 : DictAt H1 (upd (upd (upd H1 d (.dK [])) l (.lst [])) d (.dK (mergeK [] [(Sum.inl 0, .ref l)]))) d (keysT S F 0) (fun _ => l) (fun _ => []) := by
      refine ⟨upd_same, fun v hv => ?_, fun v hv u hu _ => ?_, fun v _ => hl1⟩
      · rw [upd_ne ndl.symm, upd_same]
      · rw [List.mem_singleton.mp (show v ∈ [0] from hv), List.mem_singleton.mp (show u ∈ [0] from hu)]
    have s2 : Same H1 (upd (upd (upd H1 d (.dK [])) l (.lst [])) d (.dK (mergeK [] [(Sum.inl 0, .ref l)]))) := fun b o e => by
      rw [upd_ne (ne_of_none e hd1), upd_ne (ne_of_none e hl1), upd_ne (ne_of_none e hd1)]
      exact e
    generalize upd (upd (upd H1 d (.dK [])) l (.lst [])) d (.dK (mergeK [] [(Sum.inl 0, .ref l)])) = H2 at D0 s2 ⊢
    -- the keys
    refine ⟨_, rfl, q, rfl, ⟨_, SqL.of (s2 _ _ hq)⟩, for_list (K := K) (a := q) (xs := rf ad (cntL S F)) (fun i σ H' => ∃ (v3 v4 : Option V) (lof : Nat → Addr), σ = [some (.ref p), some (.ref q), some (.ref d), v3, v4] ∧ Same H1 H' ∧ DictAt H1 H' d (keysT S F i) lof (fun _ => [])) ⟨none, none, _, rfl, s2, D0⟩ (fun i σ H' _ ⟨_, _, _, _, s, _⟩ => s.seq (SqL.of hq)) ?_ ?_⟩
    · rintro i y σ H3 hi ⟨v3, v4, lof, rfl, s3, D3⟩
      unfold rf at hi
      rw [List.getElem?_map] at hi
      obtain ⟨x, hx, rfl⟩ := Option.map_eq_some_iff.mp hi
      obtain ⟨dx, e⟩ := (hTc x (List.mem_of_getElem? hx)).same s3
      refine ⟨_, rfl, ad x, _, dx, _, _, rfl, e, T.c_Told.cl, T.c_Told.n _ (by decide +kernel), rfl, _, rfl, ?_⟩
      refine pickB (fun hw => ?_) fun hw => ?_
      · refine ⟨Nat.zero_le _, fun l2 hl2 => ?_⟩
        have nlx : ad x ≠ l2 := ne_of_none e hl2
        have hl21 : H1 l2 = none := Same.free s3 hl2
        have few := keys_few hh i
        refine ⟨_, rfl, _, rfl, ad x, _, dx, _, _, rfl, (upd_ne nlx).trans e, T.c_Told.cl, T.c_Told.n _ (by decide +kernel), rfl, d, _, rfl, DPut.k (k := Sum.inl (((F x).v : Nat) : Int)) ((upd_ne (ne_of_none D3.d hl2)).trans D3.d) ?_, ?_⟩
        · unfold kvL
          rw [List.length_map]
          exact small1000 (by omega)
        · refine ⟨_, _, _, rfl, ?_, by rw [keysT_wr hx hw]; exact D3.put (v0 := d) (keysT_new hh hx hw) hl2 hl21⟩
          intro b o eb
          rw [upd_ne (ne_of_none eb hd1), upd_ne (ne_of_none eb hl21)]
          exact s3 _ _ eb
      · exact ⟨_, _, lof, rfl, s3, by rw [keysT_rd hx hw]; exact D3⟩
    · rintro σ H3 ⟨v3, v4, lof, rfl, s3, D3⟩
      rw [keysT_all S F (by unfold rf; rw [List.length_map])] at D3
      -- the lists
      refine ⟨_, rfl, q, rfl, ⟨_, SqL.of (s3 _ _ hq)⟩, for_list (K := K) (a := q) (xs := rf ad (cntL S F)) (fun i σ H' => ∃ (v3 v4 : Option V), σ = [some (.ref p), some (.ref q), some (.ref d), v3, v4] ∧ Same H1 H' ∧ DictAt H1 H' d (keysL S F) lof (fun v => rf ad (((cntL S F).take i).filter fun k => (F k).v == v))) ⟨_, _, rfl, s3, D3.g_eq fun v _ => rfl⟩ (fun i σ H' _ ⟨_, _, _, s, _⟩ => s.seq (SqL.of hq)) ?_ ?_⟩
      · rintro i y σ H4 hi ⟨v3, v4, rfl, s4, D4⟩
        unfold rf at hi
        rw [List.getElem?_map] at hi
        obtain ⟨x, hx, rfl⟩ := Option.map_eq_some_iff.mp hi
        obtain ⟨dx, e⟩ := (hTc x (List.mem_of_getElem? hx)).same s4
        refine ⟨_, rfl, ad x, _, dx, _, _, rfl, e, T.c_Told.cl, T.c_Told.n _ (by decide +kernel), rfl, _, rfl, d, _, rfl, D4.get? (F x).v, _, rfl, ?_⟩
        have stp : ∀ v, rf ad (((cntL S F).take (i + 1)).filter fun k => (F k).v == v) = if v = (F x).v then rf ad (((cntL S F).take i).filter fun k => (F k).v == v) ++ [V.ref (ad x)] else rf ad (((cntL S F).take i).filter fun k => (F k).v == v) := fun v => by
          unfold rf
          rw [take_succ hx, List.filter_append, List.map_append]
          by_cases ev : v = (F x).v
          · rw [if_pos ev, List.filter_cons_of_pos (by rw [ev]; exact beq_self_eq_true _)]
            rfl
          · rw [if_neg ev, List.filter_cons_of_neg (by rw [beq_iff_eq]; exact fun z => ev z.symm), List.filter_nil, List.map_nil, List.append_nil]
        by_cases hm : (F x).v ∈ keysL S F
        · rw [if_pos hm]
          refine iteT ?_
          refine ⟨_, rfl, _, rfl, ad x, _, dx, _, _, rfl, e, T.c_Told.cl, T.c_Told.n _ (by decide +kernel), rfl, d, _, rfl, D4.get hm, .inl ⟨rfl, _, SqL.of (D4.l _ hm)⟩, _, rfl, _, _, _, rfl, rfl, D4.l _ hm, ?_, ?_⟩
          · unfold rf
            rw [List.length_map]
            refine small1000 (Nat.le_trans (List.length_filter_le ..) ?_)
            rw [List.length_take]
            omega
          · refine ⟨_, _, rfl, ?_, (D4.grow (x := V.ref (ad x)) hm).g_eq fun v _ => (stp v).symm⟩
            intro b o eb
            rw [upd_ne (ne_of_none eb (D4.new _ hm))]
            exact s4 _ _ eb
        · rw [if_neg hm]
          refine iteF ?_
          exact ⟨_, _, rfl, s4, D4.g_eq fun v hv => ((stp v).trans (if_neg fun (z : v = (F x).v) => hm (z ▸ hv))).symm⟩
      · rintro σ H4 ⟨v3, v4, rfl, s4, D4⟩
        have D4 := D4.g_eq (g' := fun v => rf ad (ofD S F v)) fun v _ => by
          try dsimp only
          rw [ofD_cnt]
          congr 2
          exact List.take_of_length_le (by unfold rf; rw [List.length_map]; exact Nat.le_refl _)
        have few := keysL_few hh
        -- sorted
        refine ⟨_, rfl, d, _, (keysL S F).map (fun n : Nat => (n : Int)), rfl, .inl D4.d, ?_, ?_, fun ys r pm srt hr => ?_⟩
        · unfold kvL
          rw [List.map_map, List.map_map]
          rfl
        · rw [List.length_map]
          omega
        obtain ⟨ls, rfl, pm2, srt2⟩ := back_nat pm srt
        obtain rfl := keys_sorted hh pm2 srt2
        have s5 : Same H4 (upd H4 r (.lst (((valuesD S F).map fun n : Nat => (n : Int)).map V.int))) := same_upd hr
        have hR : (upd H4 r (.lst (((valuesD S F).map fun n : Nat => (n : Int)).map V.int))) r = some (.lst ((valuesD S F).map fun n : Nat => V.int (n : Int))) := by
          rw [upd_same, List.map_map]
          rfl
        have D5 := D4.same s5
        have s6 := s4.trans s5
        generalize upd H4 r (.lst (((valuesD S F).map fun n : Nat => (n : Int)).map V.int)) = H5 at s5 s6 hR D5 ⊢
        have few2 : (valuesD S F).length ≤ 41 := Nat.le_trans (List.length_filter_le ..) (by rw [List.length_range]; exact Nat.le_refl _)
        refine ⟨r, rfl, ⟨_, SqL.of hR⟩, fun D hD => lc_list (K := K) (a := r) (xs := (valuesD S F).map fun n : Nat => V.int (n : Int)) (fun i H' => ∃ va : Nat → Addr, Same H5 H' ∧ H' D = some (.lst (rf va ((valuesD S F).take i))) ∧ ∀ v ∈ (valuesD S F).take i, ∃ dx, H' (va v) = some (.ins T.c_Value.C dx (vF S F v (lof v)))) ⟨fun _ => D, same_upd hD, upd_same, fun v hv => by cases hv⟩ (fun i H' _ ⟨_, s, _⟩ => s.seq (SqL.of hR)) ?_ ?_⟩
        · rintro i y H6 hi ⟨va, s7, hD6, hV⟩
          rw [List.getElem?_map] at hi
          obtain ⟨v, hv, rfl⟩ := Option.map_eq_some_iff.mp hi
          have hvm := List.mem_of_getElem? hv
          have hvk : v ∈ keysL S F := (mem_valuesD hh).mp hvm
          have D6 := D5.same s7
          have hT6 : Told T H6 (lof v) ad (ofD S F v) F := ⟨D6.l v hvk, fun j hj => ((hT.2.same s1).same (s6.trans s7)) j (mem_ofD.mp hj).1⟩
          refine ⟨rfl, _, rfl, _, rfl, _, rfl, d, _, rfl, D6.get hvk, fun x dx nx nd ne => ⟨x, dx, lof v, ad, S, F, v, rfl, upd_same, ?_, hh, hvm, fun H7 h7 ch => ?_⟩⟩
          · exact (hT6.same (fun b o e => by rw [upd_ne (ne_of_none e nx), upd_ne (ne_of_none e nd)]; exact e))
          · have s8 : Same H6 H7 := Same.made nx nd ch
            have e : (valuesD S F).take (i + 1) = (valuesD S F).take i ++ [v] := take_succ hv
            have lt : ∀ u ∈ (valuesD S F).take i, u ≠ v := fun u hu q => by
              have nd := valuesD_nodup (S := S) (F := F)
              have n2 : ((valuesD S F).take (i + 1)).Nodup := List.Nodup.sublist (List.take_sublist ..) nd
              rw [e] at n2
              exact (List.nodup_append.mp n2).2.2 u hu v (List.mem_cons_self ..) q
            have hD7 := s8 _ _ hD6
            refine ⟨rfl, _, hD7, ?_, fun u => if u = v then x else va u, ?_, ?_, ?_⟩
            · unfold rf
              rw [List.length_map, List.length_take]
              exact small1000 (by omega)
            · intro b o eb
              rw [upd_ne (ne_of_none eb hD)]
              exact s8 _ _ (s7 _ _ eb)
            · rw [upd_same, e]
              unfold rf
              rw [List.map_append]
              congr 2
              congr 1
              · exact List.map_congr_left fun u hu => by
                  dsimp only
                  rw [if_neg (lt u hu)]
              · show _ = [V.ref (if v = v then x else va v)]
                rw [if_pos rfl]
            · intro u hu
              rw [e] at hu
              have nD : ∀ {y C dy : Addr} {fs : List (Str × V)}, H7 y = some (.ins C dy fs) → y ≠ D := fun z q => by
                rw [q, hD7] at z
                cases z
              rcases List.mem_append.mp hu with hu | hu
              · obtain ⟨dy, z⟩ := hV u hu
                refine ⟨dy, ?_⟩
                dsimp only
                rw [if_neg (lt u hu), upd_ne (nD (s8 _ _ z))]
                exact s8 _ _ z
              · rw [List.mem_singleton.mp hu]
                refine ⟨dx, ?_⟩
                dsimp only
                rw [if_pos rfl, upd_ne (nD h7)]
                exact h7
        · rintro H6 ⟨va, s7, hD6, hV⟩
          rw [List.length_map, List.take_length] at hD6 hV
          have D6 := D5.same s7
          exact k H6 D va (s1.trans (s6.trans s7)) (Same.free s1 (Same.free s6 hD)) ⟨hD6, fun v hv => by
            obtain ⟨dx, z⟩ := hV v hv
            exact ⟨dx, _, z, D6.l v ((mem_valuesD hh).mp hv)⟩⟩
end
end Ea

/-! The bodies of moments.py: two that clash; who may be next; what shows it. -/
namespace Ea
open PySem PySem.Spec PyProof.Rows L2
theorem lt_int {i j : Nat} : decide ((i : Int) < (j : Int)) = decide (i < j) := decide_eq_decide.mpr (by omega)
section
variable {P : Program} {w : World} {K : PySem.W.Frag} {mg : Str → Option Value} {base : Heap}
/-- one value's object is ahead of another's -/
theorem ahead_of {T : Txt K mg} {H : Hp} {p q : Addr} {ad : Nat → Addr} {S : List Nat} {F : Nat → Su149.Op} {u v : Nat} {Q : VK} {E : XK} (hp : ValAt T H p ad S F u) (hq : ValAt T H q ad S F v) (k : Q (.bl (decide (firstD S F u < lastD S F v))) H) : spAhead T [.ref p, .ref q] H Q E := by
  obtain ⟨d1, l1, e1, _⟩ := hp
  obtain ⟨d2, l2, e2, _⟩ := hq
  refine ⟨p, q, d1, d2, _, _, _, _, rfl, e1, e2, rfl, rfl, ?_⟩
  rw [lt_int]
  exact k
def spClash (T : Txt K mg) : Sp := fun vs H Q _ => ∃ (p : Addr) (va ad : Nat → Addr) (S : List Nat) (F : Nat → Su149.Op), vs = [.ref p] ∧ Vals_ T H p va ad S F (valuesD S F) ∧
  (firstClashD S F = none → ∀ H', Same H H' → Q .non H') ∧ ∀ u v, firstClashD S F = some (u, v) → u ∈ valuesD S F → v ∈ valuesD S F → ∀ (H' : Hp) (t : Addr), Same H H' → H t = none → H' t = some (.tup [.ref (va u), .ref (va v)]) → Q (.ref t) H'
theorem cut_drop {l : List V} {i : Nat} : cutV l (some ((i : Int) + 1)) none = l.drop (i + 1) := by
  unfold cutV
  rw [show ((i : Int) + 1) = ((i + 1 : Nat) : Int) from rfl, HT.sIx_nat, HT.sIx_none]
  by_cases h : i + 1 ≤ l.length
  · rw [Nat.min_eq_left h]
    exact List.take_of_length_le (by rw [List.length_drop]; exact Nat.le_refl _)
  · rw [Nat.min_eq_right (by omega), List.drop_of_length_le (i := i + 1) (by omega), List.drop_of_length_le (Nat.le_refl _), List.take_nil]
theorem drop_split {α : Type} {l : List α} {i : Nat} {x : α} (h : l[i]? = some x) : l = l.take i ++ x :: l.drop (i + 1) := by
  have hi := lt_of_get h
  have e : l[i] = x := by
    have := List.getElem?_eq_getElem hi
    rw [h] at this
    exact (Option.some.inj this).symm
  rw [← e, ← List.drop_eq_getElem_cons hi, List.take_append_drop]
theorem ok_first_clash (T : Txt K mg) : FnOk P w K mg base CX0 2 T.d_first_clash.f T.d_first_clash.fd ["values"] (spClash T) := by
  have G_comes_ahead := ok_comes_ahead (P := P) (w := w) (base := base) T
  refine T.d_first_clash.F.ok sc_first_clash (fun vs H Q E h => ?_) (fun cdv A outer s H vs Q E hr h => ⟨_, (pss_cons (ps_for PassesOwn.never rfl (pi_enum (by rfl) T.b_enumerate (pa_cons (pv 0) pa_nil)) (pg_tup rfl (pgs_cons (pg_name (i := 1) sc_first_clash.nd rfl (Or.inl rfl)) (pgs_cons (pg_name (i := 2) sc_first_clash.nd rfl (Or.inl rfl)) pgs_nil)))
        (pss_one (ps_for PassesOwn.never rfl (pi_list (pe_slice sl_list (pv 0) (po_some (pe_op op_add (pv 1) pe_int)) po_none)) (pg_name (i := 3) sc_first_clash.nd rfl (Or.inl rfl))
          (pss_one (ps_if (PW.pt (pw_and (pt_val (pe_call G_comes_ahead (hr.mono (by decide)) (by rfl) T.d_comes_ahead.g T.d_comes_ahead.F.kp T.d_comes_ahead.b .nil pass0 (pa_cons (pv 2) (pa_cons (pv 3) pa_nil)))) (pw_and1 (pt_val (pe_call G_comes_ahead (hr.mono (by decide)) (by rfl) T.d_comes_ahead.g T.d_comes_ahead.F.kp T.d_comes_ahead.b .nil pass0 (pa_cons (pv 3) (pa_cons (pv 2) pa_nil)))))))
            (pss_one (ps_ret (pe_tup (pa_cons (pv 2) (pa_cons (pv 3) pa_nil)))))
            pss_nil)))))
      (pss_one (ps_ret pe_non))), ?_⟩)
  · obtain ⟨p, va, ad, S, F, rfl, hV, k0, k1⟩ := h
    rfl
  · obtain ⟨p, va, ad, S, F, rfl, hV, k0, k1⟩ := h
    have few : (valuesD S F).length ≤ 41 := Nat.le_trans (List.length_filter_le ..) (by rw [List.length_range]; exact Nat.le_refl _)
    refine ⟨_, rfl, p, _, rfl, SqL.of hV.1, for_it (walk_enum (K := K) (a := p) (xs := rf va (valuesD S F))) (fun i σ H' => ∃ v1 v2 v3 : Option V, σ = [some (.ref p), v1, v2, v3] ∧ Same H H' ∧ ∀ x ∈ (valuesD S F).take i, ∀ y ∈ valuesD S F, clashD S F x y = false) ⟨none, none, none, rfl, .refl _, fun x hx => by cases hx⟩ (fun i σ H' _ ⟨_, _, _, _, s, _⟩ => s.seq (SqL.of hV.1)) ?_ ?_⟩
    · rintro i x σ H1 H2 hi ⟨v1, v2, v3, rfl, s1, hno⟩ ⟨tp, t1, t2, rfl, htp, rfl, hu, hv⟩
      have hi : i < (valuesD S F).length := by unfold rf at hi; rw [List.length_map] at hi; exact hi
      obtain ⟨u, hu0⟩ := get_of_lt hi
      have hv : (rf va (valuesD S F))[i]? = some t2 := hv
      unfold rf at hv
      rw [List.getElem?_map, hu0] at hv
      cases hv
      cases hu
      have hum := List.mem_of_getElem? hu0
      have s2 : Same H (upd H1 tp (.tup [V.int i, V.ref (va u)])) := s1.trans (same_upd htp)
      refine ⟨tp, _, rfl, SqT.of upd_same, rfl, _, _, rfl, _, _, rfl, rfl, ?_⟩
      generalize upd H1 tp (.tup [V.int i, V.ref (va u)]) = H2 at s2 ⊢
      -- values[place + 1:]
      refine ⟨_, rfl, _, rfl, _, _, rfl, rfl, _, rfl, p, _, rfl, SqL.of (s2 _ _ hV.1), fun r hr => ?_⟩
      have ecut : cutV (rf va (valuesD S F)) (some ((i : Int) + 1)) none = rf va ((valuesD S F).drop (i + 1)) := by
        unfold rf
        rw [cut_drop, List.map_drop]
      have s3 : Same H (upd H2 r (.lst (cutV (rf va (valuesD S F)) (some ((i : Int) + 1)) none))) := s2.trans (same_upd hr)
      have hR : (upd H2 r (.lst (cutV (rf va (valuesD S F)) (some ((i : Int) + 1)) none))) r = some (.lst (rf va ((valuesD S F).drop (i + 1)))) := by
        rw [upd_same, ecut]
      generalize upd H2 r (.lst (cutV (rf va (valuesD S F)) (some ((i : Int) + 1)) none)) = H3 at s3 hR ⊢
      refine ⟨r, rfl, ⟨_, SqL.of hR⟩, for_list (K := K) (a := r) (xs := rf va ((valuesD S F).drop (i + 1))) (fun j σ H' => ∃ v3 : Option V, σ = [some (.ref p), some (.int i), some (.ref (va u)), v3] ∧ Same H3 H' ∧ ∀ y ∈ ((valuesD S F).drop (i + 1)).take j, clashD S F u y = false) ⟨v3, rfl, .refl _, fun x hx => by cases hx⟩ (fun i σ H' _ ⟨_, _, s, _⟩ => s.seq (SqL.of hR)) ?_ ?_⟩
      · rintro j y σ H4 hj ⟨v3, rfl, s4, hno2⟩
        unfold rf at hj
        rw [List.getElem?_map] at hj
        obtain ⟨v, hv0, rfl⟩ := Option.map_eq_some_iff.mp hj
        have hvd := List.mem_of_getElem? hv0
        have hvm : v ∈ valuesD S F := List.mem_of_mem_drop hvd
        have s5 := s3.trans s4
        have nuv : u ≠ v := fun e => by
          have nd := valuesD_nodup (S := S) (F := F)
          rw [drop_split hu0] at nd
          exact (List.nodup_cons.mp (List.nodup_append.mp nd).2.1).1 (e ▸ hvd)
        have Vu := (hV.2 u hum).same s5
        have Vv := (hV.2 v hvm).same s5
        have go : ∀ b : Bool, clashD S F u v = b → b = false → ∃ v3 : Option V, [some (V.ref p), some (.int i), some (.ref (va u)), some (.ref (va v))] = [some (V.ref p), some (.int i), some (.ref (va u)), v3] ∧ Same H3 H4 ∧ ∀ y ∈ ((valuesD S F).drop (i + 1)).take (j + 1), clashD S F u y = false := fun b e1 e2 => by
          refine ⟨_, rfl, s4, fun y hy => ?_⟩
          rw [take_succ hv0] at hy
          rcases List.mem_append.mp hy with hy | hy
          · exact hno2 y hy
          · rw [List.mem_singleton.mp hy, e1, e2]
        have ec : clashD S F u v = (decide (firstD S F u < lastD S F v) && decide (firstD S F v < lastD S F u)) := by
          unfold clashD
          rw [bne_iff_ne.mpr nuv, Bool.true_and]
        obtain ⟨du, lu, eu, _⟩ := id Vu
        obtain ⟨dv, lv, ev, _⟩ := id Vv
        refine ⟨_, rfl, _, rfl, va u, va v, du, dv, _, _, _, _, rfl, eu, ev, rfl, rfl, _, rfl, ?_⟩
        rw [lt_int]
        refine ite2 (fun q1 => ?_) fun q1 => ?_
        · refine ⟨_, rfl, _, rfl, va v, va u, dv, du, _, _, _, _, rfl, ev, eu, rfl, rfl, _, rfl, ?_⟩
          rw [lt_int]
          refine ite2 (fun q2 => ?_) fun q2 => ?_
          · rw [q1, q2] at ec
            have hf : firstClashD S F = some (u, v) := by
              have e1 := drop_split hu0
              have e2 := drop_split hv0
              refine clash_some_of e1 hno (C := (valuesD S F).take i ++ u :: ((valuesD S F).drop (i + 1)).take j) (D := ((valuesD S F).drop (i + 1)).drop (j + 1)) ?_ ?_ ec
              · rw [List.append_assoc, List.cons_append, ← e2]
                exact e1
              · intro y hy
                rcases List.mem_append.mp hy with hy | hy
                · rw [clash_sym]
                  exact hno y hy u hum
                · rcases List.mem_cons.mp hy with rfl | hy
                  · exact clash_self _
                  · exact hno2 y hy
            refine ⟨_, rfl, _, rfl, (by show 2 ≤ sizeLine; decide), fun t ht => ?_⟩
            exact k1 u v hf hum hvm _ t (s5.trans (same_upd ht)) (Same.free s5 ht) upd_same
          · have q2 : decide (firstD S F v < lastD S F u) = false := by simpa using q2
            rw [q2, Bool.and_false] at ec
            exact go _ ec rfl
        · have q1 : decide (firstD S F u < lastD S F v) = false := by simpa using q1
          rw [q1, Bool.false_and] at ec
          exact go _ ec rfl
      · rintro σ H4 ⟨v3, rfl, s4, hno2⟩
        have hno2 : ∀ y ∈ (valuesD S F).drop (i + 1), clashD S F u y = false := fun y hy => hno2 y (by unfold rf; rw [List.length_map, List.take_length]; exact hy)
        refine ⟨_, _, _, rfl, s3.trans s4, fun x hx y hy => ?_⟩
        rw [take_succ hu0] at hx
        rcases List.mem_append.mp hx with hx | hx
        · exact hno x hx y hy
        · rw [List.mem_singleton.mp hx]
          rw [drop_split hu0] at hy
          rcases List.mem_append.mp hy with hy | hy
          · rw [clash_sym]
            exact hno y hy u hum
          · rcases List.mem_cons.mp hy with rfl | hy
            · exact clash_self _
            · exact hno2 y hy
    · rintro σ H1 ⟨v1, v2, v3, rfl, s1, hno⟩
      have hno : ∀ x ∈ valuesD S F, ∀ y ∈ valuesD S F, clashD S F x y = false := fun x hx => hno x (by unfold rf; rw [List.length_map, List.take_length]; exact hx)
      exact k0 (clash_none_of hno) H1 s1
def spNext (T : Txt K mg) : Sp := fun vs H Q _ => ∃ (q p : Addr) (va ad : Nat → Addr) (S : List Nat) (F : Nat → Su149.Op) (v : Nat) (l : List Nat), vs = [.ref q, .ref p] ∧ ValAt T H q ad S F v ∧ Vals_ T H p va ad S F l ∧ l.length ≤ 41 ∧ ∀ H', Same H H' → Q (.bl (nextD S F l v)) H'
theorem ok_may_be_next (T : Txt K mg) : FnOk P w K mg base CX0 2 T.d_may_be_next.f T.d_may_be_next.fd ["value", "left"] (spNext T) := by
  have G_comes_ahead := ok_comes_ahead (P := P) (w := w) (base := base) T
  refine T.d_may_be_next.F.ok sc_may_be_next (fun vs H Q E h => ?_) (fun cdv A outer s H vs Q E hr h => ⟨_, (pss_one (ps_ret (pe_not (pe_callB (cr_any rfl) (by rfl) T.b_any (by decide +kernel) (pa_cons (pe_lc (own := [("other", 2)]) (g := gName 2) (tt := (tTest (tOp rNe (tFld K (tVar 2) "value") (tFld K (tVar 0) "value")))) (te := (tCall (spAhead T) [] _ (tCons (tVar 2) (tCons (tVar 0) tNil)))) (by rfl) sc_may_be_next.nd (pi_list (pv 1)) (blkOk_by (own := [("other", 2)]) (N := ["value", "left", "other"]) (sc := defScope s_may_be_next) (by decide +kernel)) (fun _ _ _ _ _ => by exact pg_name (i := 2) sc_may_be_next.nd rfl (Or.inl rfl)) (fun _ _ _ _ _ => by exact (pts_one (pt_cmpR op_ne (pe_fld (pv 2) rfl) (pe_fld (pv 0) rfl) (nomark _)))) (fun _ _ _ _ _ => by exact (pe_call G_comes_ahead (hr.mono (by decide)) (by rfl) T.d_comes_ahead.g T.d_comes_ahead.F.kp T.d_comes_ahead.b .nil pass0 (pa_cons (pv 2) (pa_cons (pv 0) pa_nil))))) pa_nil))))), ?_⟩)
  · obtain ⟨q, p, va, ad, S, F, v, l, rfl, hq, hV, hl, k⟩ := h
    rfl
  · obtain ⟨q, p, va, ad, S, F, v, l, rfl, hq, hV, hl, k⟩ := h
    refine ⟨_, rfl, _, rfl, ⟨_, SqL.of hV.1⟩, fun D hD => lc_pure (p := fun u => u != v) (v := fun u => V.bl (decide (firstD S F u < lastD S F v))) (SqL.of hV.1) (by omega) hD ?_ fun H1 s1 hD1 => ?_⟩
    · intro u hu H1 s1 Y N hy hn
      have hu1 := (hV.2 u hu).same s1
      have hq1 := hq.same s1
      obtain ⟨d1, l1, e1, _⟩ := id hu1
      obtain ⟨d2, l2, e2, _⟩ := id hq1
      refine ⟨rfl, _, rfl, va u, _, d1, _, _, rfl, e1, T.c_Value.cl, T.c_Value.n _ (by decide +kernel), rfl, _, rfl, q, _, d2, _, _, rfl, e2, T.c_Value.cl, T.c_Value.n _ (by decide +kernel), rfl, rfl, _, rfl, ?_⟩
      have eb : (!decide (V.int ((u : Nat) : Int) = V.int ((v : Nat) : Int))) = (u != v) := by
        rw [int_dec]
        by_cases h : u = v <;> simp [h]
      rw [eb]
      refine pickB (fun qq => ?_) fun qq => hn qq _ (.refl _)
      refine ⟨_, rfl, _, rfl, va u, q, d1, d2, _, _, _, _, rfl, e1, e2, rfl, rfl, ?_⟩
      rw [lt_int]
      exact hy qq _ (.refl _)
    · have hD2 : H1 D = some (.lst (((l.filter fun u => u != v).map fun u => decide (firstD S F u < lastD S F v)).map V.bl)) := by
        rw [hD1, List.map_map]
        rfl
      refine ⟨D, _, rfl, SqL.of hD2, _, rfl, ?_⟩
      have e : (!(((l.filter fun u => u != v).map fun u => decide (firstD S F u < lastD S F v)).any id)) = nextD S F l v := by
        unfold nextD
        rw [List.any_map, List.any_filter]
        rfl
      rw [e]
      exact k H1 s1
end
end Ea

/-! The bodies of moments.py: what shows a clash; why. -/
namespace Ea
open PySem PySem.Spec PyProof.Rows L2
theorem cut_one {l : List V} : cutV l none (some 1) = l.take 1 := by
  unfold cutV
  rw [show (1 : Int) = ((1 : Nat) : Int) from rfl, HT.sIx_nat, HT.sIx_none]
  show (l.take _) = _
  rw [Nat.sub_zero]
  by_cases h : 1 ≤ l.length
  · rw [Nat.min_eq_left h]
  · rw [Nat.min_eq_right (by omega), List.take_of_length_le (Nat.le_refl _), List.take_of_length_le (by omega)]
theorem natV_app (a b : List Nat) : natV (a ++ b) = natV a ++ natV b := List.map_append
theorem natV_take (a : List Nat) (n : Nat) : natV (a.take n) = (natV a).take n := List.map_take
theorem natV_int (l : List Nat) : natV l = (l.map fun n : Nat => (n : Int)).map V.int := by
  unfold natV
  rw [List.map_map]
  rfl
/-- what shows of a value that it clashes -/
def shownL (S : List Nat) (F : Nat → Su149.Op) (v : Nat) : List Nat := enderD S F v ++ beginnerD S F v ++ writerD S F v
theorem shown_len {S : List Nat} {F : Nat → Su149.Op} (h : Hist S F) (v : Nat) : (shownL S F v).length ≤ 22 := by
  unfold shownL enderD beginnerD writerD
  rw [List.length_append, List.length_append, List.length_take, List.length_take]
  have := List.length_filter_le (fun k => (F k).wr) (ofD S F v)
  have l2 : (ofD S F v).length ≤ S.length := List.length_filter_le ..
  have := h.len
  omega
/-! ### the writings by their values -/
def wkL (F : Nat → Su149.Op) (ad : Nat → Addr) (A : List Nat) : List (Key × V) := A.map fun k : Nat => (Sum.inl (((F k).v : Nat) : Int), V.ref (ad k))
theorem valV_wkL {F : Nat → Su149.Op} {ad : Nat → Addr} (v : Nat) : ∀ A : List Nat, valV (wkL F ad A) (Sum.inl (v : Int)) = (A.find? fun k => (F k).v == v).map fun k => V.ref (ad k)
  | [] => rfl
  | k :: A => by
    show valV ((Sum.inl (((F k).v : Nat) : Int), V.ref (ad k)) :: wkL F ad A) (Sum.inl (v : Int)) = _
    by_cases e : (F k).v = v
    · rw [valV_pos (by rw [e]), List.find?_cons_of_pos (p := fun k => (F k).v == v) (by rw [e]; exact beq_self_eq_true _)]
      rfl
    · rw [valV_neg (fun z => e (by have := Sum.inl.inj z; omega)), valV_wkL v A, List.find?_cons_of_neg (p := fun k => (F k).v == v) (by rw [beq_iff_eq]; exact e)]
def wrL (S : List Nat) (F : Nat → Su149.Op) : List Nat := S.filter fun k => (F k).wr
theorem written_is {S : List Nat} {F : Nat → Su149.Op} (v : Nat) : ((wrL S F).find? fun k => (F k).v == v).isSome = writtenD S F v := by
  unfold wrL writtenD
  rw [find_filter, Bool.eq_iff_iff, List.find?_isSome, List.any_eq_true]
section
variable {S : List Nat} {F : Nat → Su149.Op}
theorem why_1 {k : Nat} (h : firstNowhereD S F = some k) : whyD S F = 1 ∧ fewD S F = [k] := by
  unfold whyD fewD
  rw [h]
  exact ⟨rfl, rfl⟩
theorem why_2 {k j : Nat} (h : firstNowhereD S F = none) (h2 : firstEarlyD S F = some (k, j)) : whyD S F = 2 ∧ fewD S F = Su149.sortBy id [k, j] := by
  unfold whyD fewD
  rw [h, h2]
  exact ⟨rfl, rfl⟩
theorem why_3 {u v : Nat} (h : firstNowhereD S F = none) (h2 : firstEarlyD S F = none) (h3 : firstClashD S F = some (u, v)) : whyD S F = 3 ∧ fewD S F = Su149.sortBy id (Su149.once (shownL S F u ++ shownL S F v)) := by
  unfold whyD fewD shownL
  rw [h, h2, h3]
  refine ⟨rfl, ?_⟩
  show Su149.sortBy id (Su149.once _) = _
  rw [List.append_assoc, List.append_assoc, List.append_assoc]
theorem why_0 (h : firstNowhereD S F = none) (h2 : firstEarlyD S F = none) (h3 : firstClashD S F = none) : whyD S F = 0 ∧ fewD S F = [] := by
  unfold whyD fewD
  rw [h, h2, h3]
  exact ⟨rfl, rfl⟩
theorem kept_why : keptD S F = decide (whyD S F = 0) := by
  unfold keptD whyD
  cases firstNowhereD S F with
  | some k => rfl
  | none =>
    cases firstEarlyD S F with
    | some k => rfl
    | none =>
      cases firstClashD S F with
      | some k => rfl
      | none => rfl
theorem clash_mem {u v : Nat} (h : firstClashD S F = some (u, v)) : u ∈ valuesD S F ∧ v ∈ valuesD S F := mem_pairs (List.mem_of_find?_eq_some h)
end
theorem sorted_nat {ns : List Int} {X : List Nat} (hs : ns.Pairwise (· < ·)) (hm : ∀ k : Int, k ∈ ns ↔ decide (k ∈ X.map fun n : Nat => (n : Int)) = true) : ns.map V.int = natV (Su149.sortBy id (Su149.once X)) := by
  have nn : ∀ y ∈ ns, 0 ≤ y := fun y hy => by
    obtain ⟨n, _, e⟩ := List.mem_map.mp (of_decide_eq_true ((hm y).mp hy))
    omega
  have e0 : ns = (ns.map Int.toNat).map fun n : Nat => (n : Int) := by
    rw [List.map_map]
    refine (List.map_id ns).symm.trans (List.map_congr_left fun y hy => ?_)
    have := nn y hy
    show y = ((y.toNat : Nat) : Int)
    omega
  have key : ns.map Int.toNat = Su149.sortBy id (Su149.once X) := by
    refine sort_once ?_ fun x => ?_
    · rw [List.pairwise_map]
      exact List.Pairwise.imp_of_mem (fun ha hb h => by have := nn _ ha; have := nn _ hb; omega) hs
    · constructor
      · intro hx
        obtain ⟨y, hy, e⟩ := List.mem_map.mp hx
        obtain ⟨n, hn, e2⟩ := List.mem_map.mp (of_decide_eq_true ((hm y).mp hy))
        have : x = n := by omega
        exact this ▸ hn
      · intro hx
        exact List.mem_map.mpr ⟨(x : Int), (hm _).mpr (decide_eq_true (List.mem_map.mpr ⟨x, hx, rfl⟩)), by omega⟩
  rw [natV_int, ← key]
  exact congrArg (List.map V.int) e0
section
variable {P : Program} {w : World} {K : PySem.W.Frag} {mg : Str → Option Value} {base : Heap}
def spShown (T : Txt K mg) : Sp := fun vs H Q _ => ∃ (q : Addr) (ad : Nat → Addr) (S : List Nat) (F : Nat → Su149.Op) (v : Nat), vs = [.ref q] ∧ ValAt T H q ad S F v ∧ TAll T.c_Told.C H ad S F ∧ Hist S F ∧
  ∀ (H' : Hp) (p : Addr), Same H H' → H p = none → H' p = some (.lst (natV (shownL S F v))) → Q (.ref p) H'
theorem eq_nat {i j : Nat} : decide (V.int (i : Int) = V.int (j : Int)) = (i == j) := by
  rw [int_dec, Bool.beq_eq_decide_eq]
theorem ok_shown_of (T : Txt K mg) : FnOk P w K mg base CX0 1 T.d_shown_of.f T.d_shown_of.fd ["value"] (spShown T) := by
  refine T.d_shown_of.F.ok sc_shown_of (fun vs H Q E h => ?_) (fun cdv A outer s H vs Q E hr h => ⟨_, (pss_cons (ps_setLc (i := 1) (own := [("op", 4)]) (g := gName 4) (tt := (tTest (tOp rEq (tFld K (tVar 4) "ended") (tFld K (tVar 0) "first_end")))) (te := (tFld K (tVar 4) "number")) (by rfl) sc_shown_of.nd rfl rfl (sw_true rfl rfl rfl (by decide +kernel)) (pi_list (pe_fld (pv 0) rfl)) (blkOk_by (own := [("op", 4)]) (N := ["value", "ending", "beginning", "writing", "op"]) (sc := defScope s_shown_of) (by decide +kernel)) (fun _ _ _ _ _ => by exact pg_name (i := 4) sc_shown_of.nd rfl (Or.inl rfl)) (fun _ _ _ _ _ => by exact (pts_one (pt_cmpR op_eq (pe_fld (pv 4) rfl) (pe_fld (pv 0) rfl) (nomark _)))) (fun _ _ _ _ _ => by exact (pe_fld (pv 4) rfl)))
      (pss_cons (ps_setLc (i := 2) (own := [("op", 4)]) (g := gName 4) (tt := (tTest (tOp rEq (tFld K (tVar 4) "began") (tFld K (tVar 0) "last_beginning")))) (te := (tFld K (tVar 4) "number")) (by rfl) sc_shown_of.nd rfl rfl (sw_true rfl rfl rfl (by decide +kernel)) (pi_list (pe_fld (pv 0) rfl)) (blkOk_by (own := [("op", 4)]) (N := ["value", "ending", "beginning", "writing", "op"]) (sc := defScope s_shown_of) (by decide +kernel)) (fun _ _ _ _ _ => by exact pg_name (i := 4) sc_shown_of.nd rfl (Or.inl rfl)) (fun _ _ _ _ _ => by exact (pts_one (pt_cmpR op_eq (pe_fld (pv 4) rfl) (pe_fld (pv 0) rfl) (nomark _)))) (fun _ _ _ _ _ => by exact (pe_fld (pv 4) rfl)))
      (pss_cons (ps_setLc (i := 3) (own := [("op", 4)]) (g := gName 4) (tt := (tB (tFld K (tVar 4) "writing"))) (te := (tFld K (tVar 4) "number")) (by rfl) sc_shown_of.nd rfl rfl (sw_true rfl rfl rfl (by decide +kernel)) (pi_list (pe_fld (pv 0) rfl)) (blkOk_by (own := [("op", 4)]) (N := ["value", "ending", "beginning", "writing", "op"]) (sc := defScope s_shown_of) (by decide +kernel)) (fun _ _ _ _ _ => by exact pg_name (i := 4) sc_shown_of.nd rfl (Or.inl rfl)) (fun _ _ _ _ _ => by exact (pts_one (pt_val (pe_fld (pv 4) rfl)))) (fun _ _ _ _ _ => by exact (pe_fld (pv 4) rfl)))
      (pss_one (ps_ret (pe_op op_cat (pe_op op_cat (pe_slice sl_list (pv 1) po_none (po_some pe_int)) (pe_slice sl_list (pv 2) po_none (po_some pe_int))) (pv 3))))))), ?_⟩)
  · obtain ⟨q, ad, S, F, v, rfl, hq, hT, hh, k⟩ := h
    rfl
  · obtain ⟨q, ad, S, F, v, rfl, hq, hT, hh, k⟩ := h
    have few : (ofD S F v).length ≤ 1000 := Nat.le_trans (List.length_filter_le ..) (Nat.le_trans hh.len (by decide))
    have r0 : Same H H := .refl _
    obtain ⟨dq1, lq1, hq1, hl1⟩ := hq.same r0
    refine ⟨_, rfl, q, _, dq1, _, _, rfl, hq1, T.c_Value.cl, T.c_Value.n _ (by decide +kernel), rfl, _, rfl, ⟨_, SqL.of hl1⟩, fun D1 hD1 => lc_pure (A := ofD S F v) (p := fun k => (F k).upto == firstD S F v) (v := fun k => V.int (k : Int)) (SqL.of hl1) few hD1 ?_ fun H1 t1 l1 => ?_⟩
    · intro x hx H4 s4 Y N hy hn
      obtain ⟨dt, e⟩ := (hT x (mem_ofD.mp hx).1).same (r0.trans s4)
      have hq4 := s4 _ _ hq1
      refine ⟨rfl, _, rfl, ad x, _, dt, _, _, rfl, e, T.c_Told.cl, T.c_Told.n _ (by decide +kernel), rfl, _, rfl, q, _, dq1, _, _, rfl, hq4, T.c_Value.cl, T.c_Value.n _ (by decide +kernel), rfl, rfl, _, rfl, ?_⟩
      rw [eq_nat]
      exact pickB (fun qq => ⟨_, rfl, ad x, _, dt, _, _, rfl, e, T.c_Told.cl, T.c_Told.n _ (by decide +kernel), rfl, hy qq _ (.refl _)⟩) fun qq => hn qq _ (.refl _)
    have s1 : Same H H1 := t1
    obtain ⟨dq2, lq2, hq2, hl2⟩ := hq.same s1
    refine ⟨_, rfl, q, _, dq2, _, _, rfl, hq2, T.c_Value.cl, T.c_Value.n _ (by decide +kernel), rfl, _, rfl, ⟨_, SqL.of hl2⟩, fun D2 hD2 => lc_pure (A := ofD S F v) (p := fun k => (F k).since == lastD S F v) (v := fun k => V.int (k : Int)) (SqL.of hl2) few hD2 ?_ fun H2 t2 l2 => ?_⟩
    · intro x hx H4 s4 Y N hy hn
      obtain ⟨dt, e⟩ := (hT x (mem_ofD.mp hx).1).same (s1.trans s4)
      have hq4 := s4 _ _ hq2
      refine ⟨rfl, _, rfl, ad x, _, dt, _, _, rfl, e, T.c_Told.cl, T.c_Told.n _ (by decide +kernel), rfl, _, rfl, q, _, dq2, _, _, rfl, hq4, T.c_Value.cl, T.c_Value.n _ (by decide +kernel), rfl, rfl, _, rfl, ?_⟩
      rw [eq_nat]
      exact pickB (fun qq => ⟨_, rfl, ad x, _, dt, _, _, rfl, e, T.c_Told.cl, T.c_Told.n _ (by decide +kernel), rfl, hy qq _ (.refl _)⟩) fun qq => hn qq _ (.refl _)
    have s2 : Same H H2 := s1.trans t2
    obtain ⟨dq3, lq3, hq3, hl3⟩ := hq.same s2
    refine ⟨_, rfl, q, _, dq3, _, _, rfl, hq3, T.c_Value.cl, T.c_Value.n _ (by decide +kernel), rfl, _, rfl, ⟨_, SqL.of hl3⟩, fun D3 hD3 => lc_pure (A := ofD S F v) (p := fun k => (F k).wr) (v := fun k => V.int (k : Int)) (SqL.of hl3) few hD3 ?_ fun H3 t3 l3 => ?_⟩
    · intro x hx H4 s4 Y N hy hn
      obtain ⟨dt, e⟩ := (hT x (mem_ofD.mp hx).1).same (s2.trans s4)
      have hq4 := s4 _ _ hq3
      refine ⟨rfl, _, rfl, ad x, _, dt, _, _, rfl, e, T.c_Told.cl, T.c_Told.n _ (by decide +kernel), rfl, _, rfl, ?_⟩
      exact pickB (fun qq => ⟨_, rfl, ad x, _, dt, _, _, rfl, e, T.c_Told.cl, T.c_Told.n _ (by decide +kernel), rfl, hy qq _ (.refl _)⟩) fun qq => hn qq _ (.refl _)
    have s3 : Same H H3 := s2.trans t3
    have z1 : H3 D1 = some (.lst (natV ((ofD S F v).filter fun k => (F k).upto == firstD S F v))) := t3 _ _ (t2 _ _ l1)
    have z2 : H3 D2 = some (.lst (natV ((ofD S F v).filter fun k => (F k).since == lastD S F v))) := t3 _ _ l2
    have z3 : H3 D3 = some (.lst (natV (writerD S F v))) := l3
    have line : ∀ {n : Nat}, n ≤ 1000 → n ≤ sizeLine := fun h => Nat.le_trans h (by decide)
    have f1 : (enderD S F v).length ≤ 1 := by unfold enderD; rw [List.length_take]; omega
    have f2 : (beginnerD S F v).length ≤ 1 := by unfold beginnerD; rw [List.length_take]; omega
    have f3 : (writerD S F v).length ≤ 20 := Nat.le_trans (List.length_filter_le ..) (Nat.le_trans (List.length_filter_le ..) hh.len)
    refine ⟨_, rfl, _, rfl, D1, _, rfl, SqL.of z1, fun a1 n1 => ?_⟩
    have c1 : Same H3 (upd H3 a1 (.lst (cutV (natV ((ofD S F v).filter fun k => (F k).upto == firstD S F v)) none (some 1)))) := same_upd n1
    have y1 : (upd H3 a1 (.lst (cutV (natV ((ofD S F v).filter fun k => (F k).upto == firstD S F v)) none (some 1)))) a1 = some (.lst (natV (enderD S F v))) := by
      rw [upd_same, cut_one, ← natV_take]
      rfl
    generalize upd H3 a1 (.lst (cutV (natV ((ofD S F v).filter fun k => (F k).upto == firstD S F v)) none (some 1))) = H4 at c1 y1 ⊢
    refine ⟨_, rfl, _, rfl, D2, _, rfl, SqL.of (c1 _ _ z2), fun a2 n2 => ?_⟩
    have c2 : Same H4 (upd H4 a2 (.lst (cutV (natV ((ofD S F v).filter fun k => (F k).since == lastD S F v)) none (some 1)))) := same_upd n2
    have y2 : (upd H4 a2 (.lst (cutV (natV ((ofD S F v).filter fun k => (F k).since == lastD S F v)) none (some 1)))) a2 = some (.lst (natV (beginnerD S F v))) := by
      rw [upd_same, cut_one, ← natV_take]
      rfl
    generalize upd H4 a2 (.lst (cutV (natV ((ofD S F v).filter fun k => (F k).since == lastD S F v)) none (some 1))) = H5 at c2 y2 ⊢
    refine ⟨_, _, _, _, rfl, rfl, c2 _ _ y1, y2, (by rw [natV_len, natV_len]; exact line (by omega)), fun a3 n3 => ?_⟩
    have c3 : Same H5 (upd H5 a3 (.lst (natV (enderD S F v) ++ natV (beginnerD S F v)))) := same_upd n3
    have c13 := c1.trans (c2.trans c3)
    refine ⟨_, rfl, _, _, _, _, rfl, rfl, upd_same, c13 _ _ z3, (by rw [List.length_append, natV_len, natV_len, natV_len]; exact line (by omega)), fun a4 n4 => ?_⟩
    have sA := s3.trans c13
    refine k _ a4 (sA.trans (same_upd n4)) (Same.free sA n4) ?_
    rw [upd_same]
    unfold shownL
    rw [natV_app, natV_app]
end
end Ea

/-! The bodies of moments.py: why. -/
namespace Ea
open PySem PySem.Spec PyProof.Rows L2
theorem wk_snoc {F : Nat → Su149.Op} {ad : Nat → Addr} {S : List Nat} {i x : Nat} (hh : Hist S F) (hx : S[i]? = some x) (hw : (F x).wr = true) : putK (wkL F ad (wrL (S.take i) F)) (Sum.inl (((F x).v : Nat) : Int)) (V.ref (ad x)) = wkL F ad (wrL (S.take (i + 1)) F) := by
  have hm := List.mem_of_getElem? hx
  have nx : x ∉ S.take i := fun h => by
    have nd := hh.nodup
    have e := drop_split hx
    rw [e] at nd
    exact (List.nodup_append.mp nd).2.2 x h x (List.mem_cons_self ..) rfl
  have z : valV (wkL F ad (wrL (S.take i) F)) (Sum.inl (((F x).v : Nat) : Int)) = none := by
    rw [valV_wkL, Option.map_eq_none_iff, List.find?_eq_none]
    intro j hj q
    obtain ⟨hj, wj⟩ := List.mem_filter.mp hj
    have := hh.uniq j (List.mem_of_mem_take hj) x hm wj hw (by simpa using q)
    exact nx (this ▸ hj)
  rw [putK_new _ z]
  unfold wrL
  rw [take_succ hx, List.filter_append, List.filter_cons_of_pos (p := fun k => (F k).wr) hw]
  unfold wkL
  rw [List.map_append]
  rfl
theorem wk_skip {F : Nat → Su149.Op} {S : List Nat} {i x : Nat} (hx : S[i]? = some x) (hw : (F x).wr = false) : wrL (S.take (i + 1)) F = wrL (S.take i) F := by
  unfold wrL
  rw [take_succ hx, List.filter_append, List.filter_cons_of_neg (p := fun k => (F k).wr) (by rw [hw]; exact Bool.false_ne_true), List.filter_nil, List.append_nil]
theorem R0_mem {S : List Nat} {F : Nat → Su149.Op} {k : Nat} (h : k ∈ R0 S F) : k ∈ S ∧ (F k).wr = false := by
  obtain ⟨h, _⟩ := List.mem_filter.mp h
  obtain ⟨h, h2⟩ := List.mem_filter.mp h
  exact ⟨h, by simpa using h2⟩
theorem find_at {α : Type} {l : List α} {p : α → Bool} {i : Nat} {x : α} (hx : l[i]? = some x) (hn : ∀ y ∈ l.take i, p y = false) (h : p x = true) : l.find? p = some x := by
  rw [drop_split hx, List.find?_append]
  have : (l.take i).find? p = none := List.find?_eq_none.mpr fun y hy => by rw [hn y hy]; exact Bool.false_ne_true
  rw [this, List.find?_cons_of_pos h]
  rfl
theorem findSome_at {α β : Type} {l : List α} {f : α → Option β} {i : Nat} {x : α} {b : β} (hx : l[i]? = some x) (hn : ∀ y ∈ l.take i, f y = none) (h : f x = some b) : l.findSome? f = some b := by
  rw [drop_split hx, List.findSome?_append]
  have : (l.take i).findSome? f = none := List.findSome?_eq_none_iff.mpr hn
  rw [this, List.findSome?_cons, h]
  rfl
section
variable {P : Program} {w : World} {K : PySem.W.Frag} {mg : Str → Option Value} {base : Heap}
def spWhy (T : Txt K mg) : Sp := fun vs H Q _ => ∃ (p : Addr) (ad : Nat → Addr) (S : List Nat) (F : Nat → Su149.Op), vs = [.ref p] ∧ Told T H p ad S F ∧ Hist S F ∧
  ∀ (H' : Hp) (q : Addr), Same H H' → H' q = none → Q (.ref q) (upd H' q (.lst (natV (whyD S F :: fewD S F))))
theorem ok_why_not (T : Txt K mg) : FnOk P w K mg base CX0 4 T.d_why_not.f T.d_why_not.fd ["told"] (spWhy T) := by
  have G_readings_of := ok_readings_of (P := P) (w := w) (base := base) T
  have G_values_there_are := ok_values_there_are (P := P) (w := w) (base := base) T
  have G_first_clash := ok_first_clash (P := P) (w := w) (base := base) T
  have G_shown_of := ok_shown_of (P := P) (w := w) (base := base) T
  refine T.d_why_not.F.ok sc_why_not (fun vs H Q E h => ?_) (fun cdv A outer s H vs Q E hr h => ⟨_, (pss_cons (ps_set (i := 1) sc_why_not.nd rfl (Or.inl rfl) pe_dnewK)
      (pss_cons (ps_for PassesOwn.never rfl (pi_list (pv 0)) (pg_name (i := 2) sc_why_not.nd rfl (Or.inl rfl))
        (pss_one (ps_if (pt_val (pe_fld (pv 2) rfl))
          (pss_one (ps_dput (hu_of hr) (pv 1) (pe_fld (pv 2) rfl) (pv 2) rfl))
          pss_nil)))
      (pss_cons (ps_setLc (i := 3) (own := [("op", 2)]) (g := gName 2) (tt := (tTest (tOp rNe (tFld K (tVar 2) "value") (L2.tC (.int 0))))) (te := (tVar 2)) (by rfl) sc_why_not.nd rfl rfl (sw_true rfl rfl rfl (by decide +kernel)) (pi_list (pe_call G_readings_of (hr.mono (by decide)) (by rfl) T.d_readings_of.g T.d_readings_of.F.kp T.d_readings_of.b .nil pass0 (pa_cons (pv 0) pa_nil))) (blkOk_by (own := [("op", 2)]) (N := ["told", "writings", "op", "readings", "writing", "clash"]) (sc := defScope s_why_not) (by decide +kernel)) (fun _ _ _ _ _ => by exact pg_name (i := 2) sc_why_not.nd rfl (Or.inl rfl)) (fun _ _ _ _ _ => by exact (pts_one (pt_cmpR op_ne (pe_fld (pv 2) rfl) pe_int (nomark _)))) (fun _ _ _ _ _ => by exact (pv 2)))
      (pss_cons (ps_for PassesOwn.never rfl (pi_list (pv 3)) (pg_name (i := 2) sc_why_not.nd rfl (Or.inl rfl))
        (pss_one (ps_if (pt_cmp (pc_dnotin (hu_of hr) (pe_fld (pv 2) rfl) (pv 1)))
          (pss_one (ps_ret (pe_lst (pa_cons (pe_gc (by rfl) T.k_NOBODY_WRITES) (pa_cons (pe_fld (pv 2) rfl) pa_nil)))))
          pss_nil)))
      (pss_cons (ps_for PassesOwn.never rfl (pi_list (pv 3)) (pg_name (i := 2) sc_why_not.nd rfl (Or.inl rfl))
        (pss_cons (ps_set (i := 4) sc_why_not.nd rfl (Or.inl rfl) (pe_dget (hu_of hr) (pv 1) (pe_fld (pv 2) rfl) (fun _ _ => rfl)))
        (pss_one (ps_if (pt_cmpR op_lt (pe_fld (pv 2) rfl) (pe_fld (pv 4) rfl) (nomark _))
          (pss_one (ps_ret (pe_op op_cat (pe_lst (pa_cons (pe_gc (by rfl) T.k_ENDED_AHEAD) pa_nil)) (pe_callB cr_sortedI (by rfl) T.b_sorted (by decide +kernel) (pa_cons (pe_lst (pa_cons (pe_fld (pv 2) rfl) (pa_cons (pe_fld (pv 4) rfl) pa_nil))) pa_nil)))))
          pss_nil))))
      (pss_cons (ps_set (i := 5) sc_why_not.nd rfl (Or.inl rfl) (pe_call G_first_clash (hr.mono (by decide)) (by rfl) T.d_first_clash.g T.d_first_clash.F.kp T.d_first_clash.b .nil pass0 (pa_cons (pe_call G_values_there_are (hr.mono (by decide)) (by rfl) T.d_values_there_are.g T.d_values_there_are.F.kp T.d_values_there_are.b .nil pass0 (pa_cons (pv 0) pa_nil)) pa_nil)))
      (pss_cons (ps_if (pt_cmp (pc_isN (pv 5)))
        (pss_one (ps_ret (pe_lst (pa_cons (pe_gc (by rfl) T.k_FOUND) pa_nil))))
        pss_nil)
      (pss_one (ps_ret (pe_op op_cat (pe_lst (pa_cons (pe_gc (by rfl) T.k_CLASH) pa_nil)) (pe_callB (cr_sortedSet rfl) (by rfl) T.b_sorted (by decide +kernel) (pa_cons (pe_callTy (cr_setOfI rfl) (by rfl) T.b_set (by decide +kernel) (pa_cons (pe_op op_cat (pe_call G_shown_of (hr.mono (by decide)) (by rfl) T.d_shown_of.g T.d_shown_of.F.kp T.d_shown_of.b .nil pass0 (pa_cons (pe_ix ix_tup (pv 5) pe_int (fun _ _ => rfl)) pa_nil)) (pe_call G_shown_of (hr.mono (by decide)) (by rfl) T.d_shown_of.g T.d_shown_of.F.kp T.d_shown_of.b .nil pass0 (pa_cons (pe_ix ix_tup (pv 5) pe_int (fun _ _ => rfl)) pa_nil))) pa_nil)) pa_nil)))))))))))), ?_⟩)
  · obtain ⟨p, ad, S, F, rfl, hT, hh, k⟩ := h
    rfl
  · obtain ⟨p, ad, S, F, rfl, hT, hh, k⟩ := h
    have line : ∀ {n : Nat}, n ≤ 1000 → n ≤ sizeLine := fun h => Nat.le_trans h (by decide)
    -- writings = {}
    intro d hd
    have hd0 : H d = none := hd
    refine ⟨_, rfl, p, rfl, ⟨_, SqL.of ((same_upd hd0) _ _ hT.1)⟩, for_list (K := K) (a := p) (xs := rf ad S) (fun i σ H' => ∃ v2 v3 v4 v5 : Option V, σ = [some (.ref p), some (.ref d), v2, v3, v4, v5] ∧ Same H H' ∧ H' d = some (.dK (wkL F ad (wrL (S.take i) F)))) ⟨none, none, none, none, rfl, same_upd hd0, upd_same⟩ (fun i σ H' _ ⟨_, _, _, _, _, s, _⟩ => s.seq (SqL.of hT.1)) ?_ ?_⟩
    · rintro i y σ H1 hi ⟨v2, v3, v4, v5, rfl, s1, h1⟩
      unfold rf at hi
      rw [List.getElem?_map] at hi
      obtain ⟨x, hx, rfl⟩ := Option.map_eq_some_iff.mp hi
      obtain ⟨dx, e⟩ := (hT.2 x (List.mem_of_getElem? hx)).same s1
      refine ⟨_, rfl, ad x, _, dx, _, _, rfl, e, T.c_Told.cl, T.c_Told.n _ (by decide +kernel), rfl, _, rfl, ?_⟩
      refine pickB (fun hw => ?_) fun hw => ?_
      · refine ⟨_, rfl, _, rfl, _, rfl, ad x, _, dx, _, _, rfl, e, T.c_Told.cl, T.c_Told.n _ (by decide +kernel), rfl, d, _, rfl, DPut.k (k := Sum.inl (((F x).v : Nat) : Int)) h1 ?_, ?_⟩
        · unfold wkL
          rw [List.length_map]
          have l1 := List.length_filter_le (fun k => (F k).wr) (S.take i)
          have l2 : (S.take i).length ≤ S.length := by rw [List.length_take]; exact Nat.min_le_right _ _
          have := hh.len
          refine small1000 ?_
          unfold wrL
          omega
        · refine ⟨_, _, _, _, rfl, ?_, ?_⟩
          · intro b o eb
            rw [upd_ne (ne_of_none eb hd0)]
            exact s1 _ _ eb
          · rw [upd_same, wk_snoc hh hx hw]
      · exact ⟨_, _, _, _, rfl, s1, by rw [wk_skip hx hw]; exact h1⟩
    · rintro σ H1 ⟨v2, v3, v4, v5, rfl, s1, h1⟩
      have h1 : H1 d = some (.dK (wkL F ad (wrL S F))) := by
        unfold rf at h1
        rw [List.length_map, List.take_length] at h1
        exact h1
      -- readings
      refine ⟨_, rfl, p, ad, S, F, rfl, hT.same s1, hh.len, fun H2 r s2 nr hr => ?_⟩
      refine ⟨r, rfl, ⟨_, SqL.of hr⟩, fun D hD => lc_pure (A := S.filter fun k => !(F k).wr) (p := fun k => (F k).v != 0) (v := fun k => V.ref (ad k)) (SqL.of hr) (Nat.le_trans hh.sub.len (by decide)) hD ?_ fun H3 s3 hD3 => ?_⟩
      · intro x hx H3 s3 Y N hy hn
        obtain ⟨dx, e⟩ := (hT.2 x (memf hx)).same (s1.trans (s2.trans s3))
        refine ⟨rfl, _, rfl, ad x, _, dx, _, _, rfl, e, T.c_Told.cl, T.c_Told.n _ (by decide +kernel), rfl, rfl, _, rfl, ?_⟩
        have eb : (!decide (V.int (((F x).v : Nat) : Int) = V.int 0)) = ((F x).v != 0) := by
          rw [show V.int 0 = V.int ((0 : Nat) : Int) from rfl, eq_nat]
          rfl
        rw [eb]
        exact pickB (fun qq => ⟨_, rfl, hy qq _ (.refl _)⟩) fun qq => hn qq _ (.refl _)
      have s4 := s1.trans (s2.trans s3)
      have hD3 : H3 D = some (.lst (rf ad (R0 S F))) := hD3
      have hd3 := s3 _ _ (s2 _ _ h1)
      have rlen : (R0 S F).length ≤ 20 := Nat.le_trans (List.length_filter_le ..) (Nat.le_trans (List.length_filter_le ..) hh.len)
      -- nobody writes it
      refine ⟨_, rfl, D, rfl, ⟨_, SqL.of hD3⟩, for_list (K := K) (a := D) (xs := rf ad (R0 S F)) (fun i σ H' => ∃ v2 v4 v5 : Option V, σ = [some (.ref p), some (.ref d), v2, some (.ref D), v4, v5] ∧ Same H3 H' ∧ ∀ y ∈ (R0 S F).take i, writtenD S F (F y).v = true) ⟨_, _, _, rfl, .refl _, fun y hy => by cases hy⟩ (fun i σ H' _ ⟨_, _, _, _, s, _⟩ => s.seq (SqL.of hD3)) ?_ ?_⟩
      · rintro i y σ H4 hi ⟨v2, v4, v5, rfl, s5, hno⟩
        unfold rf at hi
        rw [List.getElem?_map] at hi
        obtain ⟨x, hx, rfl⟩ := Option.map_eq_some_iff.mp hi
        have hx0 := R0_mem (List.mem_of_getElem? hx)
        obtain ⟨dx, e⟩ := (hT.2 x hx0.1).same (s4.trans s5)
        have hg : DGet H4 d (.int (((F x).v : Nat) : Int)) (valV (wkL F ad (wrL S F)) (Sum.inl (((F x).v : Nat) : Int))) := DGet.k (k := Sum.inl (((F x).v : Nat) : Int)) (s5 _ _ hd3)
        have ew : (valV (wkL F ad (wrL S F)) (Sum.inl (((F x).v : Nat) : Int))).isSome = writtenD S F (F x).v := by
          rw [valV_wkL, Option.isSome_map, written_is]
        refine ⟨_, rfl, ad x, _, dx, _, _, rfl, e, T.c_Told.cl, T.c_Told.n _ (by decide +kernel), rfl, _, rfl, d, _, rfl, hg, _, rfl, ?_⟩
        rw [ew]
        refine pickB (fun hb => ?_) fun hb => ?_
        · have hb : writtenD S F (F x).v = false := by simpa using hb
          have hf : firstNowhereD S F = some x := by
            rw [nowhere_R0]
            exact find_at hx (fun y hy => by rw [hno y hy]; rfl) (by rw [hb]; rfl)
          obtain ⟨w1, w2⟩ := why_1 hf
          rw [w1, w2] at k
          refine ⟨_, rfl, ad x, _, dx, _, _, rfl, e, T.c_Told.cl, T.c_Told.n _ (by decide +kernel), rfl, line_le rfl, fun q hq => k H4 q (s4.trans s5) hq⟩
        · have hb : writtenD S F (F x).v = true := by simpa using hb
          refine ⟨_, _, _, rfl, s5, fun y hy => ?_⟩
          rw [take_succ hx] at hy
          rcases List.mem_append.mp hy with hy | hy
          · exact hno y hy
          · rw [List.mem_singleton.mp hy]
            exact hb
      · rintro σ H4 ⟨v2, v4, v5, rfl, s5, hno⟩
        have hno : ∀ y ∈ R0 S F, writtenD S F (F y).v = true := fun y hy => hno y (by unfold rf; rw [List.length_map, List.take_length]; exact hy)
        have n0 : firstNowhereD S F = none := by
          rw [nowhere_R0]
          exact List.find?_eq_none.mpr fun y hy => by rw [hno y hy]; exact Bool.false_ne_true
        have hd4 := s5 _ _ hd3
        have s6 := s4.trans s5
        -- ended ahead of its writing
        refine ⟨_, rfl, D, rfl, ⟨_, SqL.of (s5 _ _ hD3)⟩, for_list (K := K) (a := D) (xs := rf ad (R0 S F)) (fun i σ H' => ∃ v2 v4 v5 : Option V, σ = [some (.ref p), some (.ref d), v2, some (.ref D), v4, v5] ∧ Same H4 H' ∧ ∀ y ∈ (R0 S F).take i, earlyAt S F y = none) ⟨_, _, _, rfl, .refl _, fun y hy => by cases hy⟩ (fun i σ H' _ ⟨_, _, _, _, s, _⟩ => s.seq (SqL.of (s5 _ _ hD3))) ?_ ?_⟩
        · rintro i y σ H5 hi ⟨v2, v4, v5, rfl, s7, hne⟩
          unfold rf at hi
          rw [List.getElem?_map] at hi
          obtain ⟨x, hx, rfl⟩ := Option.map_eq_some_iff.mp hi
          have hxm := List.mem_of_getElem? hx
          have hx0 := R0_mem hxm
          obtain ⟨dx, e⟩ := (hT.2 x hx0.1).same (s6.trans s7)
          -- its writing
          obtain ⟨j, hj⟩ : ∃ j, ((wrL S F).find? fun k => (F k).v == (F x).v) = some j := by
            have := hno x hxm
            rw [← written_is] at this
            exact Option.isSome_iff_exists.mp this
          have hjm : j ∈ wrL S F := List.mem_of_find?_eq_some hj
          obtain ⟨hjS, hjw⟩ := List.mem_filter.mp hjm
          have hjv : (F j).v = (F x).v := by
            have := List.find?_some hj
            simpa using this
          obtain ⟨dj, ej⟩ := (hT.2 j hjS).same (s6.trans s7)
          have hg : DGet H5 d (.int (((F x).v : Nat) : Int)) (some (V.ref (ad j))) := by
            have z := DGet.k (k := Sum.inl (((F x).v : Nat) : Int)) (s7 _ _ hd4)
            rw [valV_wkL, hj] at z
            exact z
          have ea := early_at hh hjS hjw hx0.2 hjv
          refine ⟨_, rfl, _, rfl, ad x, _, dx, _, _, rfl, e, T.c_Told.cl, T.c_Told.n _ (by decide +kernel), rfl, d, _, rfl, hg, ?_⟩
          refine ⟨_, rfl, ad x, _, dx, _, _, rfl, e, T.c_Told.cl, T.c_Told.n _ (by decide +kernel), rfl, _, rfl, ad j, _, dj, _, _, rfl, ej, T.c_Told.cl, T.c_Told.n _ (by decide +kernel), rfl, _, _, rfl, rfl, _, rfl, ?_⟩
          refine ite2 (fun q => ?_) fun q => ?_
          · have hlt : (F x).upto < (F j).since := by
              have := of_decide_eq_true q
              omega
            rw [if_pos hlt] at ea
            have hE : firstEarlyD S F = some (x, j) := by
              rw [early_R0 hh]
              exact findSome_at hx (fun y hy => by rw [hne y hy]; rfl) (by rw [ea]; rfl)
            obtain ⟨w1, w2⟩ := why_2 n0 hE
            rw [w1, w2] at k
            refine ⟨line_le rfl, fun a1 n1 => ?_⟩
            have c1 : Same H5 (upd H5 a1 (.lst [V.int 2])) := same_upd n1
            have y1 : (upd H5 a1 (.lst [V.int 2])) a1 = some (.lst [V.int 2]) := upd_same
            generalize upd H5 a1 (.lst [V.int 2]) = H6 at c1 y1 ⊢
            refine ⟨_, rfl, ad x, _, dx, _, _, rfl, c1 _ _ e, T.c_Told.cl, T.c_Told.n _ (by decide +kernel), rfl, _, rfl, ad j, _, dj, _, _, rfl, c1 _ _ ej, T.c_Told.cl, T.c_Told.n _ (by decide +kernel), rfl, line_le rfl, fun a2 n2 => ?_⟩
            have c2 : Same H6 (upd H6 a2 (.lst [V.int (x : Int), V.int (j : Int)])) := same_upd n2
            have y2 : (upd H6 a2 (.lst [V.int (x : Int), V.int (j : Int)])) a2 = some (.lst (([x, j].map fun n : Nat => (n : Int)).map V.int)) := upd_same
            generalize upd H6 a2 (.lst [V.int (x : Int), V.int (j : Int)]) = H7 at c2 y2 ⊢
            refine ⟨a2, _, rfl, SqL.of y2, fun ns a3 pm srt n3 => ?_⟩
            obtain ⟨ls, rfl, pm2, srt2⟩ := back_nat pm srt
            obtain rfl := sort_one pm2 srt2
            have ll : (Su149.sortBy id [x, j]).length = 2 := pm2.length_eq
            have c3 : Same H7 (upd H7 a3 (.lst (((Su149.sortBy id [x, j]).map fun n : Nat => (n : Int)).map V.int))) := same_upd n3
            refine ⟨_, _, _, _, rfl, rfl, c3 _ _ (c2 _ _ y1), upd_same, ?_, fun a4 n4 => ?_⟩
            · rw [List.length_map, List.length_map, ll]
              exact line_le rfl
            · rw [← natV_int]
              rw [← natV_int] at n4 c3
              exact k _ a4 (s6.trans (s7.trans (c1.trans (c2.trans c3)))) n4
          · have hnl : ¬ (F x).upto < (F j).since := fun h => q (decide_eq_true (by omega))
            rw [if_neg hnl] at ea
            refine ⟨_, _, _, rfl, s7, fun y hy => ?_⟩
            rw [take_succ hx] at hy
            rcases List.mem_append.mp hy with hy | hy
            · exact hne y hy
            · rw [List.mem_singleton.mp hy]
              exact ea
        · rintro σ H5 ⟨v2, v4, v5, rfl, s7, hne⟩
          have hne : ∀ y ∈ R0 S F, earlyAt S F y = none := fun y hy => hne y (by unfold rf; rw [List.length_map, List.take_length]; exact hy)
          have e0 : firstEarlyD S F = none := by
            rw [early_R0 hh]
            exact List.findSome?_eq_none_iff.mpr fun y hy => by rw [hne y hy]; rfl
          have s8 := s6.trans s7
          -- a clash
          refine ⟨_, rfl, p, ad, S, F, rfl, hT.same s8, hh, fun H6 q va s9 nq hV => ?_⟩
          refine ⟨q, va, ad, S, F, rfl, hV, fun hc H7 s10 => ?_, fun u v hc hu hv H7 t s10 nt ht => ?_⟩
          · obtain ⟨w1, w2⟩ := why_0 n0 e0 hc
            rw [w1, w2] at k
            refine ⟨_, rfl, _, rfl, ?_⟩
            refine ite2 (fun q => ?_) fun q => absurd (decide_eq_true rfl) q
            exact ⟨one_le, fun a1 n1 => k H7 a1 (s8.trans (s9.trans s10)) n1⟩
          · obtain ⟨w1, w2⟩ := why_3 n0 e0 hc
            rw [w1, w2] at k
            refine ⟨_, rfl, _, rfl, ?_⟩
            refine ite2 (fun q => absurd (of_decide_eq_true q) (by intro z; cases z)) fun q => ?_
            have s11 := s8.trans (s9.trans s10)
            refine ⟨one_le, fun a1 n1 => ?_⟩
            have c1 : Same H7 (upd H7 a1 (.lst [V.int 3])) := same_upd n1
            have y1 : (upd H7 a1 (.lst [V.int 3])) a1 = some (.lst [V.int 3]) := upd_same
            generalize upd H7 a1 (.lst [V.int 3]) = H8 at c1 y1 ⊢
            have t8 := c1 _ _ ht
            have Vu := (hV.2 u hu).same (s10.trans c1)
            have Vv := (hV.2 v hv).same (s10.trans c1)
            have s12 := s11.trans c1
            refine ⟨_, rfl, t, _, _, _, rfl, rfl, SqT.of t8, rfl, va u, ad, S, F, u, rfl, Vu, hT.2.same s12, hh, fun H9 b1 s13 m1 z1 => ?_⟩
            refine ⟨_, rfl, t, _, _, _, rfl, rfl, SqT.of (s13 _ _ t8), rfl, va v, ad, S, F, v, rfl, Vv.same s13, hT.2.same (s12.trans s13), hh, fun H10 b2 s14 m2 z2 => ?_⟩
            have l1 := shown_len hh u
            have l2 := shown_len hh v
            refine ⟨_, _, _, _, rfl, rfl, s14 _ _ z1, z2, (by rw [natV_len, natV_len]; exact line (by omega)), fun b3 m3 => ?_⟩
            have c3 : Same H10 (upd H10 b3 (.lst (natV (shownL S F u) ++ natV (shownL S F v)))) := same_upd m3
            have y3 : (upd H10 b3 (.lst (natV (shownL S F u) ++ natV (shownL S F v)))) b3 = some (.lst (((shownL S F u ++ shownL S F v).map fun n : Nat => (n : Int)).map V.int)) := by
              rw [upd_same, ← natV_int, natV_app]
            generalize upd H10 b3 (.lst (natV (shownL S F u) ++ natV (shownL S F v))) = H11 at c3 y3 ⊢
            refine ⟨b3, _, rfl, SqL.of y3, ?_, fun b4 c m4 hc4 => ?_⟩
            · rw [List.length_map, List.length_append]
              omega
            have hc5 : c < 64 := by
              rw [List.length_map, List.length_append] at hc4
              omega
            refine ⟨b4, _, c, rfl, upd_same, hc5, fun ns b5 srt mem len m5 => ?_⟩
            have en := sorted_nat srt mem
            have c45 : Same H11 (upd (upd H11 b4 (SetO w b4 (fun j => decide (j ∈ (shownL S F u ++ shownL S F v).map fun n : Nat => (n : Int))) c)) b5 (.lst (ns.map V.int))) := (same_upd m4).trans (same_upd m5)
            refine ⟨_, _, _, _, rfl, rfl, c45 _ _ (c3 _ _ (s14 _ _ (s13 _ _ y1))), upd_same, ?_, fun b6 m6 => ?_⟩
            · rw [List.length_map, len]
              exact line (by show 1 + c ≤ 1000; omega)
            · rw [en]
              rw [en] at m6 c45
              exact k _ b6 (s12.trans (s13.trans (s14.trans (c3.trans c45)))) m6
def spFound (T : Txt K mg) : Sp := fun vs H Q _ => ∃ (p : Addr) (ad : Nat → Addr) (S : List Nat) (F : Nat → Su149.Op), vs = [.ref p] ∧ Told T H p ad S F ∧ Hist S F ∧ ∀ H', Same H H' → Q (.bl (keptD S F)) H'
theorem ok_can_be_found (T : Txt K mg) : FnOk P w K mg base CX0 5 T.d_can_be_found.f T.d_can_be_found.fd ["told"] (spFound T) := by
  have G_why_not := ok_why_not (P := P) (w := w) (base := base) T
  refine T.d_can_be_found.F.ok sc_can_be_found (fun vs H Q E h => ?_) (fun cdv A outer s H vs Q E hr h => ⟨_, (pss_one (ps_ret (pe_cmpR op_eq (pe_ix ix_list (pe_call G_why_not (hr.mono (by decide)) (by rfl) T.d_why_not.g T.d_why_not.F.kp T.d_why_not.b .nil pass0 (pa_cons (pv 0) pa_nil)) pe_int (fun _ _ => rfl)) (pe_gc (by rfl) T.k_FOUND) (nomark _)))), ?_⟩)
  · obtain ⟨p, ad, S, F, rfl, hT, hh, k⟩ := h
    rfl
  · obtain ⟨p, ad, S, F, rfl, hT, hh, k⟩ := h
    refine ⟨_, rfl, p, ad, S, F, rfl, hT, hh, fun H1 q s1 nq => ?_⟩
    refine ⟨q, _, _, V.int ((whyD S F : Nat) : Int), rfl, rfl, SqL.of upd_same, atI_nat (j := 0) rfl, rfl, ?_⟩
    have e : decide (V.int ((whyD S F : Nat) : Int) = V.int 0) = keptD S F := by
      rw [show V.int 0 = V.int ((0 : Nat) : Int) from rfl, int_dec, kept_why]
    rw [e]
    exact k _ (s1.trans (same_upd nq))
end
end Ea

/-! The bodies of moments.py: an order; since when. -/
namespace Ea
open PySem PySem.Spec PyProof.Rows L2
theorem first_of {l : List Nat} {p : Nat → Bool} {v : Nat} {f : Nat → V} (h : l.find? p = some v) : ((l.filter p).map f)[0]? = some (f v) := by
  rw [List.getElem?_map, ← List.head?_eq_getElem?, List.head?_filter, h]
  rfl
def leftL : L2.St → Hp → Nat
  | [_, some (V.ref lf), _, _, _, _], H => match H lf with
    | some (.lst xs) => xs.length
    | _ => 0
  | _, _ => 0
section
variable {P : Program} {w : World} {K : PySem.W.Frag} {mg : Str → Option Value} {base : Heap}
def spOrder (T : Txt K mg) : Sp := fun vs H Q _ => ∃ (p : Addr) (ad : Nat → Addr) (S : List Nat) (F : Nat → Su149.Op), vs = [.ref p] ∧ Told T H p ad S F ∧ Hist S F ∧ firstClashD S F = none ∧
  ∀ (H' : Hp) (q : Addr), Same H H' → H q = none → H' q = some (.lst (natV (orderD S F))) → (orderD S F).length ≤ 900 → Q (.ref q) H'
theorem ok_in_order (T : Txt K mg) : FnOk P w K mg base CX0 4 T.d_in_order.f T.d_in_order.fd ["told"] (spOrder T) := by
  have G_values_there_are := ok_values_there_are (P := P) (w := w) (base := base) T
  have G_may_be_next := ok_may_be_next (P := P) (w := w) (base := base) T
  refine T.d_in_order.F.ok sc_in_order (fun vs H Q E h => ?_) (fun cdv A outer s H vs Q E hr h => ⟨_, (pss_cons (ps_set (i := 1) sc_in_order.nd rfl (Or.inr rfl) (pe_call G_values_there_are (hr.mono (by decide)) (by rfl) T.d_values_there_are.g T.d_values_there_are.F.kp T.d_values_there_are.b .nil pass0 (pa_cons (pv 0) pa_nil)))
      (pss_cons (ps_set (i := 2) sc_in_order.nd rfl (Or.inl rfl) (pe_lst pa_nil))
      (pss_cons (ps_while PassesOwn.never (pt_truth (pv 1) (by intro _; rfl))
        (pss_cons (ps_set (i := 3) sc_in_order.nd rfl (Or.inr rfl) (pe_ix ix_list (pe_lc (own := [("each", 4)]) (g := gName 4) (tt := (tB (tCall (spNext T) [] _ (tCons (tVar 4) (tCons (tVar 1) tNil))))) (te := (tVar 4)) (by rfl) sc_in_order.nd (pi_list (pv 1)) (blkOk_by (own := [("each", 4)]) (N := ["told", "left", "numbers", "value", "each", "op"]) (sc := defScope s_in_order) (by decide +kernel)) (fun _ _ _ _ _ => by exact pg_name (i := 4) sc_in_order.nd rfl (Or.inl rfl)) (fun _ _ _ _ _ => by exact (pts_one (pt_val (pe_call G_may_be_next (hr.mono (by decide)) (by rfl) T.d_may_be_next.g T.d_may_be_next.F.kp T.d_may_be_next.b .nil pass0 (pa_cons (pv 4) (pa_cons (pv 1) pa_nil)))))) (fun _ _ _ _ _ => by exact (pv 4))) pe_int (fun _ _ => rfl)))
        (pss_cons (ps_expr (pe_bm PySem.F.plainAttrs_list PySem.F.slot_list_extend PySem.F.type_list_extend mt_extend (pv 2) (pa_cons (pe_lc (own := [("op", 5)]) (g := gName 5) (tt := (tB (tFld K (tVar 5) "writing"))) (te := (tFld K (tVar 5) "number")) (by rfl) sc_in_order.nd (pi_list (pe_fld (pv 3) rfl)) (blkOk_by (own := [("op", 5)]) (N := ["told", "left", "numbers", "value", "each", "op"]) (sc := defScope s_in_order) (by decide +kernel)) (fun _ _ _ _ _ => by exact pg_name (i := 5) sc_in_order.nd rfl (Or.inl rfl)) (fun _ _ _ _ _ => by exact (pts_one (pt_val (pe_fld (pv 5) rfl)))) (fun _ _ _ _ _ => by exact (pe_fld (pv 5) rfl))) pa_nil)))
        (pss_cons (ps_expr (pe_bm PySem.F.plainAttrs_list PySem.F.slot_list_extend PySem.F.type_list_extend mt_extend (pv 2) (pa_cons (pe_lc (own := [("op", 5)]) (g := gName 5) (tt := (tNot (tB (tFld K (tVar 5) "writing")))) (te := (tFld K (tVar 5) "number")) (by rfl) sc_in_order.nd (pi_list (pe_fld (pv 3) rfl)) (blkOk_by (own := [("op", 5)]) (N := ["told", "left", "numbers", "value", "each", "op"]) (sc := defScope s_in_order) (by decide +kernel)) (fun _ _ _ _ _ => by exact pg_name (i := 5) sc_in_order.nd rfl (Or.inl rfl)) (fun _ _ _ _ _ => by exact (pts_one (pt_not (pt_val (pe_fld (pv 5) rfl))))) (fun _ _ _ _ _ => by exact (pe_fld (pv 5) rfl))) pa_nil)))
        (pss_one (ps_set (i := 1) sc_in_order.nd rfl (Or.inr rfl) (pe_lc (own := [("each", 4)]) (g := gName 4) (tt := (tTest (tOp rNe (tFld K (tVar 4) "value") (tFld K (tVar 3) "value")))) (te := (tVar 4)) (by rfl) sc_in_order.nd (pi_list (pv 1)) (blkOk_by (own := [("each", 4)]) (N := ["told", "left", "numbers", "value", "each", "op"]) (sc := defScope s_in_order) (by decide +kernel)) (fun _ _ _ _ _ => by exact pg_name (i := 4) sc_in_order.nd rfl (Or.inl rfl)) (fun _ _ _ _ _ => by exact (pts_one (pt_cmpR op_ne (pe_fld (pv 4) rfl) (pe_fld (pv 3) rfl) (nomark _)))) (fun _ _ _ _ _ => by exact (pv 4)))))))))
      (pss_one (ps_ret (pv 2)))))), ?_⟩)
  · obtain ⟨p, ad, S, F, rfl, hT, hh, hc, k⟩ := h
    rfl
  · obtain ⟨p, ad, S, F, rfl, hT, hh, hc, k⟩ := h
    have line : ∀ {n : Nat}, n ≤ 1000 → n ≤ sizeLine := fun h => Nat.le_trans h (by decide)
    have few41 : (valuesD S F).length ≤ 41 := Nat.le_trans (List.length_filter_le ..) (by rw [List.length_range]; exact Nat.le_refl _)
    refine ⟨_, rfl, p, ad, S, F, rfl, hT, hh, fun H1 lf0 va s1 nlf hV => ?_⟩
    refine ⟨Nat.zero_le _, fun nm hnm => ?_⟩
    have hTA : ∀ {H' : Hp}, Same H1 H' → TAll T.c_Told.C H' ad S F := fun s => hT.2.same (s1.trans s)
    dsimp only [gName, tSeq]


    refine while_by (fun σ H' => ∃ (lf : Addr) (ls done : List Nat) (v3 v4 v5 : Option V), σ = [some (.ref p), some (.ref lf), some (.ref nm), v3, v4, v5] ∧ Same H1 H' ∧ H' lf = some (.lst (rf va ls)) ∧ H' nm = some (.lst (natV done)) ∧ lf ≠ nm ∧ ls.Nodup ∧ (∀ v ∈ ls, v ∈ valuesD S F) ∧
      orderD S F = done ++ (inOrderD S F ls.length ls).flatMap (blockD S F) ∧ done.length + 20 * ls.length ≤ 820) leftL ⟨lf0, valuesD S F, [], none, none, none, rfl, same_upd hnm, ?_, upd_same, ?_, valuesD_nodup, fun _ h => h, rfl, ?_⟩ ?_ ?_
    · rw [upd_ne (ne_of_none hV.1 hnm)]
      exact hV.1
    · exact ne_of_none hV.1 hnm
    · show 0 + 20 * (valuesD S F).length ≤ 820
      omega
    · rintro σ H2 ⟨lf, ls, done, v3, v4, v5, rfl, s2, hlf, hN, nln, nd, hsub, hord, hlen⟩
      refine ⟨_, rfl, _, .inl ⟨_, SqL.of hlf, rfl⟩, ?_⟩
      refine pickB (fun q => ?_) fun q => ?_
      · have hne : ls ≠ [] := fun e => by
          rw [e] at q
          cases q
        have lne : 0 < ls.length := List.length_pos_iff.mpr hne
        have hVl : ∀ {H' : Hp}, Same H2 H' → Vals_ T H' lf va ad S F ls := fun s => ⟨s _ _ hlf, fun v hv => (hV.2 v (hsub v hv)).same (s2.trans s)⟩
        obtain ⟨v, hf, hv⟩ := order_next hc hsub hne
        have hvm := hsub v hv
        -- value = [..][0]
        refine ⟨_, rfl, _, rfl, ⟨_, SqL.of hlf⟩, fun D1 hD1 => lc_pure (A := ls) (p := nextD S F ls) (v := fun u => V.ref (va u)) (SqL.of hlf) (by omega) hD1 ?_ fun H3 s3 l3 => ?_⟩
        · intro x hx H4 s4 Y N hy hn
          refine ⟨rfl, _, rfl, _, rfl, va x, lf, va, ad, S, F, x, ls, rfl, (hVl s4).2 x hx, hVl s4, by omega, fun H5 s5 => ⟨_, rfl, ?_⟩⟩
          exact pickB (fun qq => ⟨_, rfl, hy qq _ s5⟩) fun qq => hn qq _ s5
        refine ⟨D1, _, _, V.ref (va v), rfl, rfl, SqL.of l3, atI_nat (j := 0) (first_of hf), ?_⟩
        -- numbers.extend(its writing)
        have few : (ofD S F v).length ≤ 20 := Nat.le_trans (List.length_filter_le ..) hh.len
        obtain ⟨dv, lv, ev, hl⟩ := (hVl s3).2 v hv
        refine ⟨_, rfl, .inl ⟨rfl, _, SqL.of (s3 _ _ hN)⟩, _, rfl, va v, _, dv, _, _, rfl, ev, T.c_Value.cl, T.c_Value.n _ (by decide +kernel), rfl, _, rfl, ⟨_, SqL.of hl⟩, fun D2 hD2 => lc_pure (A := ofD S F v) (p := fun k => (F k).wr) (v := fun k => V.int (k : Int)) (SqL.of hl) (by omega) hD2 ?_ fun H4 s4 l4 => ?_⟩
        · intro x hx H4 s4 Y N hy hn
          obtain ⟨dt, e⟩ := hTA (s2.trans (s3.trans s4)) x (mem_ofD.mp hx).1
          refine ⟨rfl, _, rfl, ad x, _, dt, _, _, rfl, e, T.c_Told.cl, T.c_Told.n _ (by decide +kernel), rfl, _, rfl, ?_⟩
          exact pickB (fun qq => ⟨_, rfl, ad x, _, dt, _, _, rfl, e, T.c_Told.cl, T.c_Told.n _ (by decide +kernel), rfl, hy qq _ (.refl _)⟩) fun qq => hn qq _ (.refl _)
        have l4 : H4 D2 = some (.lst (natV ((ofD S F v).filter fun k => (F k).wr))) := l4
        have f1 : ((ofD S F v).filter fun k => (F k).wr).length ≤ 20 := Nat.le_trans (List.length_filter_le ..) few
        have f2 : ((ofD S F v).filter fun k => !(F k).wr).length ≤ 20 := Nat.le_trans (List.length_filter_le ..) few
        have s24 := s3.trans s4
        have hN4 := s24 _ _ hN
        refine ⟨nm, D2, _, _, rfl, rfl, hN4, l4, (by rw [natV_len, natV_len]; exact line (by omega)), ?_⟩
        have c5 : Chg nm H4 (upd H4 nm (.lst (natV done ++ natV ((ofD S F v).filter fun k => (F k).wr)))) := .upd
        have y5 : (upd H4 nm (.lst (natV done ++ natV ((ofD S F v).filter fun k => (F k).wr)))) nm = some (.lst (natV (done ++ (ofD S F v).filter fun k => (F k).wr))) := by
          rw [upd_same, natV_app]
        generalize upd H4 nm (.lst (natV done ++ natV ((ofD S F v).filter fun k => (F k).wr))) = H5 at c5 y5 ⊢
        have s15 : Same H1 H5 := fun b o e => c5 _ _ (s24 _ _ (s2 _ _ e)) (ne_of_none e hnm)
        have lf5 : H5 lf = some (.lst (rf va ls)) := c5 _ _ (s24 _ _ hlf) nln
        obtain ⟨dv, lv, ev, hl⟩ := (hV.2 v hvm).same s15
        -- numbers.extend(its readings)
        refine ⟨_, rfl, .inl ⟨rfl, _, SqL.of y5⟩, _, rfl, va v, _, dv, _, _, rfl, ev, T.c_Value.cl, T.c_Value.n _ (by decide +kernel), rfl, _, rfl, ⟨_, SqL.of hl⟩, fun D3 hD3 => lc_pure (A := ofD S F v) (p := fun k => !(F k).wr) (v := fun k => V.int (k : Int)) (SqL.of hl) (by omega) hD3 ?_ fun H6 s6 l6 => ?_⟩
        · intro x hx H7 s7 Y N hy hn
          obtain ⟨dt, e⟩ := hTA (s15.trans s7) x (mem_ofD.mp hx).1
          refine ⟨rfl, _, rfl, ad x, _, dt, _, _, rfl, e, T.c_Told.cl, T.c_Told.n _ (by decide +kernel), rfl, _, rfl, ?_⟩
          exact pickB (fun qq => ⟨_, rfl, ad x, _, dt, _, _, rfl, e, T.c_Told.cl, T.c_Told.n _ (by decide +kernel), rfl, hy qq _ (.refl _)⟩) fun qq => hn qq _ (.refl _)
        have l6 : H6 D3 = some (.lst (natV ((ofD S F v).filter fun k => !(F k).wr))) := l6
        have y6 := s6 _ _ y5
        refine ⟨nm, D3, _, _, rfl, rfl, y6, l6, (by rw [natV_len, natV_len, List.length_append]; exact line (by omega)), ?_⟩
        have c7 : Chg nm H6 (upd H6 nm (.lst (natV (done ++ (ofD S F v).filter fun k => (F k).wr) ++ natV ((ofD S F v).filter fun k => !(F k).wr)))) := .upd
        have y7 : (upd H6 nm (.lst (natV (done ++ (ofD S F v).filter fun k => (F k).wr) ++ natV ((ofD S F v).filter fun k => !(F k).wr)))) nm = some (.lst (natV (done ++ blockD S F v))) := by
          rw [upd_same, ← natV_app, block_is hh, List.append_assoc]
        generalize upd H6 nm (.lst (natV (done ++ (ofD S F v).filter fun k => (F k).wr) ++ natV ((ofD S F v).filter fun k => !(F k).wr))) = H7 at c7 y7 ⊢
        have s17 : Same H1 H7 := fun b o e => c7 _ _ (s6 _ _ (s15 _ _ e)) (ne_of_none e hnm)
        have lf7 : H7 lf = some (.lst (rf va ls)) := c7 _ _ (s6 _ _ lf5) nln
        obtain ⟨dv, lv, ev, hl⟩ := (hV.2 v hvm).same s17
        -- left = [..]
        refine ⟨_, rfl, _, rfl, ⟨_, SqL.of lf7⟩, fun D4 hD4 => lc_pure (A := ls) (p := fun u => u != v) (v := fun u => V.ref (va u)) (SqL.of lf7) (by omega) hD4 ?_ fun H8 s8 l8 => ?_⟩
        · intro u hu H9 s9 Y N hy hn
          obtain ⟨du, lu, eu, _⟩ := (hV.2 u (hsub u hu)).same (s17.trans s9)
          refine ⟨rfl, _, rfl, va u, _, du, _, _, rfl, eu, T.c_Value.cl, T.c_Value.n _ (by decide +kernel), rfl, _, rfl, va v, _, dv, _, _, rfl, s9 _ _ ev, T.c_Value.cl, T.c_Value.n _ (by decide +kernel), rfl, rfl, _, rfl, ?_⟩
          have eb : (!decide (V.int ((u : Nat) : Int) = V.int ((v : Nat) : Int))) = (u != v) := by
            rw [int_dec]
            by_cases h : u = v <;> simp [h]
          rw [eb]
          exact pickB (fun qq => ⟨_, rfl, hy qq _ (.refl _)⟩) fun qq => hn qq _ (.refl _)
        have l8 : H8 D4 = some (.lst (rf va (ls.filter fun u => u != v))) := l8
        have y8 := s8 _ _ y7
        have fl := filter_len nd hv
        have bl : (blockD S F v).length ≤ 20 := by
          rw [block_is hh, List.length_append]
          have : ∀ l : List Nat, (l.filter fun k => (F k).wr).length + (l.filter fun k => !(F k).wr).length = l.length := fun l => by
            induction l with
            | nil => rfl
            | cons x l ih =>
              cases hw : (F x).wr with
              | true => rw [List.filter_cons_of_pos (p := fun k => (F k).wr) hw, List.filter_cons_of_neg (p := fun k => !(F k).wr) (by rw [hw]; decide), List.length_cons, List.length_cons]; omega
              | false => rw [List.filter_cons_of_neg (p := fun k => (F k).wr) (by rw [hw]; decide), List.filter_cons_of_pos (p := fun k => !(F k).wr) (by rw [hw]; rfl), List.length_cons, List.length_cons]; omega
          rw [this]
          exact few
        refine ⟨⟨D4, ls.filter fun u => u != v, done ++ blockD S F v, _, _, _, rfl, s17.trans s8, l8, y8, ?_, nd.filter _, fun u hu => hsub u (memf hu), ?_, ?_⟩, ?_⟩
        · exact (ne_of_none y7 hD4).symm
        · rw [hord, order_step nd hv hf, List.flatMap_cons, List.append_assoc]
        · rw [List.length_append]
          omega
        · show (match H8 D4 with | some (.lst xs) => xs.length | _ => 0) < (match H2 lf with | some (.lst xs) => xs.length | _ => 0)
          rw [l8, hlf]
          show (rf va (ls.filter fun u => u != v)).length < (rf va ls).length
          unfold rf
          rw [List.length_map, List.length_map]
          omega
      · have e : ls = [] := by
          cases ls with
          | nil => rfl
          | cons x l => cases q
        subst e
        have eo : orderD S F = done := by
          rw [hord]
          show done ++ [].flatMap _ = done
          rw [List.flatMap_nil, List.append_nil]
        refine ⟨_, rfl, k H2 nm (s1.trans s2) (Same.free s1 hnm) (by rw [eo]; exact hN) ?_⟩
        rw [eo]
        omega
    · exact fun σ H Q Q' hq ⟨v, h1, k, ht, q⟩ => ⟨v, h1, k, ht, hq _ _ q⟩
def spEarliest (T : Txt K mg) : Sp := fun vs H Q _ => ∃ (st : Addr) (L : Lay) (a : Su153.Abs), vs = [.ref L.oL] ∧ StoreAt T.ca H st L a ∧ Good a ∧ a.time ≤ 1000000 ∧ ∀ H', Same H H' → Q (.int (sinceD a.shown (opD a) : Nat)) H'
theorem ends_range {a : Su153.Abs} (g : Good a) (ht : a.time ≤ 1000000) : (a.shown.map fun k => (opD a k).upto).filter (fun t => decide (t ≤ 1000000)) = ((List.range a.ops.length).filter fun k => decide (0 < (a.op k).til.getD 0)).map fun k => (a.op k).til.getD 0 := by
  rw [ends_of g ht]
  have e2 : a.ops = (List.range a.ops.length).map fun k => a.op k := by
    apply List.ext_getElem
    · rw [List.length_map, List.length_range]
    · intro i h1 h2
      rw [List.getElem_map, List.getElem_range]
      exact (op_at (List.getElem?_eq_getElem h1)).symm
  conv => lhs; rw [e2]
  rw [List.filter_map, List.map_map]
  rfl
theorem ok_earliest_without (T : Txt K mg) : FnOk P w K mg base CX0 6 T.d_earliest_without.f T.d_earliest_without.fd ["ops"] (spEarliest T) := by
  have G_can_be_found := ok_can_be_found (P := P) (w := w) (base := base) T
  have G_told_by := ok_told_by (P := P) (w := w) (base := base) T
  refine T.d_earliest_without.F.ok sc_earliest_without (fun vs H Q E h => ?_) (fun cdv A outer s H vs Q E hr h => ⟨_, (pss_cons (ps_for PassesOwn.never rfl (pi_list (pe_callB cr_sortedI (by rfl) T.b_sorted (by decide +kernel) (pa_cons (pe_lc (own := [("op", 2)]) (g := gName 2) (tt := (tTest (tOp (rI0 fun i j => .bl (decide (j < i))) (tFld K (tVar 2) "ended") (L2.tC (.int 0))))) (te := (tFld K (tVar 2) "ended")) (by rfl) sc_earliest_without.nd (pi_list (pv 0)) (blkOk_by (own := [("op", 2)]) (N := ["ops", "time", "op"]) (sc := defScope s_earliest_without) (by decide +kernel)) (fun _ _ _ _ _ => by exact pg_name (i := 2) sc_earliest_without.nd rfl (Or.inl rfl)) (fun _ _ _ _ _ => by exact (pts_one (pt_cmpR op_gt (pe_fld (pv 2) rfl) pe_int (nomark _)))) (fun _ _ _ _ _ => by exact (pe_fld (pv 2) rfl))) pa_nil))) (pg_name (i := 1) sc_earliest_without.nd rfl (Or.inl rfl))
        (pss_one (ps_if (pt_not (pt_val (pe_call G_can_be_found (hr.mono (by decide)) (by rfl) T.d_can_be_found.g T.d_can_be_found.F.kp T.d_can_be_found.b .nil pass0 (pa_cons (pe_call G_told_by (hr.mono (by decide)) (by rfl) T.d_told_by.g T.d_told_by.F.kp T.d_told_by.b .nil pass0 (pa_cons (pv 0) (pa_cons (pv 1) pa_nil))) pa_nil))))
          (pss_one (ps_ret (pv 1)))
          pss_nil)))
      (pss_one (ps_ret pe_int))), ?_⟩)
  · obtain ⟨st, L, a, rfl, S, g, ht, k⟩ := h
    rfl
  · obtain ⟨st, L, a, rfl, S, g, ht, k⟩ := h
    have g20 := g.ops
    have eos : L.os.map V.ref = (List.range a.ops.length).map fun i => V.ref (L.os.getD i 0) := by
      apply List.ext_getElem
      · rw [List.length_map, List.length_map, List.length_range, S.ol]
      · intro i h1 h2
        rw [List.getElem_map, List.getElem_map, List.getElem_range]
        rw [List.getD_eq_getElem?_getD, List.getElem?_eq_getElem (by rw [List.length_map] at h1; exact h1)]
        rfl
    refine ⟨_, rfl, _, rfl, ⟨_, SqL.of S.oL⟩, fun D hD => ?_⟩
    have hO := S.oL
    rw [eos] at hO
    refine lc_pure (A := List.range a.ops.length) (p := fun k => decide (0 < (a.op k).til.getD 0)) (v := fun k => V.int ((a.op k).til.getD 0 : Nat)) (SqL.of hO) (by rw [List.length_range]; omega) hD ?_ fun H1 s1 h1 => ?_
    · intro i hi H1 s1 Y N hy hn
      obtain ⟨o, ho⟩ := get_of_lt (List.mem_range.mp hi)
      obtain ⟨po, hpo, dO, hOb⟩ := S.o_at ho
      have ep : L.os.getD i 0 = po := by rw [List.getD_eq_getElem?_getD, hpo]; rfl
      rw [ep]
      rw [op_at ho] at hy hn
      refine ⟨rfl, _, rfl, po, _, dO, _, _, rfl, s1 _ _ hOb, T.c_Operation.cl, T.c_Operation.n _ (by decide +kernel), rfl, _, _, rfl, rfl, _, rfl, ?_⟩
      have eb : decide ((0 : Int) < ((o.til.getD 0 : Nat) : Int)) = decide (0 < o.til.getD 0) := decide_eq_decide.mpr (by omega)
      rw [eb]
      exact pickB (fun q => ⟨_, rfl, po, _, dO, _, _, rfl, s1 _ _ hOb, T.c_Operation.cl, T.c_Operation.n _ (by decide +kernel), rfl, hy q _ (.refl _)⟩) fun q => hn q _ (.refl _)
    have h2 : H1 D = some (.lst (((((List.range a.ops.length).filter fun k => decide (0 < (a.op k).til.getD 0)).map fun k => (a.op k).til.getD 0).map fun n : Nat => (n : Int)).map V.int)) := by
      rw [h1, List.map_map, List.map_map]
      rfl
    rw [← ends_range g ht] at h2
    refine ⟨D, _, rfl, SqL.of h2, fun ys r pm srt hr => ?_⟩
    obtain ⟨m, rfl, pm2, srt2⟩ := back_nat pm srt
    have es : sinceD a.shown (opD a) = (m.find? fun t => !(keptD (cutS a.shown (opD a) t) (cutF (opD a) t))).getD 0 := by
      unfold sinceD
      rw [since_sorted (E := _) rfl pm2 srt2]
    have le6 : ∀ t ∈ m, t ≤ 1000000 := fun t h => by
      have := (List.mem_filter.mp (pm2.mem_iff.mp h)).2
      simpa using this
    have s2 : Same H (upd H1 r (.lst ((m.map fun n : Nat => (n : Int)).map V.int))) := s1.trans (same_upd hr)
    have hR : (upd H1 r (.lst ((m.map fun n : Nat => (n : Int)).map V.int))) r = some (.lst (natV m)) := by
      rw [upd_same, natV_int]
    generalize upd H1 r (.lst ((m.map fun n : Nat => (n : Int)).map V.int)) = H2 at s2 hR ⊢
    refine ⟨r, rfl, ⟨_, SqL.of hR⟩, for_list (K := K) (a := r) (xs := natV m) (fun i σ H' => ∃ v1 v2 : Option V, σ = [some (.ref L.oL), v1, v2] ∧ Same H2 H' ∧ ∀ t ∈ m.take i, keptD (cutS a.shown (opD a) t) (cutF (opD a) t) = true) ⟨_, _, rfl, .refl _, fun t h => by cases h⟩ (fun i σ H' _ ⟨_, _, _, s, _⟩ => s.seq (SqL.of hR)) ?_ ?_⟩
    · rintro i y σ H3 hi ⟨v1, v2, rfl, s3, hk⟩
      unfold natV at hi
      rw [List.getElem?_map] at hi
      obtain ⟨t, htm, rfl⟩ := Option.map_eq_some_iff.mp hi
      have t6 := le6 t (List.mem_of_getElem? htm)
      refine ⟨_, rfl, _, rfl, st, L, a, t, rfl, S.same (s2.trans s3), g, t6, fun H4 p ad s4 np hT => ?_⟩
      refine ⟨p, ad, _, _, rfl, hT, hist_cut g ht t6, fun H5 s5 => ⟨_, rfl, ?_⟩⟩
      refine pickB (fun q => ?_) fun q => ?_
      · refine ⟨_, rfl, ?_⟩
        have ef : sinceD a.shown (opD a) = t := by
          rw [es, find_at htm (fun u hu => by rw [hk u hu]; rfl) q]
          rfl
        have z := k H5 (s2.trans (s3.trans (s4.trans s5)))
        rw [ef] at z
        exact z
      · have q : keptD (cutS a.shown (opD a) t) (cutF (opD a) t) = true := by simpa using q
        refine ⟨_, _, rfl, s3.trans (s4.trans s5), fun u hu => ?_⟩
        rw [take_succ htm] at hu
        rcases List.mem_append.mp hu with hu | hu
        · exact hk u hu
        · rw [List.mem_singleton.mp hu]
          exact q
    · rintro σ H3 ⟨v1, v2, rfl, s3, hk⟩
      have hk : ∀ t ∈ m, keptD (cutS a.shown (opD a) t) (cutF (opD a) t) = true := fun t h => hk t (by unfold natV; rw [List.length_map, List.take_length]; exact h)
      have ef : sinceD a.shown (opD a) = 0 := by
        rw [es]
        have : m.find? (fun t => !(keptD (cutS a.shown (opD a) t) (cutF (opD a) t))) = none := List.find?_eq_none.mpr fun t h => by rw [hk t h]; exact Bool.false_ne_true
        rw [this]
        rfl
      have z := k H3 (s2.trans s3)
      rw [ef] at z
      exact z
end
end Ea

/-! The bodies of telling.py: kept to since, now; the call by its number. -/
namespace Ea
open PySem PySem.Spec PyProof.Rows L2
theorem kept_0 {S : List Nat} {F : Nat → Su149.Op} (h : keptD S F = true) : firstClashD S F = none := by
  unfold keptD at h
  rw [Bool.and_eq_true, Bool.and_eq_true] at h
  exact Option.isNone_iff_eq_none.mp h.2.2
theorem ite_fst {a : Su153.Abs} {c : Prop} [Decidable c] {x y : Su153.Abs × Su153.Ans} (hx : x.1 = a) (hy : y.1 = a) : (if c then x else y).1 = a := by
  split
  · exact hx
  · exact hy
theorem does_ask {a : Su153.Abs} {x : Su153.Call} {p : Int} {as : List Int} (he : enc x = p :: as) (h : 11 ≤ p) : (Su153.does a x).1 = a := by
  cases x with
  | message i => exact ite_fst rfl rfl
  | machine i => exact ite_fst rfl rfl
  | customer i => exact ite_fst rfl rfl
  | op i => exact ite_fst rfl rfl
  | order => exact ite_fst rfl rfl
  | kept => rfl
  | why => rfl
  | since => rfl
  | now => rfl
  | safe => rfl
  | state => rfl
  | _ =>
    obtain ⟨rfl, _⟩ := List.cons.inj he
    exact absurd h (by decide)
/-! ### machines by their numbers -/
def upL (a : Su153.Abs) : List Nat := (List.range a.machines.length).filter fun i => (a.machine i).up
theorem mach_range (a : Su153.Abs) : (List.range a.machines.length).map (fun i => a.machine i) = a.machines := by
  apply List.ext_getElem
  · rw [List.length_map, List.length_range]
  · intro i h1 h2
    rw [List.getElem_map, List.getElem_range]
    exact machine_at (List.getElem?_eq_getElem h2)
theorem ups_is (a : Su153.Abs) : a.machines.filter Su153.Machine.up = (upL a).map fun i => a.machine i := by
  conv => lhs; rw [← mach_range a]
  rw [List.filter_map]
  rfl
def notNewer (a : Su153.Abs) (x k : Nat) : Bool := !(Su153.newer (a.machine k).tag (a.machine x).tag)
theorem ups_count (a : Su153.Abs) (x : Nat) : ((a.machines.filter Su153.Machine.up).filter fun k => !(Su153.newer k.tag (a.machine x).tag)).length = ((upL a).filter (notNewer a x)).length := by
  rw [ups_is, List.filter_map, List.length_map]
  rfl
theorem le_lex (s t : Su153.Tag) : Ob.lexAt (fun j => decide (([(s.n : Int), (s.c : Int)] : List Int).getD j 0 = ([(t.n : Int), (t.c : Int)] : List Int).getD j 0)) (fun j => decide (([(s.n : Int), (s.c : Int)] : List Int).getD j 0 ≤ ([(t.n : Int), (t.c : Int)] : List Int).getD j 0)) (decide (([(s.n : Int), (s.c : Int)] : List Int).length ≤ ([(t.n : Int), (t.c : Int)] : List Int).length)) 0 (min ([(s.n : Int), (s.c : Int)] : List Int).length ([(t.n : Int), (t.c : Int)] : List Int).length) = !(Su153.newer s t) := by
  show (if decide ((s.n : Int) = (t.n : Int)) = true then (if decide ((s.c : Int) = (t.c : Int)) = true then decide (2 ≤ 2) else decide ((s.c : Int) ≤ (t.c : Int))) else decide ((s.n : Int) ≤ (t.n : Int))) = _
  unfold Su153.newer
  by_cases a1 : s.n = t.n
  · by_cases a2 : s.c = t.c
    · simp [a1, a2]
    · have : ¬ ((s.c : Int) = (t.c : Int)) := by omega
      simp [a1, this]
      by_cases a3 : t.c < s.c
      · rw [decide_eq_true a3, decide_eq_false (by omega)]
        rfl
      · rw [decide_eq_false a3, decide_eq_true (by omega)]
        rfl
  · have : ¬ ((s.n : Int) = (t.n : Int)) := by omega
    simp [a1, this]
    by_cases a3 : t.n < s.n
    · rw [decide_eq_true a3, decide_eq_false (by omega)]
      rfl
    · rw [decide_eq_false a3, decide_eq_true (by omega)]
      simp [a1]
section
variable {P : Program} {w : World} {K : PySem.W.Frag} {mg : Str → Option Value} {base : Heap}
def spAllTold (T : Txt K mg) : Sp := fun vs H Q _ => ∃ (st : Addr) (L : Lay) (a : Su153.Abs), vs = [.ref st] ∧ StoreAt T.ca H st L a ∧ Good a ∧ a.time ≤ 1000000 ∧
  ∀ (H' : Hp) (p : Addr) (ad : Nat → Addr), Same H H' → H p = none → Told T H' p ad a.shown (opD a) → Q (.ref p) H'
theorem hist_now {a : Su153.Abs} (g : Good a) (ht : a.time ≤ 1000000) : Hist a.shown (opD a) := by
  have z := hist_cut g ht ht
  rw [(cut_now g).1, (cut_now g).2] at z
  exact z
theorem ok_all_told (T : Txt K mg) : FnOk P w K mg base CX0 4 T.d_all_told.f T.d_all_told.fd ["store"] (spAllTold T) := by
  have G_told_by := ok_told_by (P := P) (w := w) (base := base) T
  refine T.d_all_told.F.ok sc_all_told (fun vs H Q E h => ?_) (fun cdv A outer s H vs Q E hr h => ⟨_, (pss_one (ps_ret (pe_call G_told_by (hr.mono (by decide)) (by rfl) T.d_told_by.g T.d_told_by.F.kp T.d_told_by.b .nil pass0 (pa_cons (pe_fld (pv 0) rfl) (pa_cons (pe_fld (pv 0) rfl) pa_nil))))), ?_⟩)
  · obtain ⟨st, L, a, rfl, S, g, ht, k⟩ := h
    rfl
  · obtain ⟨st, L, a, rfl, S, g, ht, k⟩ := h
    obtain ⟨dS, hS⟩ := S.obj
    refine ⟨_, rfl, st, _, dS, _, _, rfl, hS, T.c_Store.cl, T.c_Store.n _ (by decide +kernel), rfl, _, rfl, st, _, dS, _, _, rfl, hS, T.c_Store.cl, T.c_Store.n _ (by decide +kernel), rfl, st, L, a, a.time, rfl, S, g, ht, fun H1 p ad s n hT => ?_⟩
    rw [(cut_now g).1, (cut_now g).2] at hT
    exact k H1 p ad s n hT
theorem ok_kept (T : Txt K mg) : FnOk P w K mg base CX0 6 T.d_kept.f T.d_kept.fd ["store"] ((fun T : Txt K mg => spAsk T .kept []) T) := by
  have G_can_be_found := ok_can_be_found (P := P) (w := w) (base := base) T
  have G_all_told := ok_all_told (P := P) (w := w) (base := base) T
  refine T.d_kept.F.ok sc_kept (fun vs H Q E h => ?_) (fun cdv A outer s H vs Q E hr h => ⟨_, (pss_one (ps_ret (pe_lst (pa_cons (pe_ifExp (pt_val (pe_call G_can_be_found (hr.mono (by decide)) (by rfl) T.d_can_be_found.g T.d_can_be_found.F.kp T.d_can_be_found.b .nil pass0 (pa_cons (pe_call G_all_told (hr.mono (by decide)) (by rfl) T.d_all_told.g T.d_all_told.F.kp T.d_all_told.b .nil pass0 (pa_cons (pv 0) pa_nil)) pa_nil))) pe_int pe_int) pa_nil)))), ?_⟩)
  · obtain ⟨st, L, a, rfl, S, g, hg, ht, k⟩ := h
    rfl
  · obtain ⟨st, L, a, rfl, S, g, hg, ht, k⟩ := h
    have k2 : ∀ (H1 : Hp) (p : Addr), Same H H1 → H1 p = none → Q (.ref p) (upd H1 p (.lst [.int (Su153.bit (keptD a.shown (opD a)) : Nat)])) := by
      rw [← kept_is]
      exact k
    refine ⟨_, rfl, st, L, a, rfl, S, g, ht, fun H1 p ad s n hT => ?_⟩
    refine ⟨p, ad, _, _, rfl, hT, hist_now g ht, fun H2 s2 => ⟨_, rfl, ?_⟩⟩
    have k3 := fun (p : Addr) (hp : H2 p = none) => k2 H2 p (s.trans s2) hp
    cases hb : keptD a.shown (opD a) with
    | true =>
      rw [hb] at k3
      exact iteT ⟨one_le, fun p hp => k3 p hp⟩
    | false =>
      rw [hb] at k3
      exact iteF ⟨one_le, fun p hp => k3 p hp⟩
theorem ok_why (T : Txt K mg) : FnOk P w K mg base CX0 5 T.d_why.f T.d_why.fd ["store"] ((fun T : Txt K mg => spAsk T .why []) T) := by
  have G_why_not := ok_why_not (P := P) (w := w) (base := base) T
  have G_all_told := ok_all_told (P := P) (w := w) (base := base) T
  refine T.d_why.F.ok sc_why (fun vs H Q E h => ?_) (fun cdv A outer s H vs Q E hr h => ⟨_, (pss_one (ps_ret (pe_call G_why_not (hr.mono (by decide)) (by rfl) T.d_why_not.g T.d_why_not.F.kp T.d_why_not.b .nil pass0 (pa_cons (pe_call G_all_told (hr.mono (by decide)) (by rfl) T.d_all_told.g T.d_all_told.F.kp T.d_all_told.b .nil pass0 (pa_cons (pv 0) pa_nil)) pa_nil)))), ?_⟩)
  · obtain ⟨st, L, a, rfl, S, g, hg, ht, k⟩ := h
    rfl
  · obtain ⟨st, L, a, rfl, S, g, hg, ht, k⟩ := h
    have k2 : ∀ (H1 : Hp) (p : Addr), Same H H1 → H1 p = none → Q (.ref p) (upd H1 p (.lst (natV (whyD a.shown (opD a) :: fewD a.shown (opD a))))) := by
      rw [← why_is, ← few_is]
      exact k
    refine ⟨_, rfl, st, L, a, rfl, S, g, ht, fun H1 p ad s n hT => ?_⟩
    exact ⟨p, ad, _, _, rfl, hT, hist_now g ht, fun H2 q s2 n2 => k2 H2 q (s.trans s2) n2⟩
theorem ok_order (T : Txt K mg) : FnOk P w K mg base CX0 6 T.d_order.f T.d_order.fd ["store"] ((fun T : Txt K mg => spAsk T .order []) T) := by
  have G_in_order := ok_in_order (P := P) (w := w) (base := base) T
  have G_can_be_found := ok_can_be_found (P := P) (w := w) (base := base) T
  have G_all_told := ok_all_told (P := P) (w := w) (base := base) T
  refine T.d_order.F.ok sc_order (fun vs H Q E h => ?_) (fun cdv A outer s H vs Q E hr h => ⟨_, (pss_cons (ps_set (i := 1) sc_order.nd rfl (Or.inl rfl) (pe_call G_all_told (hr.mono (by decide)) (by rfl) T.d_all_told.g T.d_all_told.F.kp T.d_all_told.b .nil pass0 (pa_cons (pv 0) pa_nil)))
      (pss_cons (ps_if (pt_not (pt_val (pe_call G_can_be_found (hr.mono (by decide)) (by rfl) T.d_can_be_found.g T.d_can_be_found.F.kp T.d_can_be_found.b .nil pass0 (pa_cons (pv 1) pa_nil))))
        (pss_one (ps_ret (pe_lst (pa_cons (pe_gc (by rfl) T.k_THERE_IS_NONE) pa_nil))))
        pss_nil)
      (pss_cons (ps_set (i := 2) sc_order.nd rfl (Or.inl rfl) (pe_call G_in_order (hr.mono (by decide)) (by rfl) T.d_in_order.g T.d_in_order.F.kp T.d_in_order.b .nil pass0 (pa_cons (pv 1) pa_nil)))
      (pss_one (ps_ret (pe_op op_cat (pe_lst (pa_cons (pe_callB call_len_seq (by rfl) T.b_len PySem.boot_len (pa_cons (pv 2) pa_nil)) pa_nil)) (pv 2))))))), ?_⟩)
  · obtain ⟨st, L, a, rfl, S, g, hg, ht, k⟩ := h
    rfl
  · obtain ⟨st, L, a, rfl, S, g, hg, ht, k⟩ := h
    refine ⟨_, rfl, st, L, a, rfl, S, g, ht, fun H1 p ad s n hT => ?_⟩
    refine ⟨_, rfl, p, ad, _, _, rfl, hT, hist_now g ht, fun H2 s2 => ⟨_, rfl, ?_⟩⟩
    refine pickB (fun q => ?_) fun q => ?_
    · have q : keptD a.shown (opD a) = false := by simpa using q
      have ed : Su153.does a .order = (a, Su153.no (-33)) := if_pos (by rw [kept_is]; exact q)
      rw [ed] at k
      exact ⟨one_le, fun p hp => k H2 p (s.trans s2) hp⟩
    · have q : keptD a.shown (opD a) = true := by simpa using q
      have ed : Su153.does a .order = (a, Su153.list (orderD a.shown (opD a))) := by
        rw [← order_is]
        exact if_neg (by rw [kept_is, q]; exact fun z => Bool.noConfusion z)
      rw [ed] at k
      refine ⟨_, rfl, p, ad, _, _, rfl, hT.same s2, hist_now g ht, kept_0 q, fun H3 r s3 n3 h3 l9 => ?_⟩
      refine ⟨_, rfl, _, _, rfl, .inl (SqL.of h3), one_le, fun a1 n1 => ?_⟩
      have c1 : Same H3 (upd H3 a1 (.lst [V.int ((natV (orderD a.shown (opD a))).length : Nat)])) := same_upd n1
      refine ⟨_, rfl, _, _, _, _, rfl, rfl, upd_same, c1 _ _ h3, ?_, fun a2 n2 => ?_⟩
      · rw [natV_len, List.length_singleton]
        exact Nat.le_trans (by omega : 1 + (orderD a.shown (opD a)).length ≤ 1000) (by decide)
      · have z := k _ a2 (s.trans (s2.trans (s3.trans c1))) n2
        have e : [V.int ((natV (orderD a.shown (opD a))).length : Nat)] ++ natV (orderD a.shown (opD a)) = ansV (a, Su153.list (orderD a.shown (opD a))).2 := by
          rw [natV_len]
          rfl
        rw [e]
        exact z
theorem ok_since (T : Txt K mg) : FnOk P w K mg base CX0 7 T.d_since.f T.d_since.fd ["store"] ((fun T : Txt K mg => spAsk T .since []) T) := by
  have G_earliest_without := ok_earliest_without (P := P) (w := w) (base := base) T
  refine T.d_since.F.ok sc_since (fun vs H Q E h => ?_) (fun cdv A outer s H vs Q E hr h => ⟨_, (pss_one (ps_ret (pe_lst (pa_cons (pe_call G_earliest_without (hr.mono (by decide)) (by rfl) T.d_earliest_without.g T.d_earliest_without.F.kp T.d_earliest_without.b .nil pass0 (pa_cons (pe_fld (pv 0) rfl) pa_nil)) pa_nil)))), ?_⟩)
  · obtain ⟨st, L, a, rfl, S, g, hg, ht, k⟩ := h
    rfl
  · obtain ⟨st, L, a, rfl, S, g, hg, ht, k⟩ := h
    obtain ⟨dS, hS⟩ := S.obj
    have k2 : ∀ (H1 : Hp) (p : Addr), Same H H1 → H1 p = none → Q (.ref p) (upd H1 p (.lst [.int (sinceD a.shown (opD a) : Nat)])) := by
      rw [← since_is]
      exact k
    refine ⟨_, rfl, st, _, dS, _, _, rfl, hS, T.c_Store.cl, T.c_Store.n _ (by decide +kernel), rfl, st, L, a, rfl, S, g, ht, fun H1 s => ?_⟩
    exact ⟨one_le, fun p hp => k2 H1 p s hp⟩
theorem ok_now (T : Txt K mg) : FnOk P w K mg base CX0 1 T.d_now.f T.d_now.fd ["store"] ((fun T : Txt K mg => spAsk T .now []) T) := by
  refine T.d_now.F.ok sc_now (fun vs H Q E h => ?_) (fun cdv A outer s H vs Q E hr h => ⟨_, (pss_cons (ps_setLc (i := 2) (own := [("machine", 1)]) (g := gName 1) (tt := (tB (tFld K (tVar 1) "up"))) (te := (tVar 1)) (by rfl) sc_now.nd rfl rfl (sw_true rfl rfl rfl (by decide +kernel)) (pi_list (pe_fld (pv 0) rfl)) (blkOk_by (own := [("machine", 1)]) (N := ["store", "machine", "up", "values", "not_newer", "other"]) (sc := defScope s_now) (by decide +kernel)) (fun _ _ _ _ _ => by exact pg_name (i := 1) sc_now.nd rfl (Or.inl rfl)) (fun _ _ _ _ _ => by exact (pts_one (pt_val (pe_fld (pv 1) rfl)))) (fun _ _ _ _ _ => by exact (pv 1)))
      (pss_cons (ps_set (i := 3) sc_now.nd rfl (Or.inl rfl) (pe_lst pa_nil))
      (pss_cons (ps_for PassesOwn.never rfl (pi_list (pv 2)) (pg_name (i := 1) sc_now.nd rfl (Or.inr rfl))
        (pss_cons (ps_setLc (i := 4) (own := [("other", 5)]) (g := gName 5) (tt := (tTest (tOp (rLeT K) (tFld K (tVar 5) "tag") (tFld K (tVar 1) "tag")))) (te := (tVar 5)) (by rfl) sc_now.nd rfl rfl (sw_true rfl rfl rfl (by decide +kernel)) (pi_list (pv 2)) (blkOk_by (own := [("other", 5)]) (N := ["store", "machine", "up", "values", "not_newer", "other"]) (sc := defScope s_now) (by decide +kernel)) (fun _ _ _ _ _ => by exact pg_name (i := 5) sc_now.nd rfl (Or.inl rfl)) (fun _ _ _ _ _ => by exact (pts_one (pt_cmpR (op_leT hr.units0) (pe_fld (pv 5) rfl) (pe_fld (pv 1) rfl) (nomark _)))) (fun _ _ _ _ _ => by exact (pv 5)))
        (pss_one (ps_if (PW.pt (pw_and (pt_cmpR op_ge (pe_callB call_len_seq (by rfl) T.b_len PySem.boot_len (pa_cons (pv 4) pa_nil)) (pe_fld (pv 0) rfl) (nomark _)) (pw_and1 (pt_cmpR op_notIn_seq (pe_fld (pv 1) rfl) (pv 3) (by rfl)))))
          (pss_one (ps_expr (pe_bm PySem.F.plainAttrs_list PySem.F.slot_list_append PySem.F.type_list_append mt_append (pv 3) (pa_cons (pe_fld (pv 1) rfl) pa_nil))))
          pss_nil))))
      (pss_one (ps_ret (pe_op op_cat (pe_lst (pa_cons (pe_callB call_len_seq (by rfl) T.b_len PySem.boot_len (pa_cons (pv 3) pa_nil)) pa_nil)) (pe_callB cr_sortedI (by rfl) T.b_sorted (by decide +kernel) (pa_cons (pv 3) pa_nil)))))))), ?_⟩)
  · obtain ⟨st, L, a, rfl, S, g, hg, ht, k⟩ := h
    rfl
  · obtain ⟨st, L, a, rfl, S, g, hg, ht, k⟩ := h
    obtain ⟨dS, hS⟩ := S.obj
    have n5 := g.n
    have em : L.ms.map V.ref = (List.range a.machines.length).map fun i => V.ref (L.ms.getD i 0) := by
      apply List.ext_getElem
      · rw [List.length_map, List.length_map, List.length_range, S.ml]
      · intro i h1 h2
        rw [List.getElem_map, List.getElem_map, List.getElem_range]
        rw [List.getD_eq_getElem?_getD, List.getElem?_eq_getElem (by rw [List.length_map] at h1; exact h1)]
        rfl
    have hM := S.mL
    rw [em] at hM
    have mAt : ∀ {H' : Hp} {i : Nat}, Same H H' → i < a.machines.length → ∃ dm tm, H' (L.ms.getD i 0) = some (.ins T.ca.M dm (mF (a.machine i) tm)) ∧ TagAt H' tm (a.machine i).tag := fun {H'} {i} s hi => by
      obtain ⟨m, hm⟩ := get_of_lt hi
      obtain ⟨pm, hpm, z⟩ := S.m_at hm
      have ep : L.ms.getD i 0 = pm := by rw [List.getD_eq_getElem?_getD, hpm]; rfl
      rw [ep, machine_at hm]
      exact z.same s
    refine ⟨_, rfl, st, _, dS, _, _, rfl, hS, T.c_Store.cl, T.c_Store.n _ (by decide +kernel), rfl, _, rfl, ⟨_, SqL.of hM⟩, fun D hD => lc_pure (A := List.range a.machines.length) (p := fun i => (a.machine i).up) (v := fun i => V.ref (L.ms.getD i 0)) (SqL.of hM) (by rw [List.length_range]; omega) hD ?_ fun H1 s1 h1 => ?_⟩
    · intro i hi H1 s1 Y N hy hn
      obtain ⟨dm, tm, hm, _⟩ := mAt s1 (List.mem_range.mp hi)
      refine ⟨rfl, _, rfl, L.ms.getD i 0, _, dm, _, _, rfl, hm, T.c_Machine.cl, T.c_Machine.n _ (by decide +kernel), rfl, _, rfl, ?_⟩
      exact pickB (fun q => ⟨_, rfl, hy q _ (.refl _)⟩) fun q => hn q _ (.refl _)
    have h1 : H1 D = some (.lst ((upL a).map fun i => V.ref (L.ms.getD i 0))) := h1
    have ulen : (upL a).length ≤ 5 := Nat.le_trans (List.length_filter_le ..) (by rw [List.length_range]; omega)
    have umem : ∀ {i : Nat}, i ∈ upL a → i < a.machines.length := fun h => List.mem_range.mp (memf h)
    refine ⟨Nat.zero_le _, fun vl hvl => ?_⟩
    have nvl : H1 vl = none := hvl
    refine ⟨_, rfl, D, rfl, ⟨_, SqL.of ((same_upd nvl) _ _ h1)⟩, for_list (K := K) (a := D) (xs := (upL a).map fun i => V.ref (L.ms.getD i 0)) (fun i σ H' => ∃ (l : List Nat) (v1 v4 v5 : Option V), σ = [some (.ref st), v1, some (.ref D), some (.ref vl), v4, v5] ∧ Same H1 H' ∧ H' vl = some (.lst (natV l)) ∧ l.Nodup ∧ l.length ≤ i ∧
      ∀ v, v ∈ l ↔ ∃ x ∈ (upL a).take i, (a.machine x).v = v ∧ a.ask ≤ ((upL a).filter (notNewer a x)).length) ⟨[], _, _, _, rfl, same_upd nvl, upd_same, List.nodup_nil, Nat.le_refl _, fun v => ⟨(fun h => by cases h), fun ⟨x, h, _⟩ => by cases h⟩⟩ (fun i σ H' _ ⟨_, _, _, _, _, s, _⟩ => s.seq (SqL.of h1)) ?_ ?_⟩
    · rintro i y σ H2 hi ⟨l, v1, v4, v5, rfl, s2, hl, nd, li, mem⟩
      rw [List.getElem?_map] at hi
      obtain ⟨x, hx, rfl⟩ := Option.map_eq_some_iff.mp hi
      have hxu := List.mem_of_getElem? hx
      have i5 : i < 5 := by have := lt_of_get hx; omega
      have s12 := s1.trans s2
      refine ⟨_, rfl, D, rfl, ⟨_, SqL.of (s2 _ _ h1)⟩, fun D2 hD2 => lc_pure (A := upL a) (p := notNewer a x) (v := fun i => V.ref (L.ms.getD i 0)) (SqL.of (s2 _ _ h1)) (by omega) hD2 ?_ fun H3 s3 h3 => ?_⟩
      · intro j hj H3 s3 Y N hy hn
        obtain ⟨dj, tj, hmj, htj⟩ := mAt (s12.trans s3) (umem hj)
        obtain ⟨dx, tx, hmx, htx⟩ := mAt (s12.trans s3) (umem hxu)
        refine ⟨rfl, _, rfl, L.ms.getD j 0, _, dj, _, _, rfl, hmj, T.c_Machine.cl, T.c_Machine.n _ (by decide +kernel), rfl, _, rfl, L.ms.getD x 0, _, dx, _, _, rfl, hmx, T.c_Machine.cl, T.c_Machine.n _ (by decide +kernel), rfl, tj, tx, [((a.machine j).tag.n : Int), ((a.machine j).tag.c : Int)], [((a.machine x).tag.n : Int), ((a.machine x).tag.c : Int)], rfl, rfl, SqT.of htj, SqT.of htx, _, rfl, ?_⟩
        rw [le_lex]
        exact pickB (fun q => ⟨_, rfl, hy q _ (.refl _)⟩) fun q => hn q _ (.refl _)
      obtain ⟨dx, tx, hmx, htx⟩ := mAt (s12.trans s3) (umem hxu)
      have hS3 := s3 _ _ (s12 _ _ hS)
      have hl3 := s3 _ _ hl
      have tk : ∀ v, (∃ y ∈ (upL a).take (i + 1), (a.machine y).v = v ∧ a.ask ≤ ((upL a).filter (notNewer a y)).length) ↔ v ∈ l ∨ ((a.machine x).v = v ∧ a.ask ≤ ((upL a).filter (notNewer a x)).length) := fun v => by
        rw [mem v, take_succ hx]
        constructor
        · rintro ⟨y, hy, z⟩
          rcases List.mem_append.mp hy with hy | hy
          · exact .inl ⟨y, hy, z⟩
          · rw [List.mem_singleton.mp hy] at z
            exact .inr z
        · rintro (⟨y, hy, z⟩ | z)
          · exact ⟨y, List.mem_append.mpr (.inl hy), z⟩
          · exact ⟨x, List.mem_append.mpr (.inr (List.mem_cons_self ..)), z⟩
      have stay : (v4' v5' : Option V) → (∀ v, (a.machine x).v = v → a.ask ≤ ((upL a).filter (notNewer a x)).length → v ∈ l) → ∃ (l : List Nat) (v1 v4 v5 : Option V), [some (.ref st), some (V.ref (L.ms.getD x 0)), some (.ref D), some (.ref vl), v4', v5'] = [some (.ref st), v1, some (.ref D), some (.ref vl), v4, v5] ∧ Same H1 H3 ∧ H3 vl = some (.lst (natV l)) ∧ l.Nodup ∧ l.length ≤ i + 1 ∧
          ∀ v, v ∈ l ↔ ∃ x ∈ (upL a).take (i + 1), (a.machine x).v = v ∧ a.ask ≤ ((upL a).filter (notNewer a x)).length := fun v4' v5' hin =>
        ⟨l, _, _, _, rfl, s2.trans s3, hl3, nd, by omega, fun v => by
          rw [tk v]
          exact ⟨.inl, fun z => z.elim id fun z => hin v z.1 z.2⟩⟩
      refine ⟨_, rfl, _, _, rfl, .inl (SqL.of h3), _, rfl, st, _, dS, _, _, rfl, hS3, T.c_Store.cl, T.c_Store.n _ (by decide +kernel), rfl, _, _, rfl, rfl, _, rfl, ?_⟩
      rw [List.length_map]
      refine ite2 (fun q => ?_) fun q => ?_
      · have qa : a.ask ≤ ((upL a).filter (notNewer a x)).length := by
          have := of_decide_eq_true q
          omega
        refine ⟨_, rfl, L.ms.getD x 0, _, dx, _, _, rfl, hmx, T.c_Machine.cl, T.c_Machine.n _ (by decide +kernel), rfl, _, rfl, _, _, rfl, .inl (SqL.of hl3), rfl, flat_nat _, _, rfl, ?_⟩
        rw [inV_nat]
        refine pickB (fun q2 => ?_) fun q2 => ?_
        · have q2 : (a.machine x).v ∉ l := by simpa using q2
          refine ⟨_, rfl, .inl ⟨rfl, _, SqL.of hl3⟩, _, rfl, L.ms.getD x 0, _, dx, _, _, rfl, hmx, T.c_Machine.cl, T.c_Machine.n _ (by decide +kernel), rfl, _, _, _, rfl, rfl, hl3, ?_, ?_⟩
          · rw [natV_len]
            exact small1000 (by omega)
          · refine ⟨l ++ [(a.machine x).v], _, _, _, rfl, ?_, ?_, ?_, ?_, fun v => ?_⟩
            · intro b o e
              rw [upd_ne (ne_of_none e nvl)]
              exact s3 _ _ (s2 _ _ e)
            · rw [upd_same, natV_app]
              rfl
            · refine List.nodup_append.mpr ⟨nd, List.nodup_cons.mpr ⟨(fun h => by cases h), List.nodup_nil⟩, fun u hu z hz e => ?_⟩
              rw [List.mem_singleton.mp hz] at e
              exact q2 (e ▸ hu)
            · rw [List.length_append, List.length_singleton]
              omega
            · rw [tk v, List.mem_append, List.mem_singleton]
              exact ⟨fun z => z.elim .inl fun z => .inr ⟨z.symm, qa⟩, fun z => z.elim .inl fun z => .inr z.1.symm⟩
        · have q2 : (a.machine x).v ∈ l := by simpa using q2
          exact stay _ _ fun v e _ => e ▸ q2
      · exact stay _ _ fun v _ h => absurd (decide_eq_true (by omega)) q
    · rintro σ H2 ⟨l, v1, v4, v5, rfl, s2, hl, nd, li, mem⟩
      rw [List.length_map] at li
      have mem : ∀ v, v ∈ l ↔ ∃ x ∈ a.machines.filter Su153.Machine.up, x.v = v ∧ a.ask ≤ ((a.machines.filter Su153.Machine.up).filter fun k => !(Su153.newer k.tag x.tag)).length := fun v => by
        rw [mem v, List.length_map, List.take_length]
        constructor
        · rintro ⟨x, hx, e, q⟩
          refine ⟨a.machine x, by rw [ups_is]; exact List.mem_map.mpr ⟨x, hx, rfl⟩, e, ?_⟩
          rw [ups_count]
          exact q
        · rintro ⟨x, hx, e, q⟩
          rw [ups_is] at hx
          obtain ⟨j, hj, rfl⟩ := List.mem_map.mp hx
          rw [ups_count] at q
          exact ⟨j, hj, e, q⟩
      have s12 := s1.trans s2
      refine ⟨_, rfl, _, _, rfl, .inl (SqL.of hl), one_le, fun a1 n1 => ?_⟩
      have c1 : Same H2 (upd H2 a1 (.lst [V.int ((natV l).length : Nat)])) := same_upd n1
      have y1 : (upd H2 a1 (.lst [V.int ((natV l).length : Nat)])) a1 = some (.lst [V.int (l.length : Nat)]) := by
        rw [upd_same, natV_len]
      generalize upd H2 a1 (.lst [V.int ((natV l).length : Nat)]) = H3 at c1 y1 ⊢
      have hl3 := c1 _ _ hl
      rw [natV_int] at hl3
      refine ⟨_, rfl, vl, _, rfl, SqL.of hl3, fun ys r pm srt nr => ?_⟩
      obtain ⟨m, rfl, pm2, srt2⟩ := back_nat pm srt
      obtain rfl := now_is g nd mem pm2 srt2
      have c2 : Same H3 (upd H3 r (.lst ((a.now.map fun n : Nat => (n : Int)).map V.int))) := same_upd nr
      have ll : a.now.length = l.length := pm2.length_eq
      refine ⟨_, _, _, _, rfl, rfl, c2 _ _ y1, upd_same, ?_, fun a2 n2 => ?_⟩
      · rw [List.length_map, List.length_map, List.length_singleton]
        exact Nat.le_trans (by omega : 1 + a.now.length ≤ 1000) (by decide)
      · have z := k _ a2 (s12.trans (c1.trans c2)) n2
        rw [← natV_int, ← ll]
        rw [← natV_int] at z
        exact z
/-! ### the call by its number -/
def spTell (T : Txt K mg) : Sp := fun vs H Q E => ∃ (st : V) (x : Su153.Call) (p : Int) (as : List Int) (g : Addr), vs = [st, .int p, .ref g] ∧ enc x = p :: as ∧ 11 ≤ p ∧ H g = some (.lst (as.map V.int)) ∧ spAsk T x [] [st] H Q E
theorem spAsk_args {T : Txt K mg} {x : Su153.Call} {l l' : List V} {st : V} {H : Hp} {Q : VK} {E : XK} (h : spAsk T x l (st :: l) H Q E) : spAsk T x l' (st :: l') H Q E := by
  obtain ⟨s, L, a, e, r⟩ := h
  refine ⟨s, L, a, ?_, r⟩
  rw [(List.cons.inj e).1]
def S_WITH_ONE_NUMBER_telling (T : Txt K mg) : Addr → Sp → Prop := fun f sp => (f = T.d_message_told.f ∧ sp = spTold1 T .message) ∨ (f = T.d_machine_told.f ∧ sp = spTold1 T .machine) ∨ (f = T.d_customer_told.f ∧ sp = spTold1 T .customer) ∨ (f = T.d_op_told.f ∧ sp = spTold1 T .op)
def S_WITH_NONE (T : Txt K mg) : Addr → Sp → Prop := fun f sp => (f = T.d_kept.f ∧ sp = spAsk T .kept []) ∨ (f = T.d_why.f ∧ sp = spAsk T .why []) ∨ (f = T.d_order.f ∧ sp = spAsk T .order []) ∨ (f = T.d_since.f ∧ sp = spAsk T .since []) ∨ (f = T.d_now.f ∧ sp = spAsk T .now []) ∨ (f = T.d_safe.f ∧ sp = spAsk T .safe []) ∨ (f = T.d_state.f ∧ sp = spAsk T .state [])
theorem held7 {T : Txt K mg} {x qual : Str} {st : Stmt} {ps : List Str} (d : DefAt K mg x qual st ps) {j : Nat} {sp : Sp} (F : FnOk P w K mg base CX0 j d.f d.fd ps sp) (h : j ≤ 7) : Held P w K mg base 7 d.f sp :=
  ⟨⟨d.fd, ps, F.mono h, d.F.kp, d.b⟩⟩
theorem held_one (T : Txt K mg) : ∀ f sp, S_WITH_ONE_NUMBER_telling T f sp → Held P w K mg base 7 f sp := by
  intro f sp h
  rcases h with ⟨rfl, rfl⟩ | ⟨rfl, rfl⟩ | ⟨rfl, rfl⟩ | ⟨rfl, rfl⟩
  · exact held7 (T := T) T.d_message_told (ok_message_told T) (by decide)
  · exact held7 (T := T) T.d_machine_told (ok_machine_told T) (by decide)
  · exact held7 (T := T) T.d_customer_told (ok_customer_told T) (by decide)
  · exact held7 (T := T) T.d_op_told (ok_op_told T) (by decide)
theorem held_none (T : Txt K mg) : ∀ f sp, S_WITH_NONE T f sp → Held P w K mg base 7 f sp := by
  intro f sp h
  rcases h with ⟨rfl, rfl⟩ | ⟨rfl, rfl⟩ | ⟨rfl, rfl⟩ | ⟨rfl, rfl⟩ | ⟨rfl, rfl⟩ | ⟨rfl, rfl⟩ | ⟨rfl, rfl⟩
  · exact held7 (T := T) T.d_kept (ok_kept T) (by decide)
  · exact held7 (T := T) T.d_why (ok_why T) (by decide)
  · exact held7 (T := T) T.d_order (ok_order T) (by decide)
  · exact held7 (T := T) T.d_since (ok_since T) (by decide)
  · exact held7 (T := T) T.d_now (ok_now T) (by decide)
  · exact held7 (T := T) T.d_safe (ok_safe T) (by decide)
  · exact held7 (T := T) T.d_state (ok_state T) (by decide)
theorem ok_tell (T : Txt K mg) : FnOk P w K mg base CX0 8 T.d_tell.f T.d_tell.fd ["store", "number", "given"] (spTell T) := by
  have H_WITH_ONE_NUMBER_telling := held_one (P := P) (w := w) (base := base) T
  have H_WITH_NONE := held_none (P := P) (w := w) (base := base) T
  obtain ⟨d1, g_WITH_ONE_NUMBER_telling, c1⟩ := T.k_WITH_ONE_NUMBER_telling
  obtain ⟨d0, g_WITH_NONE, c0⟩ := T.k_WITH_NONE
  refine T.d_tell.F.ok sc_tell (fun vs H Q E h => ?_) (fun cdv A outer s H vs Q E hr h => ⟨_, (pss_cons (ps_if (pt_cmpR op_in_dI (pv 1) (pe_gc (by rfl) g_WITH_ONE_NUMBER_telling) (by rfl))
        (pss_one (ps_ret (pe_callX (S := S_WITH_ONE_NUMBER_telling T) H_WITH_ONE_NUMBER_telling (hr.mono (by decide)) (pe_ix ix_dI (pe_gc (by rfl) g_WITH_ONE_NUMBER_telling) (pv 1) (fun _ _ => rfl)) (pa_cons (pv 0) (pa_cons (pe_ix ix_list (pv 2) pe_int (fun _ _ => rfl)) pa_nil)))))
        pss_nil)
      (pss_one (ps_ret (pe_callX (S := S_WITH_NONE T) H_WITH_NONE (hr.mono (by decide)) (pe_ix ix_dI (pe_gc (by rfl) g_WITH_NONE) (pv 1) (fun _ _ => rfl)) (pa_cons (pv 0) pa_nil))))), ?_⟩)
  · obtain ⟨st, x, p, as, g, rfl, _⟩ := h
    rfl
  · obtain ⟨st, x, p, as, g, rfl, he, h11, hg, k⟩ := h
    refine ⟨_, rfl, d1, _, p, rfl, rfl, c1, _, rfl, ?_⟩
    cases x with
    | message i =>
      obtain ⟨rfl, rfl⟩ := List.cons.inj he
      refine ite2 (fun _ => ?_) fun q => absurd (decide_eq_true (show (11 : Int) ∈ ([11, 12, 13, 14] : List Int) by decide)) q
      exact ⟨_, rfl, d1, _, 11, T.d_message_told.f, rfl, rfl, c1, (by repeat (first | exact List.mem_cons_self .. | apply List.mem_cons_of_mem)), T.d_message_told.f, spTold1 T .message, rfl, (.inl ⟨rfl, rfl⟩), _, rfl, _, rfl, g, _, _, _, rfl, rfl, SqL.of hg, rfl, _, i, rfl, spAsk_args k⟩
    | machine i =>
      obtain ⟨rfl, rfl⟩ := List.cons.inj he
      refine ite2 (fun _ => ?_) fun q => absurd (decide_eq_true (show (12 : Int) ∈ ([11, 12, 13, 14] : List Int) by decide)) q
      exact ⟨_, rfl, d1, _, 12, T.d_machine_told.f, rfl, rfl, c1, (by repeat (first | exact List.mem_cons_self .. | apply List.mem_cons_of_mem)), T.d_machine_told.f, spTold1 T .machine, rfl, (.inr (.inl ⟨rfl, rfl⟩)), _, rfl, _, rfl, g, _, _, _, rfl, rfl, SqL.of hg, rfl, _, i, rfl, spAsk_args k⟩
    | customer i =>
      obtain ⟨rfl, rfl⟩ := List.cons.inj he
      refine ite2 (fun _ => ?_) fun q => absurd (decide_eq_true (show (13 : Int) ∈ ([11, 12, 13, 14] : List Int) by decide)) q
      exact ⟨_, rfl, d1, _, 13, T.d_customer_told.f, rfl, rfl, c1, (by repeat (first | exact List.mem_cons_self .. | apply List.mem_cons_of_mem)), T.d_customer_told.f, spTold1 T .customer, rfl, (.inr (.inr (.inl ⟨rfl, rfl⟩))), _, rfl, _, rfl, g, _, _, _, rfl, rfl, SqL.of hg, rfl, _, i, rfl, spAsk_args k⟩
    | op i =>
      obtain ⟨rfl, rfl⟩ := List.cons.inj he
      refine ite2 (fun _ => ?_) fun q => absurd (decide_eq_true (show (14 : Int) ∈ ([11, 12, 13, 14] : List Int) by decide)) q
      exact ⟨_, rfl, d1, _, 14, T.d_op_told.f, rfl, rfl, c1, (by repeat (first | exact List.mem_cons_self .. | apply List.mem_cons_of_mem)), T.d_op_told.f, spTold1 T .op, rfl, (.inr (.inr (.inr (⟨rfl, rfl⟩)))), _, rfl, _, rfl, g, _, _, _, rfl, rfl, SqL.of hg, rfl, _, i, rfl, spAsk_args k⟩
    | kept =>
      obtain ⟨rfl, rfl⟩ := List.cons.inj he
      refine ite2 (fun q => absurd (of_decide_eq_true q) (show ¬ (15 : Int) ∈ ([11, 12, 13, 14] : List Int) by decide)) fun _ => ?_
      exact ⟨_, rfl, d0, _, 15, T.d_kept.f, rfl, rfl, c0, (by repeat (first | exact List.mem_cons_self .. | apply List.mem_cons_of_mem)), T.d_kept.f, spAsk T .kept [], rfl, (.inl ⟨rfl, rfl⟩), _, rfl, k⟩
    | why =>
      obtain ⟨rfl, rfl⟩ := List.cons.inj he
      refine ite2 (fun q => absurd (of_decide_eq_true q) (show ¬ (16 : Int) ∈ ([11, 12, 13, 14] : List Int) by decide)) fun _ => ?_
      exact ⟨_, rfl, d0, _, 16, T.d_why.f, rfl, rfl, c0, (by repeat (first | exact List.mem_cons_self .. | apply List.mem_cons_of_mem)), T.d_why.f, spAsk T .why [], rfl, (.inr (.inl ⟨rfl, rfl⟩)), _, rfl, k⟩
    | order =>
      obtain ⟨rfl, rfl⟩ := List.cons.inj he
      refine ite2 (fun q => absurd (of_decide_eq_true q) (show ¬ (17 : Int) ∈ ([11, 12, 13, 14] : List Int) by decide)) fun _ => ?_
      exact ⟨_, rfl, d0, _, 17, T.d_order.f, rfl, rfl, c0, (by repeat (first | exact List.mem_cons_self .. | apply List.mem_cons_of_mem)), T.d_order.f, spAsk T .order [], rfl, (.inr (.inr (.inl ⟨rfl, rfl⟩))), _, rfl, k⟩
    | since =>
      obtain ⟨rfl, rfl⟩ := List.cons.inj he
      refine ite2 (fun q => absurd (of_decide_eq_true q) (show ¬ (18 : Int) ∈ ([11, 12, 13, 14] : List Int) by decide)) fun _ => ?_
      exact ⟨_, rfl, d0, _, 18, T.d_since.f, rfl, rfl, c0, (by repeat (first | exact List.mem_cons_self .. | apply List.mem_cons_of_mem)), T.d_since.f, spAsk T .since [], rfl, (.inr (.inr (.inr (.inl ⟨rfl, rfl⟩)))), _, rfl, k⟩
    | now =>
      obtain ⟨rfl, rfl⟩ := List.cons.inj he
      refine ite2 (fun q => absurd (of_decide_eq_true q) (show ¬ (19 : Int) ∈ ([11, 12, 13, 14] : List Int) by decide)) fun _ => ?_
      exact ⟨_, rfl, d0, _, 19, T.d_now.f, rfl, rfl, c0, (by repeat (first | exact List.mem_cons_self .. | apply List.mem_cons_of_mem)), T.d_now.f, spAsk T .now [], rfl, (.inr (.inr (.inr (.inr (.inl ⟨rfl, rfl⟩))))), _, rfl, k⟩
    | safe =>
      obtain ⟨rfl, rfl⟩ := List.cons.inj he
      refine ite2 (fun q => absurd (of_decide_eq_true q) (show ¬ (20 : Int) ∈ ([11, 12, 13, 14] : List Int) by decide)) fun _ => ?_
      exact ⟨_, rfl, d0, _, 20, T.d_safe.f, rfl, rfl, c0, (by repeat (first | exact List.mem_cons_self .. | apply List.mem_cons_of_mem)), T.d_safe.f, spAsk T .safe [], rfl, (.inr (.inr (.inr (.inr (.inr (.inl ⟨rfl, rfl⟩)))))), _, rfl, k⟩
    | state =>
      obtain ⟨rfl, rfl⟩ := List.cons.inj he
      refine ite2 (fun q => absurd (of_decide_eq_true q) (show ¬ (21 : Int) ∈ ([11, 12, 13, 14] : List Int) by decide)) fun _ => ?_
      exact ⟨_, rfl, d0, _, 21, T.d_state.f, rfl, rfl, c0, (by repeat (first | exact List.mem_cons_self .. | apply List.mem_cons_of_mem)), T.d_state.f, spAsk T .state [], rfl, (.inr (.inr (.inr (.inr (.inr (.inr (⟨rfl, rfl⟩))))))), _, rfl, k⟩
    | _ =>
      obtain ⟨rfl, rfl⟩ := List.cons.inj he
      exact absurd h11 (by decide)
end
end Ea

/-! The bodies: a line's answer, and the loop over all calls. -/
namespace Ea
open PySem PySem.Spec PyProof.Rows L2
section
variable {P : Program} {w : World} {K : PySem.W.Frag} {mg : Str → Option Value} {base : Heap}
def spLAns (T : Txt K mg) : Sp := fun vs H Q _ => ∃ (ln g : Addr) (x : Su153.Call) (p : Int) (as : List Int), vs = [.ref ln, .int p, .ref g] ∧ enc x = p :: as ∧ H g = some (.lst (as.map V.int)) ∧ spLine T x ln H Q
theorem enc_begin {x : Su153.Call} {as : List Int} (h : enc x = 0 :: as) : ∃ n c q t on : Nat, x = .begin_ n c q t on ∧ as = [(n : Int), c, q, t, on] := by
  cases x with
  | begin_ n c q t on => exact ⟨n, c, q, t, on, rfl, (List.cons.inj h).2.symm⟩
  | _ => exact absurd (List.cons.inj h).1 (by decide)
theorem enc_lo {x : Su153.Call} {p : Int} {as : List Int} (h : enc x = p :: as) : 0 ≤ p ∧ p ≤ 21 := by
  cases x <;> (obtain ⟨rfl, _⟩ := List.cons.inj h; decide)
theorem step_some (a : Su153.Abs) (x : Su153.Call) : Su153.step (some a) x = (some (Su153.does a x).1, (Su153.does a x).2) := by
  cases x <;> rfl
theorem step_none {x : Su153.Call} {p : Int} {as : List Int} (h : enc x = p :: as) (h0 : p ≠ 0) : Su153.step none x = (none, Su153.no (-11)) := by
  cases x with
  | begin_ n c q t on => exact absurd (List.cons.inj h).1.symm h0
  | _ => rfl
/-- a call on the store of a line -/
theorem line_do {T : Txt K mg} {x : Su153.Call} {ln st dx : Addr} {H : Hp} {Q : VK} {L : Lay} {a : Su153.Abs} {E : XK} (hln : H ln = some (.ins T.c_Line.C dx [("store", .ref st)])) (S : StoreAt T.ca H st L a) (g : Good a) (hg : a.msgs.length ≤ 1000000)
    (k : ∀ (H1 : Hp) (F' : List Addr) (q : Addr), LineAt T H1 ln (Su153.step (some a) x).1 F' → Frm H H1 (ln :: foot st L) F' → H1 q = none → Q (.ref q) (upd H1 q (.lst (ansV (Su153.step (some a) x).2)))) : spDo T x [] [.ref st] H Q E := by
  refine ⟨st, L, a, rfl, S, g, hg, fun H1 L' p S1 F1 hp => ?_⟩
  rw [step_some] at k
  have hln1 := F1.keep _ _ hln (S.no_line hln)
  refine k H1 (ln :: foot st L') p ⟨st, L', dx, rfl, hln1, S1⟩ ⟨fun b o e n => F1.keep b o e fun z => n (List.mem_cons_of_mem _ z), fun b hb => ?_⟩ hp
  rcases List.mem_cons.mp hb with rfl | hb
  · exact .inl (List.mem_cons_self ..)
  · rcases F1.foot b hb with z | z
    · exact .inl (List.mem_cons_of_mem _ z)
    · exact .inr z
/-- a call that only tells -/
theorem line_ask {T : Txt K mg} {x : Su153.Call} {ln st dx : Addr} {H : Hp} {Q : VK} {L : Lay} {a : Su153.Abs} {E : XK} {p : Int} {as : List Int} (hln : H ln = some (.ins T.c_Line.C dx [("store", .ref st)])) (S : StoreAt T.ca H st L a) (g : Good a) (hg : a.msgs.length ≤ 1000000) (ht : a.time ≤ 1000000) (he : enc x = p :: as) (h11 : 11 ≤ p)
    (k : ∀ (H1 : Hp) (F' : List Addr) (q : Addr), LineAt T H1 ln (Su153.step (some a) x).1 F' → Frm H H1 (ln :: foot st L) F' → H1 q = none → Q (.ref q) (upd H1 q (.lst (ansV (Su153.step (some a) x).2)))) : spAsk T x [] [.ref st] H Q E := by
  refine ⟨st, L, a, rfl, S, g, hg, ht, fun H1 p s hp => ?_⟩
  rw [step_some] at k
  have ed : (Su153.does a x).1 = a := does_ask he h11
  refine k H1 (ln :: foot st L) p ?_ (.same s) hp
  rw [ed]
  exact ⟨st, L, dx, rfl, s _ _ hln, S.same s⟩
theorem ok_Line_answer (T : Txt K mg) : FnOk P w K mg base CX0 9 T.d_Line_answer.f T.d_Line_answer.fd ["self", "number", "given"] (spLAns T) := by
  have G_Line_begin := ok_Line_begin (P := P) (w := w) (base := base) T
  have G_change := ok_change (P := P) (w := w) (base := base) T
  have G_tell := ok_tell (P := P) (w := w) (base := base) T
  refine T.d_Line_answer.F.ok sc_Line_answer (fun vs H Q E h => ?_) (fun cdv A outer s H vs Q E hr h => ⟨_, (pss_cons (ps_if (pt_cmpR op_eq (pv 1) (pe_gc (by rfl) T.k_BEGIN) (nomark _))
        (pss_one (ps_ret (pe_meth (pv 0) T.c_Line.cl T.d_Line_begin.m G_Line_begin (hr.mono (by decide)) T.d_Line_begin.b .nil pass0 (pa_cons (pe_ix ix_list (pv 2) pe_int (fun _ _ => rfl)) (pa_cons (pe_ix ix_list (pv 2) pe_int (fun _ _ => rfl)) (pa_cons (pe_ix ix_list (pv 2) pe_int (fun _ _ => rfl)) (pa_cons (pe_ix ix_list (pv 2) pe_int (fun _ _ => rfl)) (pa_cons (pe_ix ix_list (pv 2) pe_int (fun _ _ => rfl)) pa_nil))))))))
        pss_nil)
      (pss_cons (ps_if (pt_cmp (pc_isN (pe_fld (pv 0) rfl)))
        (pss_one (ps_ret (pe_lst (pa_cons (pe_gc (by rfl) T.k_NOT_BEGUN) pa_nil))))
        pss_nil)
      (pss_cons (ps_if (pt_cmpR op_gt (pv 1) (pe_gc (by rfl) T.k_LAST_CHANGE) (nomark _))
        (pss_one (ps_ret (pe_call G_tell (hr.mono (by decide)) (by rfl) T.d_tell.g T.d_tell.F.kp T.d_tell.b .nil pass0 (pa_cons (pe_fld (pv 0) rfl) (pa_cons (pv 1) (pa_cons (pv 2) pa_nil))))))
        pss_nil)
      (pss_one (ps_ret (pe_call G_change (hr.mono (by decide)) (by rfl) T.d_change.g T.d_change.F.kp T.d_change.b .nil pass0 (pa_cons (pe_fld (pv 0) rfl) (pa_cons (pv 1) (pa_cons (pv 2) pa_nil))))))))), ?_⟩)
  · obtain ⟨ln, g, x, p, as, rfl, _⟩ := h
    rfl
  · obtain ⟨ln, g, x, p, as, rfl, he, hg, s, F, hL, hs, k⟩ := h
    obtain ⟨dL, v0, hln, mln⟩ := hL.obj
    refine ⟨_, rfl, rfl, _, rfl, ?_⟩
    refine ite2 (fun q => ?_) fun q => ?_
    · have e0 : p = 0 := V.int.inj (of_decide_eq_true q)
      subst e0
      obtain ⟨n, c, q, t, on, rfl, rfl⟩ := enc_begin he
      exact ⟨_, rfl, ln, dL, _, rfl, hln, rfl, _, rfl, g, _, _, _, rfl, rfl, SqL.of hg, rfl, _, rfl, g, _, _, _, rfl, rfl, SqL.of hg, rfl, _, rfl, g, _, _, _, rfl, rfl, SqL.of hg, rfl, _, rfl, g, _, _, _, rfl, rfl, SqL.of hg, rfl, _, rfl, g, _, _, _, rfl, rfl, SqL.of hg, rfl,
        ln, n, c, q, t, on, rfl, s, F, hL, hs, k⟩
    have e0 : p ≠ 0 := fun e => q (decide_eq_true (by rw [e]))
    refine ⟨_, rfl, ln, _, dL, _, _, rfl, hln, T.c_Line.cl, T.c_Line.n _ (by decide +kernel), rfl, _, rfl, ?_⟩
    refine ite2 (fun qn => ?_) fun qn => ?_
    · cases s with
      | none =>
        rw [step_none he e0] at k
        exact ⟨one_le, fun p hp => k H F p hL (.refl _ _) hp⟩
      | some a =>
        obtain ⟨st, L, dx, _, h2, _⟩ := hL
        rw [h2] at hln
        cases hln
        exact absurd (of_decide_eq_true qn) (by intro z; cases z)
    cases s with
    | none =>
      obtain ⟨_, dx, h2⟩ := hL
      rw [h2] at hln
      cases hln
      exact absurd (decide_eq_true rfl) qn
    | some a =>
      obtain ⟨st, L, dx, rfl, h2, S⟩ := hL
      rw [h2] at hln
      cases hln
      obtain ⟨ga, hga⟩ := hs a rfl
      refine ⟨_, rfl, _, _, rfl, rfl, _, rfl, ?_⟩
      refine ite2 (fun q10 => ?_) fun q10 => ?_
      · have p10 : (10 : Int) < p := of_decide_eq_true q10
        exact ⟨_, rfl, ln, _, dL, _, _, rfl, h2, T.c_Line.cl, T.c_Line.n _ (by decide +kernel), rfl, _, rfl, _, rfl, .ref st, x, p, as, g, rfl, he, by omega, hg, line_ask h2 S ga hga.1 hga.2 he (by omega) k⟩
      have p10 : p ≤ 10 := by
        have : ¬ (10 : Int) < p := fun h => q10 (decide_eq_true h)
        omega
      have p0 := (enc_lo he).1
      exact ⟨_, rfl, ln, _, dL, _, _, rfl, h2, T.c_Line.cl, T.c_Line.n _ (by decide +kernel), rfl, _, rfl, _, rfl, .ref st, x, p, as, g, rfl, he, by omega, p10, hg, line_do h2 S ga hga.1 k⟩
/-! ### all calls -/
/-- how many numbers the calls have -/
def plen (xs : List Su153.Call) : Nat := (xs.map enc).flatten.length
theorem flat_cons (xs ys : List Su153.Call) (x : Su153.Call) : ((xs ++ x :: ys).map enc).flatten = (xs.map enc).flatten ++ (enc x ++ (ys.map enc).flatten) := by
  rw [List.map_append, List.flatten_append]
  rfl
theorem plen_snoc (xs : List Su153.Call) (x : Su153.Call) : plen (xs ++ [x]) = plen xs + (enc x).length := by
  unfold plen
  rw [flat_cons]
  simp
theorem how_at {x : Su153.Call} {p : Int} {as : List Int} (he : enc x = p :: as) : atI [V.int 5, V.int 2, V.int 1, V.int 1, V.int 1, V.int 1, V.int 1, V.int 1, V.int 1, V.int 1, V.int 1, V.int 1, V.int 1, V.int 1, V.int 1, V.int 0, V.int 0, V.int 0, V.int 0, V.int 0, V.int 0, V.int 0] p = some (V.int (as.length : Int)) := by
  cases x <;> (obtain ⟨rfl, rfl⟩ := List.cons.inj he; rfl)
theorem cut_mid (pre as post : List V) (x : V) : cutV (pre ++ (x :: as ++ post)) (some ((pre.length : Int) + 1)) (some ((pre.length : Int) + 1 + (as.length : Int))) = as := by
  unfold cutV
  have e1 : ((pre.length : Int) + 1) = ((pre.length + 1 : Nat) : Int) := by omega
  have e2 : ((pre.length : Int) + 1 + (as.length : Int)) = ((pre.length + 1 + as.length : Nat) : Int) := by omega
  rw [e2, e1, HT.sIx_nat, HT.sIx_nat]
  have l : (pre ++ (x :: as ++ post)).length = pre.length + 1 + as.length + post.length := by simp; omega
  rw [l, Nat.min_eq_left (by omega), Nat.min_eq_left (by omega)]
  have d : (pre ++ (x :: as ++ post)).drop (pre.length + 1) = as ++ post := by
    rw [List.drop_append]
    simp
  rw [d, show pre.length + 1 + as.length - (pre.length + 1) = as.length by omega, List.take_append, List.take_length]
  simp
theorem said_ans (s : Option Su153.Abs) (x : Su153.Call) : ansV (Su153.step s x).2 = (said s x).map V.int := by
  unfold ansV said natV Su153Neutral.outs
  rw [List.map_cons, List.map_map]
  rfl
def leftC (N : Nat) : L2.St → Nat
  | [_, _, _, some (V.int d), _, _, _] => (N - d).toNat
  | _ => 0
def spAnswers (K : PySem.W.Frag) : Sp := fun vs H Q _ => ∃ (a : Addr) (xs : List Su153.Call), vs = [.ref a] ∧ OnlyF H ∧ SqL K H a (((xs.map enc).flatten).map V.int) ∧ xs.length ≤ 400 ∧ (run none xs).length ≤ 10000000 ∧
  ∀ (H' : Hp) (p : Addr), H' p = some (.lst ((run none xs).map V.int)) → Q (.ref p) H'
theorem soundO_at {n : Nat} {s : Option Su153.Abs} (h : SoundO n s) (hn : n ≤ 400) : ∀ a, s = some a → Good a ∧ a.msgs.length ≤ 1000000 ∧ a.time ≤ 1000000 := fun a e => by
  have z := h a e
  have z1 := z.msgs
  have z2 := z.time
  exact ⟨z.good, by omega, by omega⟩
theorem soundO_after : ∀ (xs : List Su153.Call) (n : Nat) (s : Option Su153.Abs), SoundO n s → SoundO (n + xs.length) (after s xs)
  | [], n, s, h => h
  | x :: xs, n, s, h => by
    have := soundO_after xs (n + 1) _ (h.step x)
    rw [show n + 1 + xs.length = n + (x :: xs).length by simp; omega] at this
    exact this
theorem ok_answers (T : Txt K mg) : FnOk P w K mg base CX0 10 T.d_answers.f T.d_answers.fd ["calls"] (spAnswers K) := by
  have G_Line___init__ := ok_Line (P := P) (w := w) (base := base) T
  have G_Line_answer := ok_Line_answer (P := P) (w := w) (base := base) T
  obtain ⟨dHM, g_HOW_MANY, sHM⟩ := T.k_HOW_MANY
  refine T.d_answers.F.ok sc_answers (fun vs H Q E h => ?_) (fun cdv A outer s H vs Q E hr h => ⟨_, (pss_cons (ps_set (i := 1) sc_answers.nd rfl (Or.inl rfl) (pe_make0 (mk_of T.c_Line T.d_Line___init__) G_Line___init__ (hr.mono (by decide)) (by rfl) T.c_Line.g T.d_Line___init__.b .nil pass0))
      (pss_cons (ps_set (i := 2) sc_answers.nd rfl (Or.inl rfl) (pe_lst pa_nil))
      (pss_cons (ps_set (i := 3) sc_answers.nd rfl (Or.inl rfl) pe_int)
      (pss_cons (ps_while PassesOwn.never (pt_cmpR op_lt (pv 3) (pe_callB call_len_seq (by rfl) T.b_len PySem.boot_len (pa_cons (pv 0) pa_nil)) (nomark _))
        (pss_cons (ps_set (i := 4) sc_answers.nd rfl (Or.inl rfl) (pe_ix ix_list (pv 0) (pv 3) (fun _ _ => rfl)))
        (pss_cons (ps_set (i := 5) sc_answers.nd rfl (Or.inl rfl) (pe_op op_add (pe_op op_add (pv 3) pe_int) (pe_ix ix_tup (pe_gc (by rfl) g_HOW_MANY) (pv 4) (fun _ _ => rfl))))
        (pss_cons (ps_set (i := 6) sc_answers.nd rfl (Or.inl rfl) (pe_meth (pv 1) T.c_Line.cl T.d_Line_answer.m G_Line_answer (hr.mono (by decide)) T.d_Line_answer.b .nil pass0 (pa_cons (pv 4) (pa_cons (pe_slice sl_list (pv 0) (po_some (pe_op op_add (pv 3) pe_int)) (po_some (pv 5))) pa_nil))))
        (pss_cons (ps_expr (pe_bm PySem.F.plainAttrs_list PySem.F.slot_list_append PySem.F.type_list_append mt_append (pv 2) (pa_cons (pe_callB call_len_seq (by rfl) T.b_len PySem.boot_len (pa_cons (pv 6) pa_nil)) pa_nil)))
        (pss_cons (ps_expr (pe_bm PySem.F.plainAttrs_list PySem.F.slot_list_extend PySem.F.type_list_extend mt_extend (pv 2) (pa_cons (pv 6) pa_nil)))
        (pss_one (ps_set (i := 3) sc_answers.nd rfl (Or.inl rfl) (pv 5)))))))))
      (pss_one (ps_ret (pv 2))))))), ?_⟩)
  · obtain ⟨a, xs, rfl, _⟩ := h
    rfl
  · obtain ⟨ca, xs, rfl, hO, hS, h400, hbig, k⟩ := h
    -- line = Line()
    intro ln dx nx nd ne
    refine ⟨ln, dx, rfl, upd_same, fun H1 h1 ch1 => ⟨rfl, ?_⟩⟩
    have s1 : Same H H1 := Same.made nx nd ch1
    -- given_back = []
    refine ⟨Nat.zero_le _, fun gb hgb => ?_⟩
    have ngl : ln ≠ gb := ne_of_none h1 hgb
    have hgb0 : H gb = none := Same.free s1 hgb
    -- place = 0
    have hS' : ∀ {H' : Hp}, Same H H' → SqL K H' ca (((xs.map enc).flatten).map V.int) := fun s => s.seq hS
    refine while_by (fun σ H' => ∃ (pre rest : List Su153.Call) (F : List Addr) (v4 v5 v6 : Option V), xs = pre ++ rest ∧ σ = [some (.ref ca), some (.ref ln), some (.ref gb), some (.int (plen pre)), v4, v5, v6] ∧ LineAt T H' ln (after none pre) F ∧ H' gb = some (.lst ((run none pre).map V.int)) ∧ gb ∉ F ∧
        Same H H' ∧ (∀ b, b ∈ F → H b = none)) (fun σ _ => leftC (plen xs) σ) ⟨[], xs, [ln], none, none, none, rfl, rfl, ⟨rfl, dx, ?_⟩, upd_same, ?_, ?_, ?_⟩ ?_ ?_
    · rw [upd_ne ngl]
      exact h1
    · intro h
      exact ngl (List.mem_singleton.mp h).symm
    · exact s1.trans (same_upd hgb)
    · intro b hb
      rw [List.mem_singleton.mp hb]
      exact nx
    · rintro σ H2 ⟨pre, rest, F, v4, v5, v6, rfl, rfl, hL, hG, nG, s2, hF⟩
      refine ⟨_, rfl, _, rfl, _, _, rfl, .inl (hS' s2), _, _, rfl, rfl, _, rfl, ?_⟩
      rw [List.length_map]
      refine ite2 (fun q => ?_) fun q => ?_
      · have lt : plen pre < ((pre ++ rest).map enc).flatten.length := by
          have := of_decide_eq_true q
          omega
        cases rest with
        | nil =>
          rw [List.append_nil] at lt
          exact absurd lt (Nat.lt_irrefl _)
        | cons x post =>
          obtain ⟨p, as, he⟩ : ∃ p as, enc x = p :: as := by cases x <;> exact ⟨_, _, rfl⟩
          have hl : (((pre ++ x :: post).map enc).flatten).map V.int = ((pre.map enc).flatten).map V.int ++ (.int p :: as.map V.int ++ ((post.map enc).flatten).map V.int) := by
            rw [flat_cons, he, List.map_append, List.map_append]
            rfl
          have pl : plen pre = (((pre.map enc).flatten).map V.int).length := by
            unfold plen
            rw [List.length_map]
          have hat : atI ((((pre ++ x :: post).map enc).flatten).map V.int) (plen pre : Int) = some (.int p) := by
            refine atI_nat ?_
            rw [hl, pl, List.getElem?_append_right (Nat.le_refl _), Nat.sub_self]
            rfl
          -- number = calls[place]
          refine ⟨_, rfl, _, rfl, ca, _, _, _, rfl, rfl, hS' s2, hat, ?_⟩
          -- behind = place + 1 + HOW_MANY[number]
          refine ⟨_, rfl, _, _, rfl, rfl, _, rfl, dHM, _, _, _, rfl, rfl, sHM H2, how_at he, _, _, rfl, rfl, ?_⟩
          -- answered = line.answer(number, calls[place + 1:behind])
          obtain ⟨dL, v0, hln, mln⟩ := hL.obj
          refine ⟨_, rfl, ln, dL, _, rfl, hln, rfl, _, rfl, _, rfl, ?_⟩
          refine ⟨_, rfl, _, _, rfl, rfl, _, rfl, _, rfl, _, rfl, ca, _, rfl, hS' s2, fun g hg => ?_⟩
          have hcut : cutV ((((pre ++ x :: post).map enc).flatten).map V.int) (some ((plen pre : Int) + 1)) (some ((plen pre : Int) + 1 + (as.length : Int))) = as.map V.int := by
            have := cut_mid (((pre.map enc).flatten).map V.int) (as.map V.int) (((post.map enc).flatten).map V.int) (.int p)
            rw [List.length_map (as := as), ← pl] at this
            rw [hl]
            exact this
          have sg : Same H2 (upd H2 g (.lst (cutV ((((pre ++ x :: post).map enc).flatten).map V.int) (some ((plen pre : Int) + 1)) (some ((plen pre : Int) + 1 + (as.length : Int)))))) := same_upd hg
          have hgl : upd H2 g (.lst (cutV ((((pre ++ x :: post).map enc).flatten).map V.int) (some ((plen pre : Int) + 1)) (some ((plen pre : Int) + 1 + (as.length : Int))))) g = some (.lst (as.map V.int)) := by
            rw [upd_same, hcut]
          have hsd : SoundO pre.length (after none pre) := by
            have := soundO_after pre 0 none (fun a e => by cases e)
            rw [Nat.zero_add] at this
            exact this
          have h400' : pre.length ≤ 400 := by
            rw [List.length_append] at h400
            omega
          refine ⟨ln, g, x, p, as, rfl, he, hgl, after none pre, F, hL.same sg, soundO_at hsd h400', fun H3 F' q L3 F3 hq => ?_⟩
          rw [said_ans]
          have hG3 : H3 gb = some (.lst ((run none pre).map V.int)) := F3.keep _ _ (sg _ _ hG) nG
          have ngq : gb ≠ q := ne_of_none hG3 hq
          have nG' : gb ∉ F' := fun h => by
            rcases F3.foot gb h with z | z
            · exact nG z
            · rw [sg _ _ hG] at z
              cases z
          have s3 : Same H H3 := fun b o e => F3.keep b o (sg _ _ (s2 _ _ e)) fun z => by
            rw [hF b z] at e
            cases e
          have hF' : ∀ b, b ∈ F' → H b = none := fun b hb => by
            rcases F3.foot b hb with z | z
            · exact hF b z
            · cases e : H b with
              | none => rfl
              | some o =>
                rw [sg _ _ (s2 _ _ e)] at z
                cases z
          have er : run none (pre ++ [x]) = run none pre ++ (((said (after none pre) x).length : Int) :: said (after none pre) x) := by
            rw [run_append]
            show _ ++ (_ :: said (after none pre) x ++ []) = _
            rw [List.append_nil]
          have big : (run none pre).length + ((said (after none pre) x).length + 1) ≤ 10000000 := by
            have e2 : run none (pre ++ x :: post) = run none (pre ++ [x]) ++ run (after none (pre ++ [x])) post := by
              rw [← run_append, List.append_assoc]
              rfl
            rw [e2, List.length_append, er, List.length_append, List.length_cons] at hbig
            omega
          have line : ∀ {n : Nat}, n ≤ 10000000 → n < sizeLine := fun h => Nat.lt_of_le_of_lt h (by decide)
          -- given_back.append(len(answered))
          refine ⟨_, rfl, .inl ⟨rfl, _, SqL.of (by rw [upd_ne ngq]; exact hG3)⟩, _, rfl, _, _, rfl, .inl (SqL.of upd_same), _, _, _, rfl, rfl, (by rw [upd_ne ngq]; exact hG3), (by rw [List.length_map]; exact line (by omega)), ?_⟩
          -- given_back.extend(answered)
          refine ⟨_, rfl, .inl ⟨rfl, _, SqL.of upd_same⟩, _, rfl, gb, q, _, _, rfl, rfl, upd_same, (by rw [upd_ne ngq.symm]; exact upd_same), (by rw [List.length_append, List.length_map, List.length_map]; exact Nat.le_of_lt (line (by rw [List.length_singleton]; omega))), ?_⟩
          -- place = behind
          refine ⟨_, rfl, ?_⟩
          have kq : Chg gb (upd H3 q (.lst ((said (after none pre) x).map V.int))) (upd (upd (upd H3 q (.lst ((said (after none pre) x).map V.int))) gb (.lst ((run none pre).map V.int ++ [V.int (((said (after none pre) x).map V.int).length : Int)]))) gb (.lst ((run none pre).map V.int ++ [V.int (((said (after none pre) x).map V.int).length : Int)] ++ (said (after none pre) x).map V.int))) := fun b o e n => by
            rw [upd_ne n, upd_ne n]
            exact e
          refine ⟨⟨pre ++ [x], post, F', some (.int p), some (.int ((plen pre : Int) + 1 + (as.length : Int))), some (.ref q), by rw [List.append_assoc]; rfl, ?_, ?_, ?_, nG', ?_, hF'⟩, ?_⟩
          · have ep : ((plen pre : Int) + 1 + (as.length : Int)) = (plen (pre ++ [x]) : Int) := by
              rw [plen_snoc, he, List.length_cons]
              omega
            rw [← ep]
            rfl
          · rw [after_append]
            exact (L3.same (same_upd hq)).out (xs := (run none pre).map V.int) kq (by rw [upd_ne ngq]; exact hG3) nG'
          · rw [upd_same, er, List.map_append, List.map_cons, List.length_map, List.append_assoc]
            rfl
          · intro b o e
            have n1 : b ≠ gb := ne_of_none e hgb0
            exact kq _ _ (by rw [upd_ne (ne_of_none (s3 _ _ e) hq)]; exact s3 _ _ e) n1
          · show ((plen (pre ++ x :: post) : Nat) - ((plen pre : Int) + 1 + (as.length : Int))).toNat < ((plen (pre ++ x :: post) : Nat) - (plen pre : Int)).toNat
            have : plen (pre ++ x :: post) = ((pre ++ x :: post).map enc).flatten.length := rfl
            omega
      · have ge : ¬ plen pre < ((pre ++ rest).map enc).flatten.length := fun h => q (decide_eq_true (by omega))
        have er : rest = [] := by
          cases rest with
          | nil => rfl
          | cons x post =>
            refine absurd ?_ ge
            rw [flat_cons, List.length_append, List.length_append]
            obtain ⟨p, as, he⟩ : ∃ p as, enc x = p :: as := by cases x <;> exact ⟨_, _, rfl⟩
            rw [he, List.length_cons]
            unfold plen
            omega
        subst er
        rw [List.append_nil] at k
        exact ⟨_, rfl, k H2 gb hG⟩
    · exact fun σ H Q Q' hq ⟨v, h1, u, h2, p, ys, e1, e2, i, j, e3, e4, k, e5, q⟩ => ⟨v, h1, u, h2, p, ys, e1, e2, i, j, e3, e4, k, e5, hq _ _ q⟩
end
end Ea

/-! The end: what the top has written. Printed by tool/gen.py. -/
namespace Ea
open PySem PySem.Spec PyProof.Rows L2
section
variable {K : PySem.W.Frag} {h : Heap} {mg : Str → Option Value}
/-- what of the written part tells a def -/
def FunHyp (K : PySem.W.Frag) (x qual : Str) (st : Stmt) (f : Addr) : Prop := (∃ (oc : Value) (od an : Option Addr) (sl : Array (Option Value)) (kV dc pm cd ct : Value), K.lookup f = some ⟨oc, od, .func (PySem.W.fnOf x qual (defArgs st) (defBody st) (defScope st) .none kV dc pm an cd ct), sl⟩ ∧ PySem.W.codeIn K cd qual = true) ∧ PySem.W.keepIn K (.ref f) = true
theorem fun_hyp {x qual : Str} {st : Stmt} {f : Addr} {oc : Value} {od an : Option Addr} {sl : Array (Option Value)} {kV dc pm cd ct : Value} (l : K.lookup f = some ⟨oc, od, .func (PySem.W.fnOf x qual (defArgs st) (defBody st) (defScope st) .none kV dc pm an cd ct), sl⟩) (c : PySem.W.codeIn K cd qual = true)
    (k : PySem.W.keepIn K (.ref f) = true) : FunHyp K x qual st f := ⟨⟨oc, od, an, sl, kV, dc, pm, cd, ct, l, c⟩, k⟩
theorem dct_hyp {d : Addr} {es : List DictEntry} {n : Nat} {l : List (Int × Addr)} (h : K.lookup d = some ⟨.type "dict", none, .dict es.toArray n, #[]⟩) (k : KeysI es (l.map Prod.fst)) (a : DAll es l) (z : (d == sysModules) = false) : DctI K d l := ⟨z, es, n, h, k, a⟩
def NoAll (K : PySem.W.Frag) (C : Addr) : List Str → Prop
  | [] => True
  | a :: r => PySem.W.findIn K (.ref C) a = some none ∧ NoAll K C r
theorem NoAll.all {C : Addr} : ∀ {l : List Str}, NoAll K C l → ∀ a ∈ l, NoAttr K C a
  | _ :: _, ⟨h, _⟩, _, .head _ => h
  | _ :: _, ⟨_, r⟩, _, .tail _ m => r.all _ m
def ClsHyp (K : PySem.W.Frag) (C : Addr) (attrs : List Str) : Prop := PySem.W.plainGet K C Str.empty = true ∧ PySem.W.hasDictIn K C = true ∧ PySem.W.plainOver K C = true ∧ PySem.W.findIn K (.ref C) "__setattr__" = some (some (.builtin "object.__setattr__")) ∧ PySem.W.makesIn K C = true ∧ PySem.W.keepIn K (.ref C) = true ∧ NoAll K C attrs
theorem def_mk {x qual : Str} {st : Stmt} {ps : List Str} {f : Addr} (X : K.In h) (G : h.Ns mainGlobals mg) (a : PySem.W.nsIn K mainGlobals x = some (some (.ref f))) (H : FunHyp K x qual st f)
    (hb : ∀ (kV doc pm : Value) (an : Option Addr) (cdv ct : Value) (us : List Value), us.length = ps.length → bindArgs (PySem.W.fnOf x qual (defArgs st) (defBody st) (defScope st) .none kV doc pm an cdv ct) ⟨us, []⟩ = pure (ps.zip us)) : ∃ d : DefAt K mg x qual st ps, d.f = f := by
  obtain ⟨⟨oc, od, an, sl, kV, dc, pm, cd, ct, l, c⟩, k⟩ := H
  have F := fun_mk (st := st) l c k
  exact ⟨⟨f, _, F, PySem.W.mg_of X G a, F.binds hb⟩, rfl⟩
theorem meth_mk {x qual : Str} {st : Stmt} {ps : List Str} {f C : Addr} (a : PySem.W.findIn K (.ref C) x = some (some (.ref f))) (i : PySem.W.isFn K (.ref f) = true) (H : FunHyp K x qual st f)
    (hb : ∀ (kV doc pm : Value) (an : Option Addr) (cdv ct : Value) (us : List Value), us.length = ps.length → bindArgs (PySem.W.fnOf x qual (defArgs st) (defBody st) (defScope st) .none kV doc pm an cdv ct) ⟨us, []⟩ = pure (ps.zip us)) : ∃ d : MethAt K C x qual st ps, d.f = f := by
  obtain ⟨⟨oc, od, an, sl, kV, dc, pm, cd, ct, l, c⟩, k⟩ := H
  have F := fun_mk (st := st) l c k
  exact ⟨⟨f, _, F, ⟨a, i, k⟩, F.binds hb⟩, rfl⟩
theorem cls_mk {x : Str} {attrs : List Str} {C : Addr} (X : K.In h) (G : h.Ns mainGlobals mg) (a : PySem.W.nsIn K mainGlobals x = some (some (.ref C))) (H : ClsHyp K C attrs) : ∃ c : ClsAt K mg x attrs, c.C = C :=
  let ⟨pg, hd, po, sa, mk, kc, n⟩ := H
  ⟨⟨C, ⟨pg, hd, po, sa⟩, PySem.W.mg_of X G a, n.all, mk, kc⟩, rfl⟩
theorem gv_mk {x : Str} {v : V} {u : Value} (X : K.In h) (G : h.Ns mainGlobals mg) (a : PySem.W.nsIn K mainGlobals x = some (some u)) (r : RelV v u) : GV mg x v := ⟨u, PySem.W.mg_of X G a, r⟩
theorem sqT_mk {e : Addr} {od : Option Addr} {sl : Array (Option Value)} {its : List Value} {xs : List V} {n : Nat} (l : K.lookup e = some ⟨.type "tuple", od, .seq its.toArray n, sl⟩) (hz : its.length ≤ 1000) (hv : Vals xs its) : ∀ H, SqT K H e xs := fun H =>
  .inr ⟨_, its.toArray, n, l, rfl, rfl, by rw [List.size_toArray]; exact Nat.le_of_lt (small1000 hz), by simpa using hv⟩
theorem txt_mk (X : K.In h) (G : h.Ns mainGlobals mg) {fa : Addr} (hfa : mg "answers" = some (.ref fa))
    {C_Machine : Addr} (n_Machine : PySem.W.nsIn K mainGlobals "Machine" = some (some (.ref C_Machine))) (h_Machine : ClsHyp K C_Machine ["up", "tag", "value"])
    {C_Customer : Addr} (n_Customer : PySem.W.nsIn K mainGlobals "Customer" = some (some (.ref C_Customer))) (h_Customer : ClsHyp K C_Customer ["how", "op", "counted", "tag", "value"])
    {C_Operation : Addr} (n_Operation : PySem.W.nsIn K mainGlobals "Operation" = some (some (.ref C_Operation))) (h_Operation : ClsHyp K C_Operation ["writing", "customer", "value", "began", "ended"])
    {C_Message : Addr} (n_Message : PySem.W.nsIn K mainGlobals "Message" = some (some (.ref C_Message))) (h_Message : ClsHyp K C_Message ["kind", "customer", "machine", "op", "tag", "value"])
    {C_Store : Addr} (n_Store : PySem.W.nsIn K mainGlobals "Store" = some (some (.ref C_Store))) (h_Store : ClsHyp K C_Store ["time", "machines", "customers", "asked", "told", "on", "under_way", "ops"])
    {C_Told : Addr} (n_Told : PySem.W.nsIn K mainGlobals "Told" = some (some (.ref C_Told))) (h_Told : ClsHyp K C_Told ["number", "writing", "value", "began", "ended"])
    {C_Value : Addr} (n_Value : PySem.W.nsIn K mainGlobals "Value" = some (some (.ref C_Value))) (h_Value : ClsHyp K C_Value ["value", "ops", "first_end", "last_beginning"])
    {C_Line : Addr} (n_Line : PySem.W.nsIn K mainGlobals "Line" = some (some (.ref C_Line))) (h_Line : ClsHyp K C_Line ["store"])
    {f_Machine___init__ : Addr} (n_Machine___init__ : PySem.W.findIn K (.ref C_Machine) "__init__" = some (some (.ref f_Machine___init__))) (i_Machine___init__ : PySem.W.isFn K (.ref f_Machine___init__) = true) (h_Machine___init__ : FunHyp K "__init__" "Machine.__init__" s_Machine___init__ f_Machine___init__)
    {f_Customer___init__ : Addr} (n_Customer___init__ : PySem.W.findIn K (.ref C_Customer) "__init__" = some (some (.ref f_Customer___init__))) (i_Customer___init__ : PySem.W.isFn K (.ref f_Customer___init__) = true) (h_Customer___init__ : FunHyp K "__init__" "Customer.__init__" s_Customer___init__ f_Customer___init__)
    {f_Customer_forget : Addr} (n_Customer_forget : PySem.W.findIn K (.ref C_Customer) "forget" = some (some (.ref f_Customer_forget))) (i_Customer_forget : PySem.W.isFn K (.ref f_Customer_forget) = true) (h_Customer_forget : FunHyp K "forget" "Customer.forget" s_Customer_forget f_Customer_forget)
    {f_Operation___init__ : Addr} (n_Operation___init__ : PySem.W.findIn K (.ref C_Operation) "__init__" = some (some (.ref f_Operation___init__))) (i_Operation___init__ : PySem.W.isFn K (.ref f_Operation___init__) = true) (h_Operation___init__ : FunHyp K "__init__" "Operation.__init__" s_Operation___init__ f_Operation___init__)
    {f_Message___init__ : Addr} (n_Message___init__ : PySem.W.findIn K (.ref C_Message) "__init__" = some (some (.ref f_Message___init__))) (i_Message___init__ : PySem.W.isFn K (.ref f_Message___init__) = true) (h_Message___init__ : FunHyp K "__init__" "Message.__init__" s_Message___init__ f_Message___init__)
    {f_Store___init__ : Addr} (n_Store___init__ : PySem.W.findIn K (.ref C_Store) "__init__" = some (some (.ref f_Store___init__))) (i_Store___init__ : PySem.W.isFn K (.ref f_Store___init__) = true) (h_Store___init__ : FunHyp K "__init__" "Store.__init__" s_Store___init__ f_Store___init__)
    {f_send_to_all : Addr} (n_send_to_all : PySem.W.nsIn K mainGlobals "send_to_all" = some (some (.ref f_send_to_all))) (h_send_to_all : FunHyp K "send_to_all" "send_to_all" s_send_to_all f_send_to_all)
    {f_come : Addr} (n_come : PySem.W.nsIn K mainGlobals "come" = some (some (.ref f_come))) (h_come : FunHyp K "come" "come" s_come f_come)
    {f_come_to_machine : Addr} (n_come_to_machine : PySem.W.nsIn K mainGlobals "come_to_machine" = some (some (.ref f_come_to_machine))) (h_come_to_machine : FunHyp K "come_to_machine" "come_to_machine" s_come_to_machine f_come_to_machine)
    {f_send_back : Addr} (n_send_back : PySem.W.nsIn K mainGlobals "send_back" = some (some (.ref f_send_back))) (h_send_back : FunHyp K "send_back" "send_back" s_send_back f_send_back)
    {f_waits_for : Addr} (n_waits_for : PySem.W.nsIn K mainGlobals "waits_for" = some (some (.ref f_waits_for))) (h_waits_for : FunHyp K "waits_for" "waits_for" s_waits_for f_waits_for)
    {f_count_answer : Addr} (n_count_answer : PySem.W.nsIn K mainGlobals "count_answer" = some (some (.ref f_count_answer))) (h_count_answer : FunHyp K "count_answer" "count_answer" s_count_answer f_count_answer)
    {f_count_heard : Addr} (n_count_heard : PySem.W.nsIn K mainGlobals "count_heard" = some (some (.ref f_count_heard))) (h_count_heard : FunHyp K "count_heard" "count_heard" s_count_heard f_count_heard)
    {f_end_operation : Addr} (n_end_operation : PySem.W.nsIn K mainGlobals "end_operation" = some (some (.ref f_end_operation))) (h_end_operation : FunHyp K "end_operation" "end_operation" s_end_operation f_end_operation)
    {f_write : Addr} (n_write : PySem.W.nsIn K mainGlobals "write" = some (some (.ref f_write))) (h_write : FunHyp K "write" "write" s_write f_write)
    {f_read : Addr} (n_read : PySem.W.nsIn K mainGlobals "read" = some (some (.ref f_read))) (h_read : FunHyp K "read" "read" s_read f_read)
    {f_is_written : Addr} (n_is_written : PySem.W.nsIn K mainGlobals "is_written" = some (some (.ref f_is_written))) (h_is_written : FunHyp K "is_written" "is_written" s_is_written f_is_written)
    {f_is_full : Addr} (n_is_full : PySem.W.nsIn K mainGlobals "is_full" = some (some (.ref f_is_full))) (h_is_full : FunHyp K "is_full" "is_full" s_is_full f_is_full)
    {f_has_no_room : Addr} (n_has_no_room : PySem.W.nsIn K mainGlobals "has_no_room" = some (some (.ref f_has_no_room))) (h_has_no_room : FunHyp K "has_no_room" "has_no_room" s_has_no_room f_has_no_room)
    {f_begin_operation : Addr} (n_begin_operation : PySem.W.nsIn K mainGlobals "begin_operation" = some (some (.ref f_begin_operation))) (h_begin_operation : FunHyp K "begin_operation" "begin_operation" s_begin_operation f_begin_operation)
    {f_deliver : Addr} (n_deliver : PySem.W.nsIn K mainGlobals "deliver" = some (some (.ref f_deliver))) (h_deliver : FunHyp K "deliver" "deliver" s_deliver f_deliver)
    {f_lose : Addr} (n_lose : PySem.W.nsIn K mainGlobals "lose" = some (some (.ref f_lose))) (h_lose : FunHyp K "lose" "lose" s_lose f_lose)
    {f_again : Addr} (n_again : PySem.W.nsIn K mainGlobals "again" = some (some (.ref f_again))) (h_again : FunHyp K "again" "again" s_again f_again)
    {f_stop : Addr} (n_stop : PySem.W.nsIn K mainGlobals "stop" = some (some (.ref f_stop))) (h_stop : FunHyp K "stop" "stop" s_stop f_stop)
    {f_wake : Addr} (n_wake : PySem.W.nsIn K mainGlobals "wake" = some (some (.ref f_wake))) (h_wake : FunHyp K "wake" "wake" s_wake f_wake)
    {f_turn : Addr} (n_turn : PySem.W.nsIn K mainGlobals "turn" = some (some (.ref f_turn))) (h_turn : FunHyp K "turn" "turn" s_turn f_turn)
    {f_leave : Addr} (n_leave : PySem.W.nsIn K mainGlobals "leave" = some (some (.ref f_leave))) (h_leave : FunHyp K "leave" "leave" s_leave f_leave)
    {f_resend : Addr} (n_resend : PySem.W.nsIn K mainGlobals "resend" = some (some (.ref f_resend))) (h_resend : FunHyp K "resend" "resend" s_resend f_resend)
    {f_alone : Addr} (n_alone : PySem.W.nsIn K mainGlobals "alone" = some (some (.ref f_alone))) (h_alone : FunHyp K "alone" "alone" s_alone f_alone)
    {f_is_at_work : Addr} (n_is_at_work : PySem.W.nsIn K mainGlobals "is_at_work" = some (some (.ref f_is_at_work))) (h_is_at_work : FunHyp K "is_at_work" "is_at_work" s_is_at_work f_is_at_work)
    {f_first_of : Addr} (n_first_of : PySem.W.nsIn K mainGlobals "first_of" = some (some (.ref f_first_of))) (h_first_of : FunHyp K "first_of" "first_of" s_first_of f_first_of)
    {f_change : Addr} (n_change : PySem.W.nsIn K mainGlobals "change" = some (some (.ref f_change))) (h_change : FunHyp K "change" "change" s_change f_change)
    {f_Told___init__ : Addr} (n_Told___init__ : PySem.W.findIn K (.ref C_Told) "__init__" = some (some (.ref f_Told___init__))) (i_Told___init__ : PySem.W.isFn K (.ref f_Told___init__) = true) (h_Told___init__ : FunHyp K "__init__" "Told.__init__" s_Told___init__ f_Told___init__)
    {f_Value___init__ : Addr} (n_Value___init__ : PySem.W.findIn K (.ref C_Value) "__init__" = some (some (.ref f_Value___init__))) (i_Value___init__ : PySem.W.isFn K (.ref f_Value___init__) = true) (h_Value___init__ : FunHyp K "__init__" "Value.__init__" s_Value___init__ f_Value___init__)
    {f_told_by : Addr} (n_told_by : PySem.W.nsIn K mainGlobals "told_by" = some (some (.ref f_told_by))) (h_told_by : FunHyp K "told_by" "told_by" s_told_by f_told_by)
    {f_readings_of : Addr} (n_readings_of : PySem.W.nsIn K mainGlobals "readings_of" = some (some (.ref f_readings_of))) (h_readings_of : FunHyp K "readings_of" "readings_of" s_readings_of f_readings_of)
    {f_who_counts : Addr} (n_who_counts : PySem.W.nsIn K mainGlobals "who_counts" = some (some (.ref f_who_counts))) (h_who_counts : FunHyp K "who_counts" "who_counts" s_who_counts f_who_counts)
    {f_values_there_are : Addr} (n_values_there_are : PySem.W.nsIn K mainGlobals "values_there_are" = some (some (.ref f_values_there_are))) (h_values_there_are : FunHyp K "values_there_are" "values_there_are" s_values_there_are f_values_there_are)
    {f_comes_ahead : Addr} (n_comes_ahead : PySem.W.nsIn K mainGlobals "comes_ahead" = some (some (.ref f_comes_ahead))) (h_comes_ahead : FunHyp K "comes_ahead" "comes_ahead" s_comes_ahead f_comes_ahead)
    {f_first_clash : Addr} (n_first_clash : PySem.W.nsIn K mainGlobals "first_clash" = some (some (.ref f_first_clash))) (h_first_clash : FunHyp K "first_clash" "first_clash" s_first_clash f_first_clash)
    {f_why_not : Addr} (n_why_not : PySem.W.nsIn K mainGlobals "why_not" = some (some (.ref f_why_not))) (h_why_not : FunHyp K "why_not" "why_not" s_why_not f_why_not)
    {f_shown_of : Addr} (n_shown_of : PySem.W.nsIn K mainGlobals "shown_of" = some (some (.ref f_shown_of))) (h_shown_of : FunHyp K "shown_of" "shown_of" s_shown_of f_shown_of)
    {f_can_be_found : Addr} (n_can_be_found : PySem.W.nsIn K mainGlobals "can_be_found" = some (some (.ref f_can_be_found))) (h_can_be_found : FunHyp K "can_be_found" "can_be_found" s_can_be_found f_can_be_found)
    {f_in_order : Addr} (n_in_order : PySem.W.nsIn K mainGlobals "in_order" = some (some (.ref f_in_order))) (h_in_order : FunHyp K "in_order" "in_order" s_in_order f_in_order)
    {f_may_be_next : Addr} (n_may_be_next : PySem.W.nsIn K mainGlobals "may_be_next" = some (some (.ref f_may_be_next))) (h_may_be_next : FunHyp K "may_be_next" "may_be_next" s_may_be_next f_may_be_next)
    {f_earliest_without : Addr} (n_earliest_without : PySem.W.nsIn K mainGlobals "earliest_without" = some (some (.ref f_earliest_without))) (h_earliest_without : FunHyp K "earliest_without" "earliest_without" s_earliest_without f_earliest_without)
    {f_message_told : Addr} (n_message_told : PySem.W.nsIn K mainGlobals "message_told" = some (some (.ref f_message_told))) (h_message_told : FunHyp K "message_told" "message_told" s_message_told f_message_told)
    {f_machine_told : Addr} (n_machine_told : PySem.W.nsIn K mainGlobals "machine_told" = some (some (.ref f_machine_told))) (h_machine_told : FunHyp K "machine_told" "machine_told" s_machine_told f_machine_told)
    {f_customer_told : Addr} (n_customer_told : PySem.W.nsIn K mainGlobals "customer_told" = some (some (.ref f_customer_told))) (h_customer_told : FunHyp K "customer_told" "customer_told" s_customer_told f_customer_told)
    {f_op_told : Addr} (n_op_told : PySem.W.nsIn K mainGlobals "op_told" = some (some (.ref f_op_told))) (h_op_told : FunHyp K "op_told" "op_told" s_op_told f_op_told)
    {f_all_told : Addr} (n_all_told : PySem.W.nsIn K mainGlobals "all_told" = some (some (.ref f_all_told))) (h_all_told : FunHyp K "all_told" "all_told" s_all_told f_all_told)
    {f_kept : Addr} (n_kept : PySem.W.nsIn K mainGlobals "kept" = some (some (.ref f_kept))) (h_kept : FunHyp K "kept" "kept" s_kept f_kept)
    {f_why : Addr} (n_why : PySem.W.nsIn K mainGlobals "why" = some (some (.ref f_why))) (h_why : FunHyp K "why" "why" s_why f_why)
    {f_order : Addr} (n_order : PySem.W.nsIn K mainGlobals "order" = some (some (.ref f_order))) (h_order : FunHyp K "order" "order" s_order f_order)
    {f_since : Addr} (n_since : PySem.W.nsIn K mainGlobals "since" = some (some (.ref f_since))) (h_since : FunHyp K "since" "since" s_since f_since)
    {f_now : Addr} (n_now : PySem.W.nsIn K mainGlobals "now" = some (some (.ref f_now))) (h_now : FunHyp K "now" "now" s_now f_now)
    {f_safe : Addr} (n_safe : PySem.W.nsIn K mainGlobals "safe" = some (some (.ref f_safe))) (h_safe : FunHyp K "safe" "safe" s_safe f_safe)
    {f_state : Addr} (n_state : PySem.W.nsIn K mainGlobals "state" = some (some (.ref f_state))) (h_state : FunHyp K "state" "state" s_state f_state)
    {f_tell : Addr} (n_tell : PySem.W.nsIn K mainGlobals "tell" = some (some (.ref f_tell))) (h_tell : FunHyp K "tell" "tell" s_tell f_tell)
    {f_Line___init__ : Addr} (n_Line___init__ : PySem.W.findIn K (.ref C_Line) "__init__" = some (some (.ref f_Line___init__))) (i_Line___init__ : PySem.W.isFn K (.ref f_Line___init__) = true) (h_Line___init__ : FunHyp K "__init__" "Line.__init__" s_Line___init__ f_Line___init__)
    {f_Line_answer : Addr} (n_Line_answer : PySem.W.findIn K (.ref C_Line) "answer" = some (some (.ref f_Line_answer))) (i_Line_answer : PySem.W.isFn K (.ref f_Line_answer) = true) (h_Line_answer : FunHyp K "answer" "Line.answer" s_Line_answer f_Line_answer)
    {f_Line_begin : Addr} (n_Line_begin : PySem.W.findIn K (.ref C_Line) "begin" = some (some (.ref f_Line_begin))) (i_Line_begin : PySem.W.isFn K (.ref f_Line_begin) = true) (h_Line_begin : FunHyp K "begin" "Line.begin" s_Line_begin f_Line_begin)
    {f_answers : Addr} (n_answers : PySem.W.nsIn K mainGlobals "answers" = some (some (.ref f_answers))) (h_answers : FunHyp K "answers" "answers" s_answers f_answers)
    {t_IDLE : Tok} (n_IDLE : PySem.W.nsIn K mainGlobals "IDLE" = some (some (.int 0 t_IDLE)))
    {t_ASKING : Tok} (n_ASKING : PySem.W.nsIn K mainGlobals "ASKING" = some (some (.int 1 t_ASKING)))
    {t_TELLING : Tok} (n_TELLING : PySem.W.nsIn K mainGlobals "TELLING" = some (some (.int 2 t_TELLING)))
    {t_LEFT : Tok} (n_LEFT : PySem.W.nsIn K mainGlobals "LEFT" = some (some (.int 3 t_LEFT)))
    {t_ASKED : Tok} (n_ASKED : PySem.W.nsIn K mainGlobals "ASKED" = some (some (.int 0 t_ASKED)))
    {t_ANSWERED : Tok} (n_ANSWERED : PySem.W.nsIn K mainGlobals "ANSWERED" = some (some (.int 1 t_ANSWERED)))
    {t_TOLD : Tok} (n_TOLD : PySem.W.nsIn K mainGlobals "TOLD" = some (some (.int 2 t_TOLD)))
    {t_HEARD : Tok} (n_HEARD : PySem.W.nsIn K mainGlobals "HEARD" = some (some (.int 3 t_HEARD)))
    {t_NOTHING : Tok} (n_NOTHING : PySem.W.nsIn K mainGlobals "NOTHING" = some (some (.int 0 t_NOTHING)))
    {t_SENT : Tok} (n_SENT : PySem.W.nsIn K mainGlobals "SENT" = some (some (.int 1 t_SENT)))
    {t_COUNTED : Tok} (n_COUNTED : PySem.W.nsIn K mainGlobals "COUNTED" = some (some (.int 2 t_COUNTED)))
    {t_TELLS : Tok} (n_TELLS : PySem.W.nsIn K mainGlobals "TELLS" = some (some (.int 3 t_TELLS)))
    {t_ENDED : Tok} (n_ENDED : PySem.W.nsIn K mainGlobals "ENDED" = some (some (.int 4 t_ENDED)))
    {t_NONE_SUCH : Tok} (n_NONE_SUCH : PySem.W.nsIn K mainGlobals "NONE_SUCH" = some (some (.int (-2) t_NONE_SUCH)))
    {t_NOT_BEGUN : Tok} (n_NOT_BEGUN : PySem.W.nsIn K mainGlobals "NOT_BEGUN" = some (some (.int (-11) t_NOT_BEGUN)))
    {t_ALREADY : Tok} (n_ALREADY : PySem.W.nsIn K mainGlobals "ALREADY" = some (some (.int (-16) t_ALREADY)))
    {t_WRITTEN : Tok} (n_WRITTEN : PySem.W.nsIn K mainGlobals "WRITTEN" = some (some (.int (-17) t_WRITTEN)))
    {t_NOT_AS_TOLD : Tok} (n_NOT_AS_TOLD : PySem.W.nsIn K mainGlobals "NOT_AS_TOLD" = some (some (.int (-22) t_NOT_AS_TOLD)))
    {t_TOO_MANY : Tok} (n_TOO_MANY : PySem.W.nsIn K mainGlobals "TOO_MANY" = some (some (.int (-28) t_TOO_MANY)))
    {t_THERE_IS_NONE : Tok} (n_THERE_IS_NONE : PySem.W.nsIn K mainGlobals "THERE_IS_NONE" = some (some (.int (-33) t_THERE_IS_NONE)))
    {t_MOST_VALUE : Tok} (n_MOST_VALUE : PySem.W.nsIn K mainGlobals "MOST_VALUE" = some (some (.int 40 t_MOST_VALUE)))
    {t_MOST_OPERATIONS : Tok} (n_MOST_OPERATIONS : PySem.W.nsIn K mainGlobals "MOST_OPERATIONS" = some (some (.int 20 t_MOST_OPERATIONS)))
    {t_MOST_UNDER_WAY : Tok} (n_MOST_UNDER_WAY : PySem.W.nsIn K mainGlobals "MOST_UNDER_WAY" = some (some (.int 60 t_MOST_UNDER_WAY)))
    {t_MOST_ALONE : Tok} (n_MOST_ALONE : PySem.W.nsIn K mainGlobals "MOST_ALONE" = some (some (.int 400 t_MOST_ALONE)))
    {t_WRITE : Tok} (n_WRITE : PySem.W.nsIn K mainGlobals "WRITE" = some (some (.int 1 t_WRITE)))
    {e_WITH_ONE_NUMBER_changes : Addr} (n_WITH_ONE_NUMBER_changes : PySem.W.nsIn K mainGlobals "WITH_ONE_NUMBER_changes" = some (some (.ref e_WITH_ONE_NUMBER_changes))) (s_WITH_ONE_NUMBER_changes : DctI K e_WITH_ONE_NUMBER_changes [(2, f_read), (3, f_deliver), (4, f_lose), (5, f_again), (6, f_stop), (7, f_wake), (8, f_leave), (9, f_resend), (10, f_alone)])
    {t_OPEN_END : Tok} (n_OPEN_END : PySem.W.nsIn K mainGlobals "OPEN_END" = some (some (.int 1000001 t_OPEN_END)))
    {t_FOUND : Tok} (n_FOUND : PySem.W.nsIn K mainGlobals "FOUND" = some (some (.int 0 t_FOUND)))
    {t_NOBODY_WRITES : Tok} (n_NOBODY_WRITES : PySem.W.nsIn K mainGlobals "NOBODY_WRITES" = some (some (.int 1 t_NOBODY_WRITES)))
    {t_ENDED_AHEAD : Tok} (n_ENDED_AHEAD : PySem.W.nsIn K mainGlobals "ENDED_AHEAD" = some (some (.int 2 t_ENDED_AHEAD)))
    {t_CLASH : Tok} (n_CLASH : PySem.W.nsIn K mainGlobals "CLASH" = some (some (.int 3 t_CLASH)))
    {e_WITH_ONE_NUMBER_telling : Addr} (n_WITH_ONE_NUMBER_telling : PySem.W.nsIn K mainGlobals "WITH_ONE_NUMBER_telling" = some (some (.ref e_WITH_ONE_NUMBER_telling))) (s_WITH_ONE_NUMBER_telling : DctI K e_WITH_ONE_NUMBER_telling [(11, f_message_told), (12, f_machine_told), (13, f_customer_told), (14, f_op_told)])
    {e_WITH_NONE : Addr} (n_WITH_NONE : PySem.W.nsIn K mainGlobals "WITH_NONE" = some (some (.ref e_WITH_NONE))) (s_WITH_NONE : DctI K e_WITH_NONE [(15, f_kept), (16, f_why), (17, f_order), (18, f_since), (19, f_now), (20, f_safe), (21, f_state)])
    {t_BEGIN : Tok} (n_BEGIN : PySem.W.nsIn K mainGlobals "BEGIN" = some (some (.int 0 t_BEGIN)))
    {t_LAST_CHANGE : Tok} (n_LAST_CHANGE : PySem.W.nsIn K mainGlobals "LAST_CHANGE" = some (some (.int 10 t_LAST_CHANGE)))
    {t_MOST_MACHINES : Tok} (n_MOST_MACHINES : PySem.W.nsIn K mainGlobals "MOST_MACHINES" = some (some (.int 5 t_MOST_MACHINES)))
    {t_MOST_CUSTOMERS : Tok} (n_MOST_CUSTOMERS : PySem.W.nsIn K mainGlobals "MOST_CUSTOMERS" = some (some (.int 4 t_MOST_CUSTOMERS)))
    {e_HOW_MANY : Addr} (n_HOW_MANY : PySem.W.nsIn K mainGlobals "HOW_MANY" = some (some (.ref e_HOW_MANY))) (s_HOW_MANY : ∀ H, SqT K H e_HOW_MANY [V.int 5, V.int 2, V.int 1, V.int 1, V.int 1, V.int 1, V.int 1, V.int 1, V.int 1, V.int 1, V.int 1, V.int 1, V.int 1, V.int 1, V.int 1, V.int 0, V.int 0, V.int 0, V.int 0, V.int 0, V.int 0, V.int 0])
    (b_len : PySem.W.nsIn K mainGlobals "len" = some none)
    (b_range : PySem.W.nsIn K mainGlobals "range" = some none)
    (b_any : PySem.W.nsIn K mainGlobals "any" = some none)
    (b_enumerate : PySem.W.nsIn K mainGlobals "enumerate" = some none)
    (b_min : PySem.W.nsIn K mainGlobals "min" = some none)
    (b_max : PySem.W.nsIn K mainGlobals "max" = some none)
    (b_sorted : PySem.W.nsIn K mainGlobals "sorted" = some none)
    (b_set : PySem.W.nsIn K mainGlobals "set" = some none)
    : ∃ T : Txt K mg, T.d_answers.f = fa := by
  obtain ⟨c_Machine, rfl⟩ := cls_mk X G n_Machine h_Machine
  obtain ⟨c_Customer, rfl⟩ := cls_mk X G n_Customer h_Customer
  obtain ⟨c_Operation, rfl⟩ := cls_mk X G n_Operation h_Operation
  obtain ⟨c_Message, rfl⟩ := cls_mk X G n_Message h_Message
  obtain ⟨c_Store, rfl⟩ := cls_mk X G n_Store h_Store
  obtain ⟨c_Told, rfl⟩ := cls_mk X G n_Told h_Told
  obtain ⟨c_Value, rfl⟩ := cls_mk X G n_Value h_Value
  obtain ⟨c_Line, rfl⟩ := cls_mk X G n_Line h_Line
  obtain ⟨d_Machine___init__, rfl⟩ := meth_mk (ps := ["self"]) n_Machine___init__ i_Machine___init__ h_Machine___init__ (fun _ _ _ _ _ _ us hl => match us, hl with | [_], _ => rfl)
  obtain ⟨d_Customer___init__, rfl⟩ := meth_mk (ps := ["self"]) n_Customer___init__ i_Customer___init__ h_Customer___init__ (fun _ _ _ _ _ _ us hl => match us, hl with | [_], _ => rfl)
  obtain ⟨d_Customer_forget, rfl⟩ := meth_mk (ps := ["self"]) n_Customer_forget i_Customer_forget h_Customer_forget (fun _ _ _ _ _ _ us hl => match us, hl with | [_], _ => rfl)
  obtain ⟨d_Operation___init__, rfl⟩ := meth_mk (ps := ["self", "writing", "customer", "value", "began"]) n_Operation___init__ i_Operation___init__ h_Operation___init__ (fun _ _ _ _ _ _ us hl => match us, hl with | [_, _, _, _, _], _ => rfl)
  obtain ⟨d_Message___init__, rfl⟩ := meth_mk (ps := ["self", "kind", "customer", "machine", "op", "tag", "value"]) n_Message___init__ i_Message___init__ h_Message___init__ (fun _ _ _ _ _ _ us hl => match us, hl with | [_, _, _, _, _, _, _], _ => rfl)
  obtain ⟨d_Store___init__, rfl⟩ := meth_mk (ps := ["self", "machines", "customers", "asked", "told", "on"]) n_Store___init__ i_Store___init__ h_Store___init__ (fun _ _ _ _ _ _ us hl => match us, hl with | [_, _, _, _, _, _], _ => rfl)
  obtain ⟨d_send_to_all, rfl⟩ := def_mk (ps := ["store", "customer"]) X G n_send_to_all h_send_to_all (fun _ _ _ _ _ _ us hl => match us, hl with | [_, _], _ => rfl)
  obtain ⟨d_come, rfl⟩ := def_mk (ps := ["store", "place"]) X G n_come h_come (fun _ _ _ _ _ _ us hl => match us, hl with | [_, _], _ => rfl)
  obtain ⟨d_come_to_machine, rfl⟩ := def_mk (ps := ["store", "message"]) X G n_come_to_machine h_come_to_machine (fun _ _ _ _ _ _ us hl => match us, hl with | [_, _], _ => rfl)
  obtain ⟨d_send_back, rfl⟩ := def_mk (ps := ["store", "kind", "message", "tag", "value"]) X G n_send_back h_send_back (fun _ _ _ _ _ _ us hl => match us, hl with | [_, _, _, _, _], _ => rfl)
  obtain ⟨d_waits_for, rfl⟩ := def_mk (ps := ["who", "message"]) X G n_waits_for h_waits_for (fun _ _ _ _ _ _ us hl => match us, hl with | [_, _], _ => rfl)
  obtain ⟨d_count_answer, rfl⟩ := def_mk (ps := ["store", "who", "message"]) X G n_count_answer h_count_answer (fun _ _ _ _ _ _ us hl => match us, hl with | [_, _, _], _ => rfl)
  obtain ⟨d_count_heard, rfl⟩ := def_mk (ps := ["store", "who"]) X G n_count_heard h_count_heard (fun _ _ _ _ _ _ us hl => match us, hl with | [_, _], _ => rfl)
  obtain ⟨d_end_operation, rfl⟩ := def_mk (ps := ["store", "who"]) X G n_end_operation h_end_operation (fun _ _ _ _ _ _ us hl => match us, hl with | [_, _], _ => rfl)
  obtain ⟨d_write, rfl⟩ := def_mk (ps := ["store", "customer", "value"]) X G n_write h_write (fun _ _ _ _ _ _ us hl => match us, hl with | [_, _, _], _ => rfl)
  obtain ⟨d_read, rfl⟩ := def_mk (ps := ["store", "customer"]) X G n_read h_read (fun _ _ _ _ _ _ us hl => match us, hl with | [_, _], _ => rfl)
  obtain ⟨d_is_written, rfl⟩ := def_mk (ps := ["store", "value"]) X G n_is_written h_is_written (fun _ _ _ _ _ _ us hl => match us, hl with | [_, _], _ => rfl)
  obtain ⟨d_is_full, rfl⟩ := def_mk (ps := ["store"]) X G n_is_full h_is_full (fun _ _ _ _ _ _ us hl => match us, hl with | [_], _ => rfl)
  obtain ⟨d_has_no_room, rfl⟩ := def_mk (ps := ["store"]) X G n_has_no_room h_has_no_room (fun _ _ _ _ _ _ us hl => match us, hl with | [_], _ => rfl)
  obtain ⟨d_begin_operation, rfl⟩ := def_mk (ps := ["store", "writing", "customer", "value"]) X G n_begin_operation h_begin_operation (fun _ _ _ _ _ _ us hl => match us, hl with | [_, _, _, _], _ => rfl)
  obtain ⟨d_deliver, rfl⟩ := def_mk (ps := ["store", "message"]) X G n_deliver h_deliver (fun _ _ _ _ _ _ us hl => match us, hl with | [_, _], _ => rfl)
  obtain ⟨d_lose, rfl⟩ := def_mk (ps := ["store", "message"]) X G n_lose h_lose (fun _ _ _ _ _ _ us hl => match us, hl with | [_, _], _ => rfl)
  obtain ⟨d_again, rfl⟩ := def_mk (ps := ["store", "message"]) X G n_again h_again (fun _ _ _ _ _ _ us hl => match us, hl with | [_, _], _ => rfl)
  obtain ⟨d_stop, rfl⟩ := def_mk (ps := ["store", "machine"]) X G n_stop h_stop (fun _ _ _ _ _ _ us hl => match us, hl with | [_, _], _ => rfl)
  obtain ⟨d_wake, rfl⟩ := def_mk (ps := ["store", "machine"]) X G n_wake h_wake (fun _ _ _ _ _ _ us hl => match us, hl with | [_, _], _ => rfl)
  obtain ⟨d_turn, rfl⟩ := def_mk (ps := ["store", "machine", "up"]) X G n_turn h_turn (fun _ _ _ _ _ _ us hl => match us, hl with | [_, _, _], _ => rfl)
  obtain ⟨d_leave, rfl⟩ := def_mk (ps := ["store", "customer"]) X G n_leave h_leave (fun _ _ _ _ _ _ us hl => match us, hl with | [_, _], _ => rfl)
  obtain ⟨d_resend, rfl⟩ := def_mk (ps := ["store", "customer"]) X G n_resend h_resend (fun _ _ _ _ _ _ us hl => match us, hl with | [_, _], _ => rfl)
  obtain ⟨d_alone, rfl⟩ := def_mk (ps := ["store", "customer"]) X G n_alone h_alone (fun _ _ _ _ _ _ us hl => match us, hl with | [_, _], _ => rfl)
  obtain ⟨d_is_at_work, rfl⟩ := def_mk (ps := ["store", "customer"]) X G n_is_at_work h_is_at_work (fun _ _ _ _ _ _ us hl => match us, hl with | [_, _], _ => rfl)
  obtain ⟨d_first_of, rfl⟩ := def_mk (ps := ["store", "number"]) X G n_first_of h_first_of (fun _ _ _ _ _ _ us hl => match us, hl with | [_, _], _ => rfl)
  obtain ⟨d_change, rfl⟩ := def_mk (ps := ["store", "number", "given"]) X G n_change h_change (fun _ _ _ _ _ _ us hl => match us, hl with | [_, _, _], _ => rfl)
  obtain ⟨d_Told___init__, rfl⟩ := meth_mk (ps := ["self", "number", "op", "ended"]) n_Told___init__ i_Told___init__ h_Told___init__ (fun _ _ _ _ _ _ us hl => match us, hl with | [_, _, _, _], _ => rfl)
  obtain ⟨d_Value___init__, rfl⟩ := meth_mk (ps := ["self", "value", "ops"]) n_Value___init__ i_Value___init__ h_Value___init__ (fun _ _ _ _ _ _ us hl => match us, hl with | [_, _, _], _ => rfl)
  obtain ⟨d_told_by, rfl⟩ := def_mk (ps := ["ops", "time"]) X G n_told_by h_told_by (fun _ _ _ _ _ _ us hl => match us, hl with | [_, _], _ => rfl)
  obtain ⟨d_readings_of, rfl⟩ := def_mk (ps := ["told"]) X G n_readings_of h_readings_of (fun _ _ _ _ _ _ us hl => match us, hl with | [_], _ => rfl)
  obtain ⟨d_who_counts, rfl⟩ := def_mk (ps := ["told"]) X G n_who_counts h_who_counts (fun _ _ _ _ _ _ us hl => match us, hl with | [_], _ => rfl)
  obtain ⟨d_values_there_are, rfl⟩ := def_mk (ps := ["told"]) X G n_values_there_are h_values_there_are (fun _ _ _ _ _ _ us hl => match us, hl with | [_], _ => rfl)
  obtain ⟨d_comes_ahead, rfl⟩ := def_mk (ps := ["value", "other"]) X G n_comes_ahead h_comes_ahead (fun _ _ _ _ _ _ us hl => match us, hl with | [_, _], _ => rfl)
  obtain ⟨d_first_clash, rfl⟩ := def_mk (ps := ["values"]) X G n_first_clash h_first_clash (fun _ _ _ _ _ _ us hl => match us, hl with | [_], _ => rfl)
  obtain ⟨d_why_not, rfl⟩ := def_mk (ps := ["told"]) X G n_why_not h_why_not (fun _ _ _ _ _ _ us hl => match us, hl with | [_], _ => rfl)
  obtain ⟨d_shown_of, rfl⟩ := def_mk (ps := ["value"]) X G n_shown_of h_shown_of (fun _ _ _ _ _ _ us hl => match us, hl with | [_], _ => rfl)
  obtain ⟨d_can_be_found, rfl⟩ := def_mk (ps := ["told"]) X G n_can_be_found h_can_be_found (fun _ _ _ _ _ _ us hl => match us, hl with | [_], _ => rfl)
  obtain ⟨d_in_order, rfl⟩ := def_mk (ps := ["told"]) X G n_in_order h_in_order (fun _ _ _ _ _ _ us hl => match us, hl with | [_], _ => rfl)
  obtain ⟨d_may_be_next, rfl⟩ := def_mk (ps := ["value", "left"]) X G n_may_be_next h_may_be_next (fun _ _ _ _ _ _ us hl => match us, hl with | [_, _], _ => rfl)
  obtain ⟨d_earliest_without, rfl⟩ := def_mk (ps := ["ops"]) X G n_earliest_without h_earliest_without (fun _ _ _ _ _ _ us hl => match us, hl with | [_], _ => rfl)
  obtain ⟨d_message_told, rfl⟩ := def_mk (ps := ["store", "place"]) X G n_message_told h_message_told (fun _ _ _ _ _ _ us hl => match us, hl with | [_, _], _ => rfl)
  obtain ⟨d_machine_told, rfl⟩ := def_mk (ps := ["store", "number"]) X G n_machine_told h_machine_told (fun _ _ _ _ _ _ us hl => match us, hl with | [_, _], _ => rfl)
  obtain ⟨d_customer_told, rfl⟩ := def_mk (ps := ["store", "number"]) X G n_customer_told h_customer_told (fun _ _ _ _ _ _ us hl => match us, hl with | [_, _], _ => rfl)
  obtain ⟨d_op_told, rfl⟩ := def_mk (ps := ["store", "number"]) X G n_op_told h_op_told (fun _ _ _ _ _ _ us hl => match us, hl with | [_, _], _ => rfl)
  obtain ⟨d_all_told, rfl⟩ := def_mk (ps := ["store"]) X G n_all_told h_all_told (fun _ _ _ _ _ _ us hl => match us, hl with | [_], _ => rfl)
  obtain ⟨d_kept, rfl⟩ := def_mk (ps := ["store"]) X G n_kept h_kept (fun _ _ _ _ _ _ us hl => match us, hl with | [_], _ => rfl)
  obtain ⟨d_why, rfl⟩ := def_mk (ps := ["store"]) X G n_why h_why (fun _ _ _ _ _ _ us hl => match us, hl with | [_], _ => rfl)
  obtain ⟨d_order, rfl⟩ := def_mk (ps := ["store"]) X G n_order h_order (fun _ _ _ _ _ _ us hl => match us, hl with | [_], _ => rfl)
  obtain ⟨d_since, rfl⟩ := def_mk (ps := ["store"]) X G n_since h_since (fun _ _ _ _ _ _ us hl => match us, hl with | [_], _ => rfl)
  obtain ⟨d_now, rfl⟩ := def_mk (ps := ["store"]) X G n_now h_now (fun _ _ _ _ _ _ us hl => match us, hl with | [_], _ => rfl)
  obtain ⟨d_safe, rfl⟩ := def_mk (ps := ["store"]) X G n_safe h_safe (fun _ _ _ _ _ _ us hl => match us, hl with | [_], _ => rfl)
  obtain ⟨d_state, rfl⟩ := def_mk (ps := ["store"]) X G n_state h_state (fun _ _ _ _ _ _ us hl => match us, hl with | [_], _ => rfl)
  obtain ⟨d_tell, rfl⟩ := def_mk (ps := ["store", "number", "given"]) X G n_tell h_tell (fun _ _ _ _ _ _ us hl => match us, hl with | [_, _, _], _ => rfl)
  obtain ⟨d_Line___init__, rfl⟩ := meth_mk (ps := ["self"]) n_Line___init__ i_Line___init__ h_Line___init__ (fun _ _ _ _ _ _ us hl => match us, hl with | [_], _ => rfl)
  obtain ⟨d_Line_answer, rfl⟩ := meth_mk (ps := ["self", "number", "given"]) n_Line_answer i_Line_answer h_Line_answer (fun _ _ _ _ _ _ us hl => match us, hl with | [_, _, _], _ => rfl)
  obtain ⟨d_Line_begin, rfl⟩ := meth_mk (ps := ["self", "machines", "customers", "asked", "told", "on"]) n_Line_begin i_Line_begin h_Line_begin (fun _ _ _ _ _ _ us hl => match us, hl with | [_, _, _, _, _, _], _ => rfl)
  obtain ⟨d_answers, rfl⟩ := def_mk (ps := ["calls"]) X G n_answers h_answers (fun _ _ _ _ _ _ us hl => match us, hl with | [_], _ => rfl)
  have e : d_answers.f = fa := by
    have z := d_answers.g.symm.trans hfa
    cases z
    rfl
  exact ⟨{ c_Machine := c_Machine, c_Customer := c_Customer, c_Operation := c_Operation, c_Message := c_Message, c_Store := c_Store, c_Told := c_Told, c_Value := c_Value, c_Line := c_Line, d_Machine___init__ := d_Machine___init__, d_Customer___init__ := d_Customer___init__, d_Customer_forget := d_Customer_forget, d_Operation___init__ := d_Operation___init__, d_Message___init__ := d_Message___init__, d_Store___init__ := d_Store___init__, d_send_to_all := d_send_to_all, d_come := d_come, d_come_to_machine := d_come_to_machine, d_send_back := d_send_back, d_waits_for := d_waits_for, d_count_answer := d_count_answer, d_count_heard := d_count_heard, d_end_operation := d_end_operation, d_write := d_write, d_read := d_read, d_is_written := d_is_written, d_is_full := d_is_full, d_has_no_room := d_has_no_room, d_begin_operation := d_begin_operation, d_deliver := d_deliver, d_lose := d_lose, d_again := d_again, d_stop := d_stop, d_wake := d_wake, d_turn := d_turn, d_leave := d_leave, d_resend := d_resend, d_alone := d_alone, d_is_at_work := d_is_at_work, d_first_of := d_first_of, d_change := d_change, d_Told___init__ := d_Told___init__, d_Value___init__ := d_Value___init__, d_told_by := d_told_by, d_readings_of := d_readings_of, d_who_counts := d_who_counts, d_values_there_are := d_values_there_are, d_comes_ahead := d_comes_ahead, d_first_clash := d_first_clash, d_why_not := d_why_not, d_shown_of := d_shown_of, d_can_be_found := d_can_be_found, d_in_order := d_in_order, d_may_be_next := d_may_be_next, d_earliest_without := d_earliest_without, d_message_told := d_message_told, d_machine_told := d_machine_told, d_customer_told := d_customer_told, d_op_told := d_op_told, d_all_told := d_all_told, d_kept := d_kept, d_why := d_why, d_order := d_order, d_since := d_since, d_now := d_now, d_safe := d_safe, d_state := d_state, d_tell := d_tell, d_Line___init__ := d_Line___init__, d_Line_answer := d_Line_answer, d_Line_begin := d_Line_begin, d_answers := d_answers, k_IDLE := gv_mk X G n_IDLE ⟨_, rfl⟩, k_ASKING := gv_mk X G n_ASKING ⟨_, rfl⟩, k_TELLING := gv_mk X G n_TELLING ⟨_, rfl⟩, k_LEFT := gv_mk X G n_LEFT ⟨_, rfl⟩, k_ASKED := gv_mk X G n_ASKED ⟨_, rfl⟩, k_ANSWERED := gv_mk X G n_ANSWERED ⟨_, rfl⟩, k_TOLD := gv_mk X G n_TOLD ⟨_, rfl⟩, k_HEARD := gv_mk X G n_HEARD ⟨_, rfl⟩, k_NOTHING := gv_mk X G n_NOTHING ⟨_, rfl⟩, k_SENT := gv_mk X G n_SENT ⟨_, rfl⟩, k_COUNTED := gv_mk X G n_COUNTED ⟨_, rfl⟩, k_TELLS := gv_mk X G n_TELLS ⟨_, rfl⟩, k_ENDED := gv_mk X G n_ENDED ⟨_, rfl⟩, k_NONE_SUCH := gv_mk X G n_NONE_SUCH ⟨_, rfl⟩, k_NOT_BEGUN := gv_mk X G n_NOT_BEGUN ⟨_, rfl⟩, k_ALREADY := gv_mk X G n_ALREADY ⟨_, rfl⟩, k_WRITTEN := gv_mk X G n_WRITTEN ⟨_, rfl⟩, k_NOT_AS_TOLD := gv_mk X G n_NOT_AS_TOLD ⟨_, rfl⟩, k_TOO_MANY := gv_mk X G n_TOO_MANY ⟨_, rfl⟩, k_THERE_IS_NONE := gv_mk X G n_THERE_IS_NONE ⟨_, rfl⟩, k_MOST_VALUE := gv_mk X G n_MOST_VALUE ⟨_, rfl⟩, k_MOST_OPERATIONS := gv_mk X G n_MOST_OPERATIONS ⟨_, rfl⟩, k_MOST_UNDER_WAY := gv_mk X G n_MOST_UNDER_WAY ⟨_, rfl⟩, k_MOST_ALONE := gv_mk X G n_MOST_ALONE ⟨_, rfl⟩, k_WRITE := gv_mk X G n_WRITE ⟨_, rfl⟩, k_WITH_ONE_NUMBER_changes := ⟨e_WITH_ONE_NUMBER_changes, gv_mk X G n_WITH_ONE_NUMBER_changes rfl, s_WITH_ONE_NUMBER_changes⟩, k_OPEN_END := gv_mk X G n_OPEN_END ⟨_, rfl⟩, k_FOUND := gv_mk X G n_FOUND ⟨_, rfl⟩, k_NOBODY_WRITES := gv_mk X G n_NOBODY_WRITES ⟨_, rfl⟩, k_ENDED_AHEAD := gv_mk X G n_ENDED_AHEAD ⟨_, rfl⟩, k_CLASH := gv_mk X G n_CLASH ⟨_, rfl⟩, k_WITH_ONE_NUMBER_telling := ⟨e_WITH_ONE_NUMBER_telling, gv_mk X G n_WITH_ONE_NUMBER_telling rfl, s_WITH_ONE_NUMBER_telling⟩, k_WITH_NONE := ⟨e_WITH_NONE, gv_mk X G n_WITH_NONE rfl, s_WITH_NONE⟩, k_BEGIN := gv_mk X G n_BEGIN ⟨_, rfl⟩, k_LAST_CHANGE := gv_mk X G n_LAST_CHANGE ⟨_, rfl⟩, k_MOST_MACHINES := gv_mk X G n_MOST_MACHINES ⟨_, rfl⟩, k_MOST_CUSTOMERS := gv_mk X G n_MOST_CUSTOMERS ⟨_, rfl⟩, k_HOW_MANY := ⟨e_HOW_MANY, gv_mk X G n_HOW_MANY rfl, s_HOW_MANY⟩, b_len := PySem.W.mg_none_of X G b_len, b_range := PySem.W.mg_none_of X G b_range, b_any := PySem.W.mg_none_of X G b_any, b_enumerate := PySem.W.mg_none_of X G b_enumerate, b_min := PySem.W.mg_none_of X G b_min, b_max := PySem.W.mg_none_of X G b_max, b_sorted := PySem.W.mg_none_of X G b_sorted, b_set := PySem.W.mg_none_of X G b_set }, e⟩
theorem fin_F {P : Program} {w : World} {fa : Addr} (h : ∃ T : Txt K mg, T.d_answers.f = fa) : ∃ fd : FuncData, (∀ (s : Shared) (us : List Value), us.length = (["calls"] : List Str).length → BindsTo s fd ⟨us, []⟩ ((["calls"] : List Str).zip us)) ∧
    ∀ base : Heap, K.In base → base.Ns mainGlobals mg → FnOk P w K mg base CX0 10 fa fd ["calls"] (spAnswers K) := by
  obtain ⟨T, rfl⟩ := h
  obtain ⟨oc, od, kV, doc, pm, an, cdv, ct, osl, efd, lk, hcd⟩ := T.d_answers.F.ex
  refine ⟨T.d_answers.fd, fun s us hu => ?_, fun base _ _ => ok_answers T⟩
  rw [efd]
  exact match us, hu with
    | [_], _ => .of_eq rfl
end
end Ea

open PySem PySem.W PyProof.Rows
set_option maxRecDepth 100000 in
set_option maxHeartbeats 0 in
theorem PySem.Challenge.cw_enoughasked_s01_answers_holds : PySem.Challenge.rw_enoughasked_s01_answers.Holds := by
  w_on; k_headS; (case hw => exact ⟨[.list [.int 15]], by decide +kernel, by decide +kernel⟩)
  k_fillS
  refine L2.walk_specK (r := PySem.Challenge.rw_enoughasked_s01_answers) (k := 10) (CX := L2.CX0) (ps := ["calls"]) (sp := Ea.spAnswers) (by decide +kernel) rfl rfl ⟨rfl, by decide, by decide⟩ (fun w h Y => PySem.W.kIn_of Y) ?F ?S (fun _ _ _ _ z => z)
  case F =>
    intro w mg fa h Y KX G hmg
    refine Ea.fin_F ?txt
    case txt =>
      refine' Ea.txt_mk KX G hmg ?n_Machine ?h_Machine ?n_Customer ?h_Customer ?n_Operation ?h_Operation ?n_Message ?h_Message ?n_Store ?h_Store ?n_Told ?h_Told ?n_Value ?h_Value ?n_Line ?h_Line ?n_Machine___init__ ?i_Machine___init__ ?h_Machine___init__ ?n_Customer___init__ ?i_Customer___init__ ?h_Customer___init__ ?n_Customer_forget ?i_Customer_forget ?h_Customer_forget ?n_Operation___init__ ?i_Operation___init__ ?h_Operation___init__ ?n_Message___init__ ?i_Message___init__ ?h_Message___init__ ?n_Store___init__ ?i_Store___init__ ?h_Store___init__ ?n_send_to_all ?h_send_to_all ?n_come ?h_come ?n_come_to_machine ?h_come_to_machine ?n_send_back ?h_send_back ?n_waits_for ?h_waits_for ?n_count_answer ?h_count_answer ?n_count_heard ?h_count_heard ?n_end_operation ?h_end_operation ?n_write ?h_write ?n_read ?h_read ?n_is_written ?h_is_written ?n_is_full ?h_is_full ?n_has_no_room ?h_has_no_room ?n_begin_operation ?h_begin_operation ?n_deliver ?h_deliver ?n_lose ?h_lose ?n_again ?h_again ?n_stop ?h_stop ?n_wake ?h_wake ?n_turn ?h_turn ?n_leave ?h_leave ?n_resend ?h_resend ?n_alone ?h_alone ?n_is_at_work ?h_is_at_work ?n_first_of ?h_first_of ?n_change ?h_change ?n_Told___init__ ?i_Told___init__ ?h_Told___init__ ?n_Value___init__ ?i_Value___init__ ?h_Value___init__ ?n_told_by ?h_told_by ?n_readings_of ?h_readings_of ?n_who_counts ?h_who_counts ?n_values_there_are ?h_values_there_are ?n_comes_ahead ?h_comes_ahead ?n_first_clash ?h_first_clash ?n_why_not ?h_why_not ?n_shown_of ?h_shown_of ?n_can_be_found ?h_can_be_found ?n_in_order ?h_in_order ?n_may_be_next ?h_may_be_next ?n_earliest_without ?h_earliest_without ?n_message_told ?h_message_told ?n_machine_told ?h_machine_told ?n_customer_told ?h_customer_told ?n_op_told ?h_op_told ?n_all_told ?h_all_told ?n_kept ?h_kept ?n_why ?h_why ?n_order ?h_order ?n_since ?h_since ?n_now ?h_now ?n_safe ?h_safe ?n_state ?h_state ?n_tell ?h_tell ?n_Line___init__ ?i_Line___init__ ?h_Line___init__ ?n_Line_answer ?i_Line_answer ?h_Line_answer ?n_Line_begin ?i_Line_begin ?h_Line_begin ?n_answers ?h_answers ?n_IDLE ?n_ASKING ?n_TELLING ?n_LEFT ?n_ASKED ?n_ANSWERED ?n_TOLD ?n_HEARD ?n_NOTHING ?n_SENT ?n_COUNTED ?n_TELLS ?n_ENDED ?n_NONE_SUCH ?n_NOT_BEGUN ?n_ALREADY ?n_WRITTEN ?n_NOT_AS_TOLD ?n_TOO_MANY ?n_THERE_IS_NONE ?n_MOST_VALUE ?n_MOST_OPERATIONS ?n_MOST_UNDER_WAY ?n_MOST_ALONE ?n_WRITE ?n_WITH_ONE_NUMBER_changes ?s_WITH_ONE_NUMBER_changes ?n_OPEN_END ?n_FOUND ?n_NOBODY_WRITES ?n_ENDED_AHEAD ?n_CLASH ?n_WITH_ONE_NUMBER_telling ?s_WITH_ONE_NUMBER_telling ?n_WITH_NONE ?s_WITH_NONE ?n_BEGIN ?n_LAST_CHANGE ?n_MOST_MACHINES ?n_MOST_CUSTOMERS ?n_HOW_MANY ?s_HOW_MANY ?b_len ?b_range ?b_any ?b_enumerate ?b_min ?b_max ?b_sorted ?b_set
      (case n_Machine => k_is)
      (case h_Machine => refine' ⟨?_, ?_, ?_, ?_, ?_, ?_, ?_, ?_, ?_, ?_⟩; all_goals first | trivial | k_is)
      (case n_Customer => k_is)
      (case h_Customer => refine' ⟨?_, ?_, ?_, ?_, ?_, ?_, ?_, ?_, ?_, ?_, ?_, ?_⟩; all_goals first | trivial | k_is)
      (case n_Operation => k_is)
      (case h_Operation => refine' ⟨?_, ?_, ?_, ?_, ?_, ?_, ?_, ?_, ?_, ?_, ?_, ?_⟩; all_goals first | trivial | k_is)
      (case n_Message => k_is)
      (case h_Message => refine' ⟨?_, ?_, ?_, ?_, ?_, ?_, ?_, ?_, ?_, ?_, ?_, ?_, ?_⟩; all_goals first | trivial | k_is)
      (case n_Store => k_is)
      (case h_Store => refine' ⟨?_, ?_, ?_, ?_, ?_, ?_, ?_, ?_, ?_, ?_, ?_, ?_, ?_, ?_, ?_⟩; all_goals first | trivial | k_is)
      (case n_Told => k_is)
      (case h_Told => refine' ⟨?_, ?_, ?_, ?_, ?_, ?_, ?_, ?_, ?_, ?_, ?_, ?_⟩; all_goals first | trivial | k_is)
      (case n_Value => k_is)
      (case h_Value => refine' ⟨?_, ?_, ?_, ?_, ?_, ?_, ?_, ?_, ?_, ?_, ?_⟩; all_goals first | trivial | k_is)
      (case n_Line => k_is)
      (case h_Line => refine' ⟨?_, ?_, ?_, ?_, ?_, ?_, ?_, ?_⟩; all_goals first | trivial | k_is)
      (case n_Machine___init__ => k_is)
      (case i_Machine___init__ => k_is)
      (case h_Machine___init__ => refine' Ea.fun_hyp ?l0 ?c0 ?k0; (case l0 => k_is); (case c0 => k_is); (case k0 => k_is))
      (case n_Customer___init__ => k_is)
      (case i_Customer___init__ => k_is)
      (case h_Customer___init__ => refine' Ea.fun_hyp ?l0 ?c0 ?k0; (case l0 => k_is); (case c0 => k_is); (case k0 => k_is))
      (case n_Customer_forget => k_is)
      (case i_Customer_forget => k_is)
      (case h_Customer_forget => refine' Ea.fun_hyp ?l0 ?c0 ?k0; (case l0 => k_is); (case c0 => k_is); (case k0 => k_is))
      (case n_Operation___init__ => k_is)
      (case i_Operation___init__ => k_is)
      (case h_Operation___init__ => refine' Ea.fun_hyp ?l0 ?c0 ?k0; (case l0 => k_is); (case c0 => k_is); (case k0 => k_is))
      (case n_Message___init__ => k_is)
      (case i_Message___init__ => k_is)
      (case h_Message___init__ => refine' Ea.fun_hyp ?l0 ?c0 ?k0; (case l0 => k_is); (case c0 => k_is); (case k0 => k_is))
      (case n_Store___init__ => k_is)
      (case i_Store___init__ => k_is)
      (case h_Store___init__ => refine' Ea.fun_hyp ?l0 ?c0 ?k0; (case l0 => k_is); (case c0 => k_is); (case k0 => k_is))
      (case n_send_to_all => k_is)
      (case h_send_to_all => refine' Ea.fun_hyp ?l0 ?c0 ?k0; (case l0 => k_is); (case c0 => k_is); (case k0 => k_is))
      (case n_come => k_is)
      (case h_come => refine' Ea.fun_hyp ?l0 ?c0 ?k0; (case l0 => k_is); (case c0 => k_is); (case k0 => k_is))
      (case n_come_to_machine => k_is)
      (case h_come_to_machine => refine' Ea.fun_hyp ?l0 ?c0 ?k0; (case l0 => k_is); (case c0 => k_is); (case k0 => k_is))
      (case n_send_back => k_is)
      (case h_send_back => refine' Ea.fun_hyp ?l0 ?c0 ?k0; (case l0 => k_is); (case c0 => k_is); (case k0 => k_is))
      (case n_waits_for => k_is)
      (case h_waits_for => refine' Ea.fun_hyp ?l0 ?c0 ?k0; (case l0 => k_is); (case c0 => k_is); (case k0 => k_is))
      (case n_count_answer => k_is)
      (case h_count_answer => refine' Ea.fun_hyp ?l0 ?c0 ?k0; (case l0 => k_is); (case c0 => k_is); (case k0 => k_is))
      (case n_count_heard => k_is)
      (case h_count_heard => refine' Ea.fun_hyp ?l0 ?c0 ?k0; (case l0 => k_is); (case c0 => k_is); (case k0 => k_is))
      (case n_end_operation => k_is)
      (case h_end_operation => refine' Ea.fun_hyp ?l0 ?c0 ?k0; (case l0 => k_is); (case c0 => k_is); (case k0 => k_is))
      (case n_write => k_is)
      (case h_write => refine' Ea.fun_hyp ?l0 ?c0 ?k0; (case l0 => k_is); (case c0 => k_is); (case k0 => k_is))
      (case n_read => k_is)
      (case h_read => refine' Ea.fun_hyp ?l0 ?c0 ?k0; (case l0 => k_is); (case c0 => k_is); (case k0 => k_is))
      (case n_is_written => k_is)
      (case h_is_written => refine' Ea.fun_hyp ?l0 ?c0 ?k0; (case l0 => k_is); (case c0 => k_is); (case k0 => k_is))
      (case n_is_full => k_is)
      (case h_is_full => refine' Ea.fun_hyp ?l0 ?c0 ?k0; (case l0 => k_is); (case c0 => k_is); (case k0 => k_is))
      (case n_has_no_room => k_is)
      (case h_has_no_room => refine' Ea.fun_hyp ?l0 ?c0 ?k0; (case l0 => k_is); (case c0 => k_is); (case k0 => k_is))
      (case n_begin_operation => k_is)
      (case h_begin_operation => refine' Ea.fun_hyp ?l0 ?c0 ?k0; (case l0 => k_is); (case c0 => k_is); (case k0 => k_is))
      (case n_deliver => k_is)
      (case h_deliver => refine' Ea.fun_hyp ?l0 ?c0 ?k0; (case l0 => k_is); (case c0 => k_is); (case k0 => k_is))
      (case n_lose => k_is)
      (case h_lose => refine' Ea.fun_hyp ?l0 ?c0 ?k0; (case l0 => k_is); (case c0 => k_is); (case k0 => k_is))
      (case n_again => k_is)
      (case h_again => refine' Ea.fun_hyp ?l0 ?c0 ?k0; (case l0 => k_is); (case c0 => k_is); (case k0 => k_is))
      (case n_stop => k_is)
      (case h_stop => refine' Ea.fun_hyp ?l0 ?c0 ?k0; (case l0 => k_is); (case c0 => k_is); (case k0 => k_is))
      (case n_wake => k_is)
      (case h_wake => refine' Ea.fun_hyp ?l0 ?c0 ?k0; (case l0 => k_is); (case c0 => k_is); (case k0 => k_is))
      (case n_turn => k_is)
      (case h_turn => refine' Ea.fun_hyp ?l0 ?c0 ?k0; (case l0 => k_is); (case c0 => k_is); (case k0 => k_is))
      (case n_leave => k_is)
      (case h_leave => refine' Ea.fun_hyp ?l0 ?c0 ?k0; (case l0 => k_is); (case c0 => k_is); (case k0 => k_is))
      (case n_resend => k_is)
      (case h_resend => refine' Ea.fun_hyp ?l0 ?c0 ?k0; (case l0 => k_is); (case c0 => k_is); (case k0 => k_is))
      (case n_alone => k_is)
      (case h_alone => refine' Ea.fun_hyp ?l0 ?c0 ?k0; (case l0 => k_is); (case c0 => k_is); (case k0 => k_is))
      (case n_is_at_work => k_is)
      (case h_is_at_work => refine' Ea.fun_hyp ?l0 ?c0 ?k0; (case l0 => k_is); (case c0 => k_is); (case k0 => k_is))
      (case n_first_of => k_is)
      (case h_first_of => refine' Ea.fun_hyp ?l0 ?c0 ?k0; (case l0 => k_is); (case c0 => k_is); (case k0 => k_is))
      (case n_change => k_is)
      (case h_change => refine' Ea.fun_hyp ?l0 ?c0 ?k0; (case l0 => k_is); (case c0 => k_is); (case k0 => k_is))
      (case n_Told___init__ => k_is)
      (case i_Told___init__ => k_is)
      (case h_Told___init__ => refine' Ea.fun_hyp ?l0 ?c0 ?k0; (case l0 => k_is); (case c0 => k_is); (case k0 => k_is))
      (case n_Value___init__ => k_is)
      (case i_Value___init__ => k_is)
      (case h_Value___init__ => refine' Ea.fun_hyp ?l0 ?c0 ?k0; (case l0 => k_is); (case c0 => k_is); (case k0 => k_is))
      (case n_told_by => k_is)
      (case h_told_by => refine' Ea.fun_hyp ?l0 ?c0 ?k0; (case l0 => k_is); (case c0 => k_is); (case k0 => k_is))
      (case n_readings_of => k_is)
      (case h_readings_of => refine' Ea.fun_hyp ?l0 ?c0 ?k0; (case l0 => k_is); (case c0 => k_is); (case k0 => k_is))
      (case n_who_counts => k_is)
      (case h_who_counts => refine' Ea.fun_hyp ?l0 ?c0 ?k0; (case l0 => k_is); (case c0 => k_is); (case k0 => k_is))
      (case n_values_there_are => k_is)
      (case h_values_there_are => refine' Ea.fun_hyp ?l0 ?c0 ?k0; (case l0 => k_is); (case c0 => k_is); (case k0 => k_is))
      (case n_comes_ahead => k_is)
      (case h_comes_ahead => refine' Ea.fun_hyp ?l0 ?c0 ?k0; (case l0 => k_is); (case c0 => k_is); (case k0 => k_is))
      (case n_first_clash => k_is)
      (case h_first_clash => refine' Ea.fun_hyp ?l0 ?c0 ?k0; (case l0 => k_is); (case c0 => k_is); (case k0 => k_is))
      (case n_why_not => k_is)
      (case h_why_not => refine' Ea.fun_hyp ?l0 ?c0 ?k0; (case l0 => k_is); (case c0 => k_is); (case k0 => k_is))
      (case n_shown_of => k_is)
      (case h_shown_of => refine' Ea.fun_hyp ?l0 ?c0 ?k0; (case l0 => k_is); (case c0 => k_is); (case k0 => k_is))
      (case n_can_be_found => k_is)
      (case h_can_be_found => refine' Ea.fun_hyp ?l0 ?c0 ?k0; (case l0 => k_is); (case c0 => k_is); (case k0 => k_is))
      (case n_in_order => k_is)
      (case h_in_order => refine' Ea.fun_hyp ?l0 ?c0 ?k0; (case l0 => k_is); (case c0 => k_is); (case k0 => k_is))
      (case n_may_be_next => k_is)
      (case h_may_be_next => refine' Ea.fun_hyp ?l0 ?c0 ?k0; (case l0 => k_is); (case c0 => k_is); (case k0 => k_is))
      (case n_earliest_without => k_is)
      (case h_earliest_without => refine' Ea.fun_hyp ?l0 ?c0 ?k0; (case l0 => k_is); (case c0 => k_is); (case k0 => k_is))
      (case n_message_told => k_is)
      (case h_message_told => refine' Ea.fun_hyp ?l0 ?c0 ?k0; (case l0 => k_is); (case c0 => k_is); (case k0 => k_is))
      (case n_machine_told => k_is)
      (case h_machine_told => refine' Ea.fun_hyp ?l0 ?c0 ?k0; (case l0 => k_is); (case c0 => k_is); (case k0 => k_is))
      (case n_customer_told => k_is)
      (case h_customer_told => refine' Ea.fun_hyp ?l0 ?c0 ?k0; (case l0 => k_is); (case c0 => k_is); (case k0 => k_is))
      (case n_op_told => k_is)
      (case h_op_told => refine' Ea.fun_hyp ?l0 ?c0 ?k0; (case l0 => k_is); (case c0 => k_is); (case k0 => k_is))
      (case n_all_told => k_is)
      (case h_all_told => refine' Ea.fun_hyp ?l0 ?c0 ?k0; (case l0 => k_is); (case c0 => k_is); (case k0 => k_is))
      (case n_kept => k_is)
      (case h_kept => refine' Ea.fun_hyp ?l0 ?c0 ?k0; (case l0 => k_is); (case c0 => k_is); (case k0 => k_is))
      (case n_why => k_is)
      (case h_why => refine' Ea.fun_hyp ?l0 ?c0 ?k0; (case l0 => k_is); (case c0 => k_is); (case k0 => k_is))
      (case n_order => k_is)
      (case h_order => refine' Ea.fun_hyp ?l0 ?c0 ?k0; (case l0 => k_is); (case c0 => k_is); (case k0 => k_is))
      (case n_since => k_is)
      (case h_since => refine' Ea.fun_hyp ?l0 ?c0 ?k0; (case l0 => k_is); (case c0 => k_is); (case k0 => k_is))
      (case n_now => k_is)
      (case h_now => refine' Ea.fun_hyp ?l0 ?c0 ?k0; (case l0 => k_is); (case c0 => k_is); (case k0 => k_is))
      (case n_safe => k_is)
      (case h_safe => refine' Ea.fun_hyp ?l0 ?c0 ?k0; (case l0 => k_is); (case c0 => k_is); (case k0 => k_is))
      (case n_state => k_is)
      (case h_state => refine' Ea.fun_hyp ?l0 ?c0 ?k0; (case l0 => k_is); (case c0 => k_is); (case k0 => k_is))
      (case n_tell => k_is)
      (case h_tell => refine' Ea.fun_hyp ?l0 ?c0 ?k0; (case l0 => k_is); (case c0 => k_is); (case k0 => k_is))
      (case n_Line___init__ => k_is)
      (case i_Line___init__ => k_is)
      (case h_Line___init__ => refine' Ea.fun_hyp ?l0 ?c0 ?k0; (case l0 => k_is); (case c0 => k_is); (case k0 => k_is))
      (case n_Line_answer => k_is)
      (case i_Line_answer => k_is)
      (case h_Line_answer => refine' Ea.fun_hyp ?l0 ?c0 ?k0; (case l0 => k_is); (case c0 => k_is); (case k0 => k_is))
      (case n_Line_begin => k_is)
      (case i_Line_begin => k_is)
      (case h_Line_begin => refine' Ea.fun_hyp ?l0 ?c0 ?k0; (case l0 => k_is); (case c0 => k_is); (case k0 => k_is))
      (case n_answers => k_is)
      (case h_answers => refine' Ea.fun_hyp ?l0 ?c0 ?k0; (case l0 => k_is); (case c0 => k_is); (case k0 => k_is))
      (case n_IDLE => k_is)
      (case n_ASKING => k_is)
      (case n_TELLING => k_is)
      (case n_LEFT => k_is)
      (case n_ASKED => k_is)
      (case n_ANSWERED => k_is)
      (case n_TOLD => k_is)
      (case n_HEARD => k_is)
      (case n_NOTHING => k_is)
      (case n_SENT => k_is)
      (case n_COUNTED => k_is)
      (case n_TELLS => k_is)
      (case n_ENDED => k_is)
      (case n_NONE_SUCH => k_is)
      (case n_NOT_BEGUN => k_is)
      (case n_ALREADY => k_is)
      (case n_WRITTEN => k_is)
      (case n_NOT_AS_TOLD => k_is)
      (case n_TOO_MANY => k_is)
      (case n_THERE_IS_NONE => k_is)
      (case n_MOST_VALUE => k_is)
      (case n_MOST_OPERATIONS => k_is)
      (case n_MOST_UNDER_WAY => k_is)
      (case n_MOST_ALONE => k_is)
      (case n_WRITE => k_is)
      (case n_WITH_ONE_NUMBER_changes => k_is)
      (case s_WITH_ONE_NUMBER_changes => refine' Ea.dct_hyp ?l_WITH_ONE_NUMBER_changes ?z_WITH_ONE_NUMBER_changes ?v_WITH_ONE_NUMBER_changes ?m_WITH_ONE_NUMBER_changes; (case l_WITH_ONE_NUMBER_changes => k_is); (case z_WITH_ONE_NUMBER_changes => exact ⟨⟨_, rfl, rfl⟩, ⟨⟨_, rfl, rfl⟩, ⟨⟨_, rfl, rfl⟩, ⟨⟨_, rfl, rfl⟩, ⟨⟨_, rfl, rfl⟩, ⟨⟨_, rfl, rfl⟩, ⟨⟨_, rfl, rfl⟩, ⟨⟨_, rfl, rfl⟩, ⟨⟨_, rfl, rfl⟩, rfl⟩⟩⟩⟩⟩⟩⟩⟩⟩); (case v_WITH_ONE_NUMBER_changes => exact ⟨rfl, ⟨rfl, ⟨rfl, ⟨rfl, ⟨rfl, ⟨rfl, ⟨rfl, ⟨rfl, ⟨rfl, trivial⟩⟩⟩⟩⟩⟩⟩⟩⟩); (case m_WITH_ONE_NUMBER_changes => rfl))
      (case n_OPEN_END => k_is)
      (case n_FOUND => k_is)
      (case n_NOBODY_WRITES => k_is)
      (case n_ENDED_AHEAD => k_is)
      (case n_CLASH => k_is)
      (case n_WITH_ONE_NUMBER_telling => k_is)
      (case s_WITH_ONE_NUMBER_telling => refine' Ea.dct_hyp ?l_WITH_ONE_NUMBER_telling ?z_WITH_ONE_NUMBER_telling ?v_WITH_ONE_NUMBER_telling ?m_WITH_ONE_NUMBER_telling; (case l_WITH_ONE_NUMBER_telling => k_is); (case z_WITH_ONE_NUMBER_telling => exact ⟨⟨_, rfl, rfl⟩, ⟨⟨_, rfl, rfl⟩, ⟨⟨_, rfl, rfl⟩, ⟨⟨_, rfl, rfl⟩, rfl⟩⟩⟩⟩); (case v_WITH_ONE_NUMBER_telling => exact ⟨rfl, ⟨rfl, ⟨rfl, ⟨rfl, trivial⟩⟩⟩⟩); (case m_WITH_ONE_NUMBER_telling => rfl))
      (case n_WITH_NONE => k_is)
      (case s_WITH_NONE => refine' Ea.dct_hyp ?l_WITH_NONE ?z_WITH_NONE ?v_WITH_NONE ?m_WITH_NONE; (case l_WITH_NONE => k_is); (case z_WITH_NONE => exact ⟨⟨_, rfl, rfl⟩, ⟨⟨_, rfl, rfl⟩, ⟨⟨_, rfl, rfl⟩, ⟨⟨_, rfl, rfl⟩, ⟨⟨_, rfl, rfl⟩, ⟨⟨_, rfl, rfl⟩, ⟨⟨_, rfl, rfl⟩, rfl⟩⟩⟩⟩⟩⟩⟩); (case v_WITH_NONE => exact ⟨rfl, ⟨rfl, ⟨rfl, ⟨rfl, ⟨rfl, ⟨rfl, ⟨rfl, trivial⟩⟩⟩⟩⟩⟩⟩); (case m_WITH_NONE => rfl))
      (case n_BEGIN => k_is)
      (case n_LAST_CHANGE => k_is)
      (case n_MOST_MACHINES => k_is)
      (case n_MOST_CUSTOMERS => k_is)
      (case n_HOW_MANY => k_is)
      (case s_HOW_MANY => refine' Ea.sqT_mk ?l_HOW_MANY ?z_HOW_MANY ?v_HOW_MANY; (case l_HOW_MANY => k_is); (case z_HOW_MANY => exact Nat.le_of_ble_eq_true rfl); (case v_HOW_MANY => exact (.cons ⟨_, rfl⟩ (.cons ⟨_, rfl⟩ (.cons ⟨_, rfl⟩ (.cons ⟨_, rfl⟩ (.cons ⟨_, rfl⟩ (.cons ⟨_, rfl⟩ (.cons ⟨_, rfl⟩ (.cons ⟨_, rfl⟩ (.cons ⟨_, rfl⟩ (.cons ⟨_, rfl⟩ (.cons ⟨_, rfl⟩ (.cons ⟨_, rfl⟩ (.cons ⟨_, rfl⟩ (.cons ⟨_, rfl⟩ (.cons ⟨_, rfl⟩ (.cons ⟨_, rfl⟩ (.cons ⟨_, rfl⟩ (.cons ⟨_, rfl⟩ (.cons ⟨_, rfl⟩ (.cons ⟨_, rfl⟩ (.cons ⟨_, rfl⟩ (.cons ⟨_, rfl⟩ .nil))))))))))))))))))))))))
      (case b_len => k_is)
      (case b_range => k_is)
      (case b_any => k_is)
      (case b_enumerate => k_is)
      (case b_min => k_is)
      (case b_max => k_is)
      (case b_sorted => k_is)
      (case b_set => k_is)

  case S =>
    intro K H xs a hO hwi hask hx
    cases hx with
    | cons h1 h2 =>
      cases h2
      cases h1 with
      | lst hs ha =>
        have e := L2.ints_dw a.1 _ ha
        subst e
        obtain ⟨cs, e1, e2, _, e3, e4⟩ := Ea.asked_calls (show PySu153.answers_asked a.1 = true from hask)
        refine ⟨_, cs, rfl, hO, by rw [← e1]; exact hs, e2, e4, fun H' p hp => ?_⟩
        have e5 : PySu153.answers a.1 = Ea.run none cs := e3
        show L2.Dw K H' (.ref p) (.list ((PySu153.answers a.1).map WData.int))
        rw [e5]
        exact .lst (L2.SqL.of hp) (L2.dw_ints _)
#print axioms PySem.Challenge.cw_enoughasked_s01_answers_holds
