import PyProof.Rows.All
import Wide.All
import OpenK.AllK
import Wide.FinOn
import HandS.Base
import HandS.Call
import HandS.List
import HandS.Comp
import HandS.Ends
import HandS.Dict
import HandS.Iter
import HandS.Text
import HandS.Words
import HandS.TupAny
import HandS.Conv
import HandS.IsInst
import HandS.SetFor
import HandS.Gcd
import HandS.Flow
import HandS.Style
import HandS.Defaults
import PySem.Challenge.RW_letparts_k23_whole_counts_by_length_and
set_option Elab.async false
set_option linter.all false
set_option maxRecDepth 100000
/-! M0: plain data (D), objects at places (O), the store, and what it means that a heap bears them. -/
namespace MP
open PySem L2

/-- a value: a scalar, a tuple (by its items), a list that nobody changes, a mutable thing (by its place) -/
inductive D where
  | v (x : V)
  | tup (ds : List D)
  | rl (ds : List D)
  | loc (n : Nat)
  deriving Inhabited
@[reducible] def D.int (i : Int) : D := .v (.int i)
@[reducible] def D.bl (b : Bool) : D := .v (.bl b)
@[reducible] def D.str (x : Str) : D := .v (.str x)
@[reducible] def D.non : D := .v .non

/-- a mutable thing -/
inductive O where
  | lst (ds : List D)
  | dct (kvs : List (Key × D))
  deriving Inhabited

abbrev Store := List O
abbrev M (α : Type) := Store → Option (α × Store)
def M.ret {α : Type} (a : α) : M α := fun st => some (a, st)
def M.bind {α β : Type} (m : M α) (f : α → M β) : M β := fun st => match m st with
  | some (a, st') => f a st'
  | none => none
def M.fail {α : Type} : M α := fun _ => none
theorem M.bind_some {α β : Type} {m : M α} {f : α → M β} {st st' : Store} {b : β} (h : M.bind m f st = some (b, st')) :
    ∃ a st1, m st = some (a, st1) ∧ f a st1 = some (b, st') := by
  unfold M.bind at h
  split at h
  · rename_i a st1 e
    exact ⟨a, st1, e, h⟩
  · cases h
theorem M.ret_some {α : Type} {a b : α} {st st' : Store} (h : M.ret a st = some (b, st')) : a = b ∧ st = st' := by
  unfold M.ret at h
  cases h
  exact ⟨rfl, rfl⟩

def sc : V → Bool
  | .ref _ => false
  | _ => true

/-- a list that stays: locked, or of the module -/
def SqF (K : PySem.W.Frag) (H : Hp) (a : Addr) (xs : List V) : Prop := (∃ o, H a = some (.frz o (.lst xs))) ∨
    ∃ (o : Obj) (its : Array Value) (n : Nat), K.lookup a = some o ∧ o.cls = .type "list" ∧ o.dict = none ∧ o.data = .seq its n ∧ its.size ≤ sizeLine ∧ Vals xs its.toList
theorem SqF.sq {K : PySem.W.Frag} {H : Hp} {a : Addr} {xs : List V} (h : SqF K H a xs) : SqL K H a xs := by
  rcases h with ⟨o, h⟩ | h
  · exact .inl (.inr ⟨o, h⟩)
  · exact .inr h
section
variable (K : PySem.W.Frag) (ρ : List Addr) (H : Hp)
mutual
inductive Rep : V → D → Prop
  | v {x : V} : sc x = true → Rep x (.v x)
  | tup {a : Addr} {xs : List V} {ds : List D} : SqT K H a xs → RepL xs ds → Rep (.ref a) (.tup ds)
  | rl {a : Addr} {xs : List V} {ds : List D} : SqF K H a xs → RepL xs ds → Rep (.ref a) (.rl ds)
  | loc {n : Nat} {a : Addr} : ρ[n]? = some a → Rep (.ref a) (.loc n)
inductive RepL : List V → List D → Prop
  | nil : RepL [] []
  | cons {x : V} {d : D} {xs : List V} {ds : List D} : Rep x d → RepL xs ds → RepL (x :: xs) (d :: ds)
end
/-- what stands at a place -/
def OR (a : Addr) : O → Prop
  | .lst ds => ∃ xs, H a = some (.lst xs) ∧ RepL K ρ H xs ds
  | .dct kvs => ∃ kxs : List (Key × V), H a = some (.dK kxs) ∧ Paired (fun (p : Key × V) (q : Key × D) => p.1 = q.1 ∧ Rep K ρ H p.2 q.2) kxs kvs
structure RS (st : Store) : Prop where
  len : ρ.length = st.length
  inj : ∀ (i j : Nat) (a : Addr), ρ[i]? = some a → ρ[j]? = some a → i = j
  at' : ∀ (i : Nat) (a : Addr) (o : O), ρ[i]? = some a → st[i]? = some o → OR K ρ H a o
/-- an environment, slot by slot -/
abbrev Env := List (Option D)
structure ER (σ : St) (env : Env) : Prop where
  len : env.length = σ.length
  at' : ∀ (i : Nat) (d : D), env[i]? = some (some d) → ∃ v, σ[i]? = some (some v) ∧ Rep K ρ H v d
end
/-- later: the places so far stay, tuples and locked things stay -/
structure Le (ρ : List Addr) (H : Hp) (ρ' : List Addr) (H' : Hp) : Prop where
  pre : ∀ (i : Nat) (a : Addr), ρ[i]? = some a → ρ'[i]? = some a
  tup : ∀ a xs, H a = some (.tup xs) → H' a = some (.tup xs)
  frz : ∀ a o u, H a = some (.frz o u) → H' a = some (.frz o u)
theorem Le.refl {ρ : List Addr} {H : Hp} : Le ρ H ρ H := ⟨fun _ _ h => h, fun _ _ h => h, fun _ _ _ h => h⟩
theorem Le.trans {ρ ρ1 ρ2 : List Addr} {H H1 H2 : Hp} (a : Le ρ H ρ1 H1) (b : Le ρ1 H1 ρ2 H2) : Le ρ H ρ2 H2 :=
  ⟨fun i x h => b.pre i x (a.pre i x h), fun x xs h => b.tup x xs (a.tup x xs h), fun x o u h => b.frz x o u (a.frz x o u h)⟩

section
variable {K : PySem.W.Frag} {ρ ρ' : List Addr} {H H' : Hp}
theorem Rd.le {a : Addr} {xs : List V} (l : Le ρ H ρ' H') (h : Rd H a (.tup xs)) : Rd H' a (.tup xs) := by
  rcases h with h | ⟨o, h⟩
  · exact .inl (l.tup _ _ h)
  · exact .inr ⟨o, l.frz _ _ _ h⟩
theorem SqT.le {a : Addr} {xs : List V} (l : Le ρ H ρ' H') (h : SqT K H a xs) : SqT K H' a xs := by
  rcases h with h | h
  · exact .inl (Rd.le l h)
  · exact .inr h
theorem SqF.le {a : Addr} {xs : List V} (l : Le ρ H ρ' H') (h : SqF K H a xs) : SqF K H' a xs := by
  rcases h with ⟨o, h⟩ | h
  · exact .inl ⟨o, l.frz _ _ _ h⟩
  · exact .inr h
mutual
theorem Rep.le (l : Le ρ H ρ' H') : ∀ {v : V} {d : D}, Rep K ρ H v d → Rep K ρ' H' v d
  | _, _, .v h => .v h
  | _, _, .tup h t => .tup (SqT.le l h) (RepL.le l t)
  | _, _, .rl h t => .rl (SqF.le l h) (RepL.le l t)
  | _, _, .loc h => .loc (l.pre _ _ h)
theorem RepL.le (l : Le ρ H ρ' H') : ∀ {vs : List V} {ds : List D}, RepL K ρ H vs ds → RepL K ρ' H' vs ds
  | _, _, .nil => .nil
  | _, _, .cons h t => .cons (Rep.le l h) (RepL.le l t)
end
theorem ER.le {σ : St} {env : Env} (l : Le ρ H ρ' H') (e : ER K ρ H σ env) : ER K ρ' H' σ env :=
  ⟨e.len, fun i d h => let ⟨v, h1, h2⟩ := e.at' i d h; ⟨v, h1, h2.le l⟩⟩
theorem RepL.length : ∀ {vs : List V} {ds : List D}, RepL K ρ H vs ds → vs.length = ds.length
  | _, _, .nil => rfl
  | _, _, .cons _ t => by rw [List.length_cons, List.length_cons, RepL.length t]
theorem RepL.append : ∀ {vs ws : List V} {ds es : List D}, RepL K ρ H vs ds → RepL K ρ H ws es → RepL K ρ H (vs ++ ws) (ds ++ es)
  | _, _, _, _, .nil, s => s
  | _, _, _, _, .cons h t, s => .cons h (RepL.append t s)
theorem RepL.get : ∀ {vs : List V} {ds : List D} {i : Nat} {d : D}, RepL K ρ H vs ds → ds[i]? = some d → ∃ v, vs[i]? = some v ∧ Rep K ρ H v d
  | _, _, _, _, .nil, e => by simp at e
  | _, _, 0, _, .cons h _, e => by simp at e; subst e; exact ⟨_, rfl, h⟩
  | _, _, i + 1, d, .cons _ t, e => by
    obtain ⟨v, h1, h2⟩ := RepL.get (i := i) (d := d) t (by simpa using e)
    exact ⟨v, by simpa using h1, h2⟩
theorem RepL.get' : ∀ {vs : List V} {ds : List D} {i : Nat} {v : V}, RepL K ρ H vs ds → vs[i]? = some v → ∃ d, ds[i]? = some d ∧ Rep K ρ H v d
  | _, _, _, _, .nil, e => by simp at e
  | _, _, 0, _, .cons h _, e => by simp at e; subst e; exact ⟨_, rfl, h⟩
  | _, _, i + 1, d, .cons _ t, e => by
    obtain ⟨v, h1, h2⟩ := RepL.get' (i := i) (v := d) t (by simpa using e)
    exact ⟨v, by simpa using h1, h2⟩
theorem RepL.set {v : V} {d : D} (r : Rep K ρ H v d) : ∀ {vs : List V} {ds : List D} (i : Nat), RepL K ρ H vs ds → RepL K ρ H (vs.set i v) (ds.set i d)
  | _, _, _, .nil => .nil
  | _, _, 0, .cons _ t => .cons r t
  | _, _, i + 1, .cons h t => .cons h (RepL.set r i t)
theorem RepL.take : ∀ {vs : List V} {ds : List D} (n : Nat), RepL K ρ H vs ds → RepL K ρ H (vs.take n) (ds.take n)
  | _, _, 0, _ => .nil
  | _, _, _ + 1, .nil => .nil
  | _, _, n + 1, .cons h t => .cons h (RepL.take n t)
theorem RepL.drop : ∀ {vs : List V} {ds : List D} (n : Nat), RepL K ρ H vs ds → RepL K ρ H (vs.drop n) (ds.drop n)
  | _, _, 0, h => h
  | _, _, _ + 1, .nil => .nil
  | _, _, n + 1, .cons _ t => RepL.drop n t
theorem RepL.reverse : ∀ {vs : List V} {ds : List D}, RepL K ρ H vs ds → RepL K ρ H vs.reverse ds.reverse
  | _, _, .nil => .nil
  | _, _, .cons h t => by rw [List.reverse_cons, List.reverse_cons]; exact (RepL.reverse t).append (.cons h .nil)
theorem RepL.flat : ∀ {vs : List V} {ds : List D} (n : Nat), RepL K ρ H vs ds → RepL K ρ H (List.replicate n vs).flatten (List.replicate n ds).flatten
  | _, _, 0, _ => .nil
  | _, _, n + 1, h => by
    rw [List.replicate_succ, List.replicate_succ, List.flatten_cons, List.flatten_cons]
    exact h.append (RepL.flat n h)
theorem RepL.of_nil {vs : List V} (h : RepL K ρ H vs []) : vs = [] := by cases h; rfl
theorem RepL.of_cons {vs : List V} {d : D} {ds : List D} (h : RepL K ρ H vs (d :: ds)) : ∃ x xs, vs = x :: xs ∧ Rep K ρ H x d ∧ RepL K ρ H xs ds := by
  cases h with
  | cons a b => exact ⟨_, _, rfl, a, b⟩
/-- what a scalar is -/
theorem Rep.of_v {x y : V} (h : Rep K ρ H x (.v y)) : x = y ∧ sc y = true := by cases h with | v s => exact ⟨rfl, s⟩
theorem Rep.of_int {x : V} {i : Int} (h : Rep K ρ H x (.v (.int i))) : x = .int i := (Rep.of_v h).1
theorem Rep.of_tup {x : V} {ds : List D} (h : Rep K ρ H x (.tup ds)) : ∃ a xs, x = .ref a ∧ SqT K H a xs ∧ RepL K ρ H xs ds := by
  cases h with | tup a b => exact ⟨_, _, rfl, a, b⟩
theorem Rep.of_rl {x : V} {ds : List D} (h : Rep K ρ H x (.rl ds)) : ∃ a xs, x = .ref a ∧ SqF K H a xs ∧ RepL K ρ H xs ds := by
  cases h with | rl a b => exact ⟨_, _, rfl, a, b⟩
theorem Rep.of_loc {x : V} {n : Nat} (h : Rep K ρ H x (.loc n)) : ∃ a, x = .ref a ∧ ρ[n]? = some a := by
  cases h with | loc a => exact ⟨_, rfl, a⟩
theorem Rep.int {i : Int} : Rep K ρ H (.int i) (.v (.int i)) := .v rfl
theorem Rep.bl {b : Bool} : Rep K ρ H (.bl b) (.v (.bl b)) := .v rfl
theorem Rep.str {x : Str} : Rep K ρ H (.str x) (.v (.str x)) := .v rfl
theorem Rep.non : Rep K ρ H .non (.v .non) := .v rfl

theorem OR.le {a : Addr} {o : O} (l : Le ρ H ρ' H') (h : OR K ρ H a o) (ha : ∀ u, H a = some u → H' a = some u) : OR K ρ' H' a o := by
  cases o with
  | lst ds => obtain ⟨xs, h1, h2⟩ := h; exact ⟨xs, ha _ h1, h2.le l⟩
  | dct kvs => obtain ⟨kxs, h1, h2⟩ := h; exact ⟨kxs, ha _ h1, Paired.mapP h2 fun p q z => ⟨z.1, z.2.le l⟩⟩
theorem OR.some {a : Addr} {o : O} (h : OR K ρ H a o) : ∃ u, H a = some u ∧ ∀ xs, u ≠ .tup xs := by
  cases o with
  | lst ds => obtain ⟨xs, h1, h2⟩ := h; exact ⟨_, h1, fun _ z => nomatch z⟩
  | dct kvs => obtain ⟨kxs, h1, h2⟩ := h; exact ⟨_, h1, fun _ z => nomatch z⟩
theorem RS.lt {st : Store} (R : RS K ρ H st) {n : Nat} {a : Addr} (h : ρ[n]? = some a) : ∃ o, st[n]? = some o ∧ OR K ρ H a o := by
  have hn : n < st.length := by rw [← R.len]; exact (List.getElem?_eq_some_iff.mp h).1
  exact ⟨st[n], by simp [hn], R.at' n a _ h (by simp [hn])⟩
/-- a new thing that is no place: a tuple -/
theorem Le.new {p : Addr} {u : HO} (hp : H p = none) : Le ρ H ρ (upd H p u) :=
  ⟨fun _ _ h => h, fun a xs h => by rw [upd_ne (ne_of_none h hp)]; exact h, fun a o u h => by rw [upd_ne (ne_of_none h hp)]; exact h⟩
theorem RS.new {st : Store} (R : RS K ρ H st) {p : Addr} {u : HO} (hp : H p = none) : RS K ρ (upd H p u) st :=
  ⟨R.len, R.inj, fun i a o h1 h2 => (R.at' i a o h1 h2).le (Le.new hp) fun w hw => by rw [upd_ne (ne_of_none hw hp)]; exact hw⟩
/-- a new place -/
theorem Le.push {p : Addr} {u : HO} (hp : H p = none) : Le ρ H (ρ ++ [p]) (upd H p u) :=
  ⟨fun i a h => by rw [List.getElem?_append_left (List.getElem?_eq_some_iff.mp h).1]; exact h, (Le.new (ρ := ρ) hp).tup, (Le.new (ρ := ρ) hp).frz⟩
theorem RS.push {st : Store} (R : RS K ρ H st) {p : Addr} {u : HO} {o : O} (hp : H p = none) (ho : OR K (ρ ++ [p]) (upd H p u) p o) : RS K (ρ ++ [p]) (upd H p u) (st ++ [o]) := by
  have fresh : ∀ i a, ρ[i]? = some a → a ≠ p := fun i a h e => by
    obtain ⟨o', _, h2⟩ := R.lt h
    obtain ⟨w, h3, _⟩ := OR.some h2
    rw [e, hp] at h3
    cases h3
  have last : ∀ i a, (ρ ++ [p])[i]? = some a → (i < ρ.length ∧ ρ[i]? = some a) ∨ (i = ρ.length ∧ a = p) := fun i a h => by
    by_cases hi : i < ρ.length
    · rw [List.getElem?_append_left hi] at h
      exact .inl ⟨hi, h⟩
    · rw [List.getElem?_append_right (by omega)] at h
      have : i - ρ.length = 0 := by
        by_cases z : i - ρ.length = 0
        · exact z
        · rw [List.getElem?_eq_none (by simp; omega)] at h; cases h
      rw [this] at h
      simp at h
      exact .inr ⟨by omega, h.symm⟩
  refine ⟨by simp [R.len], fun i j a h1 h2 => ?_, fun i a o' h1 h2 => ?_⟩
  · rcases last i a h1 with ⟨q1, q2⟩ | ⟨q1, q2⟩
    · rcases last j a h2 with ⟨r1, r2⟩ | ⟨r1, r2⟩
      · exact R.inj i j a q2 r2
      · exact absurd r2 (fresh i a q2)
    · rcases last j a h2 with ⟨r1, r2⟩ | ⟨r1, r2⟩
      · exact absurd q2 (fresh j a r2)
      · omega
  · rcases last i a h1 with ⟨q1, q2⟩ | ⟨q1, q2⟩
    · rw [List.getElem?_append_left (by rw [← R.len]; exact q1)] at h2
      exact (R.at' i a o' q2 h2).le (Le.push hp) fun w hw => by rw [upd_ne (ne_of_none hw hp)]; exact hw
    · rw [q1, R.len, List.getElem?_append_right (Nat.le_refl _)] at h2
      simp at h2
      rw [← h2, q2]
      exact ho
theorem Rep.push {p : Addr} {u : HO} {st : Store} (R : RS K ρ H st) : Rep K (ρ ++ [p]) (upd H p u) (.ref p) (.loc st.length) := by
  refine .loc ?_
  rw [← R.len, List.getElem?_append_right (Nat.le_refl _)]
  simp
/-- a place written -/
theorem Le.write {n : Nat} {p : Addr} {u w : HO} (hw : H p = some w) (ht : ∀ xs, w ≠ .tup xs) (hf : ∀ o z, w ≠ .frz o z) : Le ρ H ρ (upd H p u) :=
  ⟨fun _ _ h => h, fun a xs h => by rw [upd_ne (ne_of h hw fun e => ht _ e.symm)]; exact h, fun a o z h => by rw [upd_ne (ne_of h hw fun e => hf _ _ e.symm)]; exact h⟩
theorem RS.write {st : Store} (R : RS K ρ H st) {n : Nat} {p : Addr} {u w : HO} {o : O} (hn : ρ[n]? = some p) (hw : H p = some w) (ht : ∀ xs, w ≠ .tup xs) (hf : ∀ o z, w ≠ .frz o z)
    (ho : OR K ρ (upd H p u) p o) : RS K ρ (upd H p u) (st.set n o) := by
  refine ⟨by simp [R.len], R.inj, fun i a o' h1 h2 => ?_⟩
  by_cases hi : n = i
  · subst hi
    rw [hn] at h1; cases h1
    have hl : n < st.length := by rw [← R.len]; exact (List.getElem?_eq_some_iff.mp hn).1
    rw [List.getElem?_set_self hl] at h2
    cases h2
    exact ho
  · rw [List.getElem?_set_ne hi] at h2
    have hne : a ≠ p := fun e => hi (R.inj n i p hn (by rw [← e]; exact h1))
    exact (R.at' i a o' h1 h2).le (Le.write (n := n) hw ht hf) fun z hz => by rw [upd_ne hne]; exact hz
end

/-! ### readings by functions -/
def TeM (K : PySem.W.Frag) (f : Env → M D) : TE := fun σ H Q => ∃ ρ st env d st', RS K ρ H st ∧ ER K ρ H σ env ∧ f env st = some (d, st') ∧
  ∀ ρ' H' v, Le ρ H ρ' H' → RS K ρ' H' st' → Rep K ρ' H' v d → Q v H'
def TbM (K : PySem.W.Frag) (f : Env → M Bool) : TT := fun σ H Q => ∃ ρ st env d st', RS K ρ H st ∧ ER K ρ H σ env ∧ f env st = some (d, st') ∧
  ∀ ρ' H', Le ρ H ρ' H' → RS K ρ' H' st' → Q d H'
def TaM (K : PySem.W.Frag) (f : Env → M (List D)) : TA := fun σ H Q => ∃ ρ st env ds st', RS K ρ H st ∧ ER K ρ H σ env ∧ f env st = some (ds, st') ∧
  ∀ ρ' H' vs, Le ρ H ρ' H' → RS K ρ' H' st' → RepL K ρ' H' vs ds → Q vs H'
def R2M (K : PySem.W.Frag) (g : D → D → M D) : R2 := fun x y H Q => ∃ ρ st dx dy d st', RS K ρ H st ∧ Rep K ρ H x dx ∧ Rep K ρ H y dy ∧ g dx dy st = some (d, st') ∧
  ∀ ρ' H' v, Le ρ H ρ' H' → RS K ρ' H' st' → Rep K ρ' H' v d → Q v H'
def R1M (K : PySem.W.Frag) (g : D → M D) : V → Hp → VK → Prop := fun x H Q => ∃ ρ st dx d st', RS K ρ H st ∧ Rep K ρ H x dx ∧ g dx st = some (d, st') ∧
  ∀ ρ' H' v, Le ρ H ρ' H' → RS K ρ' H' st' → Rep K ρ' H' v d → Q v H'
def RnM (K : PySem.W.Frag) (g : List D → M D) : List V → Hp → VK → Prop := fun xs H Q => ∃ ρ st ds d st', RS K ρ H st ∧ RepL K ρ H xs ds ∧ g ds st = some (d, st') ∧
  ∀ ρ' H' v, Le ρ H ρ' H' → RS K ρ' H' st' → Rep K ρ' H' v d → Q v H'
end MP

set_option Elab.async false
set_option linter.all false
set_option maxRecDepth 100000
/-! M1: the small language and what its words do. -/
namespace MP
open PySem L2

inductive B where
  | len | int | abs | divmod | list | tuple | all | any | sum | min | max | sorted | sortedR | repr | bool
  deriving DecidableEq, Inhabited
inductive Bf where
  | isqrt | gcd | lcm
  deriving DecidableEq, Inhabited
inductive Bm where
  | append | count
  deriving DecidableEq, Inhabited
inductive Cop where
  | eq | ne | lt | le | gt | ge | is | isn | in_ | nin
  deriving DecidableEq, Inhabited
inductive Aop where
  | add | sub | mul | fdiv | mod | pow | xor
  deriving DecidableEq, Inhabited

mutual
inductive IE where
  | var (i : Nat)
  | lit (x : V)
  | con (x : Str) (v : V)
  | bin (op : Aop) (a b : IE)
  | neg (a : IE)
  | cmp (op : Cop) (a b : IE)
  | chain (op op' : Cop) (a b c : IE)
  | and (a b : IE)
  | or (a b : IE)
  | not (a : IE)
  | ite (c a b : IE)
  | call (f : Str) (n : Nat) (as : IEs)
  | callk (f : Str) (n : Nat) (as : IEs) (ks : List Str) (pm : List Nat) (kas : IEs)
  | blt (b : B) (as : IEs)
  | isi (a : IE) (t : Str)
  | meth (m : Bm) (o : IE) (as : IEs)
  | tup (es : IEs)
  | lst (es : IEs)
  | idx (a i : IE)
  | slc (a : IE) (lo hi : IEs)
  | rev (a : IE)
  | comp (tg : List Nat) (it : II) (c : IEs) (e : IE)
  | calld (f : Str) (n : Nat) (as : IEs) (dv : List V)
  | mth (b : Bf) (as : IEs)
  | dead
inductive IEs where
  | nil
  | cons (e : IE) (es : IEs)
inductive II where
  | seq (e : IE)
  | range (as : IEs)
  | enum (e : IE)
end

inductive IG where
  | slots (l : List Nat)
  | sub (a i : IE)

mutual
inductive IS where
  | set (i : Nat) (e : IE)
  | setc (i : Nat) (tg : List Nat) (it : II) (c : IEs) (e : IE)
  | setT (l : List Nat) (e : IE)
  | setP (l : List Nat) (es : IEs)
  | setS (a i : IE) (e : IE)
  | setST (a i : IE) (j : Nat) (e : IE)
  | aug (i : Nat) (op : Aop) (e : IE)
  | augS (a i : IE) (op : Aop) (e : IE)
  | expr (e : IE)
  | ret (e : IE)
  | ite (c : IE) (t e : ISs)
  | while (c : IE) (b : ISs)
  | for (tg : List Nat) (it : II) (b : ISs)
  | raise
  | pass
  | cont
  | brk
inductive ISs where
  | nil
  | cons (s : IS) (ss : ISs)
end

/-! ### values -/
def M.opt {α β : Type} (o : Option α) (f : α → M β) : M β := match o with
  | some a => f a
  | none => M.fail
theorem M.opt_some {α β : Type} {o : Option α} {f : α → M β} {st st' : Store} {b : β} (h : M.opt o f st = some (b, st')) : ∃ a, o = some a ∧ f a st = some (b, st') := by
  cases o with
  | none => cases h
  | some a => exact ⟨a, rfl, h⟩
def M.when {β : Type} (c : Bool) (f : M β) : M β := match c with
  | true => f
  | false => M.fail
theorem M.when_some {β : Type} {c : Bool} {f : M β} {st st' : Store} {b : β} (h : M.when c f st = some (b, st')) : c = true ∧ f st = some (b, st') := by
  cases c with
  | false => cases h
  | true => exact ⟨rfl, h⟩
def isLoc : D → Bool
  | .loc _ => true
  | _ => false
def lstOf : O → Option (List D)
  | .lst ds => some ds
  | _ => none
theorem lstOf_some {o : O} {ds : List D} (h : lstOf o = some ds) : o = .lst ds := by
  cases o with
  | lst es => cases h; rfl
  | _ => cases h
def getO (n : Nat) : M O := fun st => match st[n]? with
  | some o => some (o, st)
  | none => none
def newO (o : O) : M D := fun st => some (.loc st.length, st ++ [o])
def setO (n : Nat) (o : O) : M Unit := fun st => if n < st.length then some ((), st.set n o) else none
/-- the items of a list or tuple -/
def itemsOf (d : D) : M (List D) := match d with
  | .tup ds => M.ret ds
  | .rl ds => M.ret ds
  | .loc n => fun st => match st[n]? with
    | some (.lst ds) => some (ds, st)
    | _ => none
  | _ => M.fail
def truth (d : D) : M Bool := match d with
  | .v .non => M.ret false
  | .v (.bl b) => M.ret b
  | .v (.int i) => M.ret (i != 0)
  | .tup ds => M.ret (!ds.isEmpty)
  | .loc n => fun st => match st[n]? with
    | some (.lst ds) => some (!ds.isEmpty, st)
    | some (.dct kvs) => some (!kvs.isEmpty, st)
    | none => none
  | _ => M.fail
/-- as data, n deep -/
def toPy : Nat → Store → D → Option PyData
  | 0, _, _ => none
  | n + 1, st, d => match d with
    | .v .non => some .none
    | .v (.bl b) => some (.bool b)
    | .v (.int i) => some (.int i)
    | .v (.str x) => some (.str x)
    | .tup ds => match ds.mapM (toPy n st) with
      | some ps => some (.tuple ps)
      | none => none
    | .loc a => match st[a]? with
      | some (.lst ds) => match ds.mapM (toPy n st) with
        | some ps => some (.list ps)
        | none => none
      | _ => none
    | _ => none
def pyOf (d : D) : M PyData := fun st => match toPy 9 st d with
  | some p => some (p, st)
  | none => none
def eqvM (x y : D) : M Bool := M.bind (pyOf x) fun p => M.bind (pyOf y) fun q =>
  if SeqAt.shaped p && SeqAt.shaped q then M.ret (PyData.eqv p q) else M.fail
def sizeOk (n : Nat) : Bool := decide (n ≤ sizeLine)
def mulOk (i j : Int) : Bool := decide (i.natAbs < 2 ^ 64) || decide (j.natAbs < 2 ^ 64)
def binM (op : Aop) (x y : D) : M D := match op, x, y with
  | .add, .v (.int i), .v (.int j) => M.ret (.int (i + j))
  | .sub, .v (.int i), .v (.int j) => M.ret (.int (i - j))
  | .mul, .v (.int i), .v (.int j) => if mulOk i j then M.ret (.int (i * j)) else M.fail
  | .fdiv, .v (.int i), .v (.int j) => if decide (0 < j) && decide (j < 1073741824) then M.ret (.int (i / j)) else M.fail
  | .mod, .v (.int i), .v (.int j) => if 0 < j then M.ret (.int (i % j)) else M.fail
  | .pow, .v (.int i), .v (.int j) => if decide (0 ≤ j) && decide (j ≤ 1000000) && decide (i.natAbs < 2 ^ 64) then M.ret (.int (i ^ j.toNat)) else M.fail
  | .add, .tup xs, .tup ys => if sizeOk (xs.length + ys.length) then M.ret (.tup (xs ++ ys)) else M.fail
  | .add, .loc a, .loc b => M.bind (getO a) fun oa => M.bind (getO b) fun ob => match oa, ob with
    | .lst xs, .lst ys => if sizeOk (xs.length + ys.length) then newO (.lst (xs ++ ys)) else M.fail
    | _, _ => M.fail
  | .mul, .loc a, .v (.int k) => M.bind (getO a) fun oa => match oa with
    | .lst xs => if decide (-(2 ^ 63) ≤ k) && decide (k < 2 ^ 63) && sizeOk (xs.length * k.toNat) then newO (.lst (List.replicate k.toNat xs).flatten) else M.fail
    | _ => M.fail
  | _, _, _ => M.fail
def iopM (op : Aop) (x y : D) : M D := match op, x, y with
  | .add, .v (.int i), .v (.int j) => M.ret (.int (i + j))
  | .sub, .v (.int i), .v (.int j) => M.ret (.int (i - j))
  | .mul, .v (.int i), .v (.int j) => if mulOk i j then M.ret (.int (i * j)) else M.fail
  | _, _, _ => M.fail
def negM (x : D) : M D := match x with
  | .v (.int i) => M.ret (.int (-i))
  | _ => M.fail
def cmpM (op : Cop) (x y : D) : M D := match op with
  | .eq => M.bind (eqvM x y) fun b => M.ret (.bl b)
  | .ne => M.bind (eqvM x y) fun b => M.ret (.bl (!b))
  | .lt => match x, y with | .v (.int i), .v (.int j) => M.ret (.bl (decide (i < j))) | _, _ => M.fail
  | .le => match x, y with | .v (.int i), .v (.int j) => M.ret (.bl (decide (i ≤ j))) | _, _ => M.fail
  | .gt => match x, y with | .v (.int i), .v (.int j) => M.ret (.bl (decide (j < i))) | _, _ => M.fail
  | .ge => match x, y with | .v (.int i), .v (.int j) => M.ret (.bl (decide (j ≤ i))) | _, _ => M.fail
  | _ => M.fail
def atN (n : Nat) (i : Int) : Option Nat := if 0 ≤ i then (if i < n then some i.toNat else none) else if -(n : Int) ≤ i then some (i + n).toNat else none
def idxM (x y : D) : M D := match y with
  | .v (.int i) => M.bind (itemsOf x) fun ds => M.opt (atN ds.length i) fun j => M.opt ds[j]? M.ret
  | _ => M.fail
def cutD (xs : List D) (lo hi : Option Int) : List D := (xs.drop (HT.sIx xs.length 0 lo)).take (HT.sIx xs.length xs.length hi - HT.sIx xs.length 0 lo)
def slcM (x : D) (lo hi : Option Int) : M D := match x with
  | .tup ds => M.ret (.tup (cutD ds lo hi))
  | .rl ds => newO (.lst (cutD ds lo hi))
  | .loc n => M.bind (itemsOf (.loc n)) fun ds => newO (.lst (cutD ds lo hi))
  | _ => M.fail
def revM (x : D) : M D := match x with
  | .tup ds => M.ret (.tup ds.reverse)
  | .loc n => M.bind (itemsOf (.loc n)) fun ds => newO (.lst ds.reverse)
  | _ => M.fail
def intsOf : List D → Option (List Int)
  | [] => some []
  | .v (.int i) :: r => match intsOf r with
    | some is => some (i :: is)
    | none => none
  | _ :: _ => none
def intOf : D → Option Int
  | .v (.int i) => some i
  | _ => none
def boolsOf : List D → Option (List Bool)
  | [] => some []
  | .v (.bl i) :: r => match boolsOf r with
    | some is => some (i :: is)
    | none => none
  | _ :: _ => none
def isiO (o : O) (t : Str) : Bool := match o with
  | .lst _ => t == "list"
  | .dct _ => t == "dict"
def isiM (x : D) (t : Str) : M D := match x with
  | .v (.int _) => M.ret (.bl (t == "int"))
  | .v (.bl _) => M.ret (.bl (t == "int" || t == "bool"))
  | .v (.str _) => M.ret (.bl (t == "str"))
  | .v .non => M.ret (.bl false)
  | .tup _ => M.ret (.bl (t == "tuple"))
  | .loc n => M.bind (getO n) fun o => M.ret (.bl (isiO o t))
  | _ => M.fail
def bltM (b : B) (as : List D) : M D := match b, as with
  | .len, [x] => M.bind (itemsOf x) fun ds => M.ret (.int ds.length)
  | .int, [.v (.int i)] => M.ret (.int i)
  | .abs, [.v (.int i)] => M.ret (.int (if i < 0 then -i else i))
  | .divmod, [.v (.int i), .v (.int j)] => if decide (0 < j) && decide (j < 1073741824) then M.ret (.tup [.int (i / j), .int (i % j)]) else M.fail
  | .list, [x] => M.bind (itemsOf x) fun ds => newO (.lst ds)
  | .tuple, [x] => M.bind (itemsOf x) fun ds => M.ret (.tup ds)
  | .all, [x] => M.bind (itemsOf x) fun ds => M.when (isLoc x) (M.opt (boolsOf ds) fun bs => M.ret (.bl (bs.all id)))
  | .any, [x] => M.bind (itemsOf x) fun ds => M.when (isLoc x) (M.opt (boolsOf ds) fun bs => M.ret (.bl (bs.any id)))
  | .sum, [x] => M.bind (itemsOf x) fun ds => M.opt (intsOf ds) fun is => M.ret (.int is.sum)
  | .min, [.v (.int i), .v (.int j)] => M.ret (.int (if j < i then j else i))
  | .max, [.v (.int i), .v (.int j)] => M.ret (.int (if j > i then j else i))
  | .min, [x] => M.bind (itemsOf x) fun ds => M.when (isLoc x) (M.opt (intsOf ds) fun is => M.opt is.min? fun m => M.ret (.int m))
  | .max, [x] => M.bind (itemsOf x) fun ds => M.when (isLoc x) (M.opt (intsOf ds) fun is => M.opt is.max? fun m => M.ret (.int m))
  | .repr, [x] => M.bind (pyOf x) fun p => if p.showable && sizeOk p.shown.length && !p.hasDict && decide (p.depth ≤ 64) then M.ret (.str p.shown) else M.fail
  | _, _ => M.fail
def mthM (b : Bf) (as : List D) : M D := match b, as with
  | .isqrt, [.v (.int i)] => M.when (decide (0 ≤ i) && decide (i < 2 ^ 64)) (M.ret (.int ((Float64.isqrt i.toNat : Nat) : Int)))
  | .gcd, [.v (.int i), .v (.int j)] => M.ret (.int ((Nat.gcd i.natAbs j.natAbs : Nat) : Int))
  | .lcm, [.v (.int i), .v (.int j)] => M.when (decide (i.natAbs < 2 ^ 64) && decide (j.natAbs < 2 ^ 64) && decide (((((Nat.lcm 1 i.natAbs).lcm j.natAbs : Nat) : Int)).natAbs.log2 < bitsLine)) (M.ret (.int (((Nat.lcm 1 i.natAbs).lcm j.natAbs : Nat) : Int)))
  | _, _ => M.fail
def appendM (o : D) (as : List D) : M D := match o, as with
  | .loc n, [x] => M.bind (getO n) fun ob => M.opt (lstOf ob) fun ds => M.when (decide (ds.length < sizeLine)) (M.bind (setO n (.lst (ds ++ [x]))) fun _ => M.ret .non)
  | _, _ => M.fail
def countM (o : D) (as : List D) : M D := match o, as with
  | .loc n, [.v (.int k)] => M.bind (itemsOf (.loc n)) fun ds => M.opt (intsOf ds) fun is => M.ret (.int (is.count k : Nat))
  | _, _ => M.fail
/-- a list stands there -/
def listQ (d : D) : M Unit := M.bind (itemsOf d) fun _ => M.when (isLoc d) (M.ret ())
def methM (m : Bm) (o : D) (as : List D) : M D := match m with
  | .append => appendM o as
  | .count => countM o as
def setItemM (o i v : D) : M Unit := match o, i with
  | .loc n, .v (.int k) => M.bind (getO n) fun ob => M.opt (lstOf ob) fun ds => M.opt (atN ds.length k) fun j => setO n (.lst (ds.set j v))
  | _, _ => M.fail

/-! ### walks -/
inductive Src where
  | loc (n : Nat)
  | fix (ds : List D)
  | enum (d : Src)
  | rng (lo : Int) (step : Int) (n : Nat)
def Src.at : Src → Nat → Store → Option (Option D)
  | .loc n, i, st => match st[n]? with
    | some (.lst ds) => some ds[i]?
    | _ => none
  | .fix ds, i, _ => some ds[i]?
  | .enum s, i, st => match Src.at s i st with
    | some (some d) => some (some (.tup [.int i, d]))
    | some none => some none
    | none => none
  | .rng lo step n, i, _ => if i < n then some (some (.int (lo + (i : Int) * step))) else some none
def srcOf (d : D) : M Src := match d with
  | .tup ds => M.ret (.fix ds)
  | .rl ds => M.ret (.fix ds)
  | .loc n => M.bind (listQ (.loc n)) fun _ => M.ret (.loc n)
  | _ => M.fail
def small62 (i : Int) : Bool := decide (-(2 ^ 62) ≤ i) && decide (i < 2 ^ 62)
def rng3 (i j c : Int) : Bool := decide (c ≠ 0) && decide (c.natAbs < 1073741824) && Builtin.Range.small i j c && decide (Builtin.Range.rangeSize i j c = ((Builtin.Range.rangeSize i j c).toNat : Int))
def rngM (as : List D) : M Src := match as with
  | [.v (.int j)] => M.when (small62 j) (M.ret (.rng 0 1 j.toNat))
  | [.v (.int i), .v (.int j)] => M.when (small62 i && small62 j) (M.ret (.rng i 1 (j - i).toNat))
  | [.v (.int i), .v (.int j), .v (.int c)] => M.when (rng3 i j c) (M.ret (.rng i c (Builtin.Range.rangeSize i j c).toNat))
  | _ => M.fail

def rngAs (n : Nat) (as : List D) : M Src := M.when (decide (as.length = n)) (rngM as)
def IEs.len : IEs → Nat
  | .nil => 0
  | .cons _ es => es.len + 1
/-- slots filled in order -/
def putAll : List Nat → List D → Env → Option Env
  | [], [], env => some env
  | i :: is, d :: ds, env => putAll is ds (env.set i (some d))
  | _, _, _ => none
def tupOf : D → Option (List D)
  | .tup ds => some ds
  | _ => none
theorem tupOf_some {d : D} {ds : List D} (h : tupOf d = some ds) : d = .tup ds := by
  cases d with
  | tup es => cases h; rfl
  | _ => cases h
def pairOf : D → Option (D × D)
  | .tup [a, b] => some (a, b)
  | _ => none
theorem pairOf_some {d : D} {q : D × D} (h : pairOf d = some q) : d = .tup [q.1, q.2] := by
  unfold pairOf at h
  split at h
  · cases h; rfl
  · cases h
def putM (l : List Nat) (d : D) (env : Env) : M Env := M.opt (tupOf d) fun ds => M.opt (putAll l ds env) M.ret
def putT (l : List Nat) (d : D) (env : Env) : M Env := match l with
  | [i] => M.ret (env.set i (some d))
  | l => putM l d env
def wipeE (env : Env) : List Nat → Env
  | [] => env
  | v :: vs => (wipeE env vs).set v none

/-- the loop of a comprehension: n the new list's place -/
def lcLoop (src : Src) (n : Nat) (turn : D → M (Option D)) : Nat → Nat → M Unit
  | 0, _ => M.fail
  | f + 1, i => fun st => match src.at i st with
    | none => none
    | some none => some ((), st)
    | some (some d) => match turn d st with
      | none => none
      | some (none, st1) => lcLoop src n turn f (i + 1) st1
      | some (some y, st1) => match st1[n]? with
        | some (.lst acc) => if acc.length < sizeLine then lcLoop src n turn f (i + 1) (st1.set n (.lst (acc ++ [y]))) else none
        | _ => none
inductive Fl where
  | next | brk | cont
  | ret (d : D)
def forLoop (src : Src) (turn : D → Env → M (Fl × Env)) : Nat → Nat → Env → M (Fl × Env)
  | 0, _, _ => M.fail
  | f + 1, i, env => fun st => match src.at i st with
    | none => none
    | some none => some ((.next, env), st)
    | some (some d) => match turn d env st with
      | none => none
      | some ((.next, env1), st1) => forLoop src turn f (i + 1) env1 st1
      | some ((.cont, env1), st1) => forLoop src turn f (i + 1) env1 st1
      | some ((.brk, env1), st1) => some ((.next, env1), st1)
      | some ((.ret d, env1), st1) => some ((.ret d, env1), st1)
def whileLoop (test : Env → M Bool) (body : Env → M (Fl × Env)) : Nat → Env → M (Fl × Env)
  | 0, _ => M.fail
  | f + 1, env => fun st => match test env st with
    | none => none
    | some (false, st1) => some ((.next, env), st1)
    | some (true, st1) => match body env st1 with
      | none => none
      | some ((.next, env1), st2) => whileLoop test body f env1 st2
      | some ((.cont, env1), st2) => whileLoop test body f env1 st2
      | some ((.brk, env1), st2) => some ((.next, env1), st2)
      | some ((.ret d, env1), st2) => some ((.ret d, env1), st2)
def turns : Nat := 33554432

def getS (env : Env) (i : Nat) : Option D := match env[i]? with
  | some (some d) => some d
  | _ => none
theorem getS_some {env : Env} {i : Nat} {d : D} (h : getS env i = some d) : env[i]? = some (some d) := by
  unfold getS at h
  split at h
  · rename_i e; cases h; exact e
  · cases h
abbrev Gam := Str → List D → M D
mutual
def IE.den (Γ : Gam) : IE → Env → M D
  | .var i, env => M.opt (getS env i) M.ret
  | .lit x, _ => if sc x then M.ret (.v x) else M.fail
  | .con _ v, _ => if sc v then M.ret (.v v) else M.fail
  | .bin op a b, env => M.bind (a.den Γ env) fun x => M.bind (b.den Γ env) fun y => binM op x y
  | .neg a, env => M.bind (a.den Γ env) negM
  | .cmp op a b, env => M.bind (a.den Γ env) fun x => M.bind (b.den Γ env) fun y => cmpM op x y
  | .chain op op' a b c, env => M.bind (a.den Γ env) fun x => M.bind (b.den Γ env) fun y => M.bind (cmpM op x y) fun t => match t with
    | .v (.bl true) => M.bind (c.den Γ env) fun z => cmpM op' y z
    | .v (.bl false) => M.ret (.bl false)
    | _ => M.fail
  | .and a b, env => M.bind (a.den Γ env) fun x => M.bind (truth x) fun t => if t then b.den Γ env else M.ret x
  | .or a b, env => M.bind (a.den Γ env) fun x => M.bind (truth x) fun t => if t then M.ret x else b.den Γ env
  | .not a, env => M.bind (a.den Γ env) fun x => M.bind (truth x) fun t => M.ret (.bl (!t))
  | .ite c a b, env => M.bind (c.den Γ env) fun x => M.bind (truth x) fun t => if t then a.den Γ env else b.den Γ env
  | .call f n as, env => M.bind (as.den Γ env) fun ds => M.when (decide (ds.length = n)) (Γ f ds)
  | .callk f n as ks pm kas, env => M.bind (as.den Γ env) fun ds => M.when (decide (ds.length = as.len)) (M.bind (kas.den Γ env) fun zs => M.when (decide (zs.length = ks.length)) (M.when (decide ((ds ++ pm.filterMap (zs[·]?)).length = n)) (Γ f (ds ++ pm.filterMap (zs[·]?)))))
  | .calld f n as dv, env => M.bind (as.den Γ env) fun ds => M.when (decide (ds.length + dv.length = n)) (Γ f (ds ++ dv.map D.v))
  | .dead, _ => M.fail
  | .mth b as, env => M.bind (as.den Γ env) fun ds => mthM b ds
  | .blt b as, env => M.bind (as.den Γ env) fun ds => bltM b ds
  | .isi a t, env => M.bind (a.den Γ env) fun x => isiM x t
  | .meth m o as, env => M.bind (o.den Γ env) fun x => M.bind (listQ x) fun _ => M.bind (as.den Γ env) fun ds => methM m x ds
  | .tup es, env => M.bind (es.den Γ env) fun ds => if sizeOk ds.length then M.ret (.tup ds) else M.fail
  | .lst es, env => M.bind (es.den Γ env) fun ds => if sizeOk ds.length then newO (.lst ds) else M.fail
  | .idx a i, env => M.bind (a.den Γ env) fun x => M.bind (i.den Γ env) fun y => idxM x y
  | .slc a lo hi, env => M.bind (a.den Γ env) fun x => M.bind (lo.part Γ env) fun l => M.bind (hi.part Γ env) fun h => slcM x l h
  | .rev a, env => M.bind (a.den Γ env) revM
  | .comp tg it c e, env => M.bind (it.den Γ env) fun src => M.bind (newO (.lst [])) fun l => match l with
    | .loc n => M.bind (lcLoop src n (fun d => M.bind (putT tg d (wipeE env tg)) fun env1 => M.bind (c.test Γ env1) fun t => if t then M.bind (e.den Γ env1) fun y => M.ret (some y) else M.ret none) turns 0) fun _ => M.ret (.loc n)
    | _ => M.fail
def IEs.den (Γ : Gam) : IEs → Env → M (List D)
  | .nil, _ => M.ret []
  | .cons e es, env => M.bind (e.den Γ env) fun x => M.bind (es.den Γ env) fun xs => M.ret (x :: xs)
def IEs.test (Γ : Gam) : IEs → Env → M Bool
  | .nil, _ => M.ret true
  | .cons e .nil, env => M.bind (e.den Γ env) truth
  | .cons _ (.cons _ _), _ => M.fail
def IEs.part (Γ : Gam) : IEs → Env → M (Option Int)
  | .nil, _ => M.ret none
  | .cons e .nil, env => M.bind (e.den Γ env) fun d => M.opt (intOf d) fun i => M.ret (some i)
  | .cons _ (.cons _ _), _ => M.fail
def II.den (Γ : Gam) : II → Env → M Src
  | .seq e, env => M.bind (e.den Γ env) srcOf
  | .range as, env => M.bind (as.den Γ env) (rngAs as.len)
  | .enum e, env => M.bind (e.den Γ env) fun d => M.bind (srcOf d) fun s => M.ret (.enum s)
end
def cellI (k : Int) : Unit := ()

mutual
def IS.den (Γ : Gam) : IS → Env → M (Fl × Env)
  | .set i e, env => M.bind (e.den Γ env) fun d => M.ret (.next, env.set i (some d))
  | .setc i tg it c e, env => M.bind ((IE.comp tg it c e).den Γ env) fun d => M.ret (.next, env.set i (some d))
  | .setT l e, env => M.bind (e.den Γ env) fun d => M.bind (putM l d env) fun env1 => M.ret (.next, env1)
  | .setP l es, env => M.bind (es.den Γ env) fun ds => M.when (sizeOk ds.length) (M.opt (putAll l ds env) fun env1 => M.ret (.next, env1))
  | .setS a i e, env => M.bind (e.den Γ env) fun d => M.bind (a.den Γ env) fun x => M.bind (i.den Γ env) fun y => M.bind (setItemM x y d) fun _ => M.ret (.next, env)
  | .setST a i j e, env => M.bind (e.den Γ env) fun d => M.opt (pairOf d) fun q => M.bind (a.den Γ env) fun x => M.bind (i.den Γ env) fun y => M.bind (setItemM x y q.1) fun _ => M.ret (.next, env.set j (some q.2))
  | .aug i op e, env => M.opt (getS env i) fun x => M.bind (e.den Γ env) fun y => M.bind (iopM op x y) fun z => M.ret (.next, env.set i (some z))
  | .augS a i op e, env => M.bind (a.den Γ env) fun x => M.bind (i.den Γ env) fun y => M.bind (idxM x y) fun z => M.bind (e.den Γ env) fun w => M.bind (iopM op z w) fun u => M.bind (setItemM x y u) fun _ => M.ret (.next, env)
  | .expr e, env => M.bind (e.den Γ env) fun _ => M.ret (.next, env)
  | .ret e, env => M.bind (e.den Γ env) fun d => M.ret (.ret d, env)
  | .ite c t e, env => M.bind (c.den Γ env) fun x => M.bind (truth x) fun b => if b then t.den Γ env else e.den Γ env
  | .while c b, env => whileLoop (fun env => M.bind (c.den Γ env) truth) (fun env => b.den Γ env) turns env
  | .for tg it b, env => M.bind (it.den Γ env) fun src => forLoop src (fun d env => M.bind (putT tg d env) fun env1 => b.den Γ env1) turns 0 env
  | .raise, _ => M.fail
  | .pass, env => M.ret (.next, env)
  | .cont, env => M.ret (.cont, env)
  | .brk, env => M.ret (.brk, env)
def ISs.den (Γ : Gam) : ISs → Env → M (Fl × Env)
  | .nil, env => M.ret (.next, env)
  | .cons s ss, env => M.bind (s.den Γ env) fun r => match r with
    | (.next, env1) => ss.den Γ env1
    | r => M.ret r
end

/-- a def: its slots (parameters first), how many are parameters, its body -/
structure Fn where
  name : Str
  ps : List Str
  slots : List Str
  body : ISs
def startE (n : Nat) (ds : List D) : Env := ds.map some ++ List.replicate (n - ds.length) none
def Fn.run (F : Fn) (Γ : Gam) (ds : List D) : M D := fun st =>
  if ds.length = F.ps.length then match F.body.den Γ (startE F.slots.length ds) st with
    | some ((.ret d, _), st') => some (d, st')
    | some ((.next, _), st') => some (.non, st')
    | _ => none
  else none
/-- calls, k deep -/
def callN (T : List Fn) : Nat → Gam
  | 0 => fun _ _ => M.fail
  | k + 1 => fun f ds => match T.find? (fun F => F.name == f) with
    | some F => F.run (callN T k) ds
    | none => M.fail
end MP

set_option Elab.async false
set_option linter.all false
set_option maxRecDepth 100000
/-! M2: the operations on values are the model's. -/
namespace MP
open PySem L2 PyProof.Rows

def Aop.op : Aop → Operator
  | .add => .Add | .sub => .Sub | .mul => .Mult | .fdiv => .FloorDiv | .mod => .Mod | .pow => .Pow | .xor => .BitXor
def Cop.op : Cop → CmpOp
  | .eq => .Eq | .ne => .NotEq | .lt => .Lt | .le => .LtE | .gt => .Gt | .ge => .GtE | .is => .Is | .isn => .IsNot | .in_ => .In | .nin => .NotIn

section
variable {K : PySem.W.Frag} {ρ : List Addr} {H : Hp} {st st' : Store} {d : D}
theorem getO_some {n : Nat} {o : O} (h : getO n st = some (o, st')) : st[n]? = some o ∧ st' = st := by
  unfold getO at h
  split at h
  · cases h; exact ⟨by assumption, rfl⟩
  · cases h
theorem newO_some {o : O} (h : newO o st = some (d, st')) : d = .loc st.length ∧ st' = st ++ [o] := by
  unfold newO at h
  cases h
  exact ⟨rfl, rfl⟩
theorem setO_some {n : Nat} {o : O} {u : Unit} (h : setO n o st = some (u, st')) : n < st.length ∧ st' = st.set n o := by
  unfold setO at h
  split at h
  · cases h; exact ⟨by assumption, rfl⟩
  · cases h
theorem fail_some {α : Type} {a : α} {P : Prop} (h : M.fail st = some (a, st')) : P := by cases h
/-- a new list is laid -/
theorem lay_lst {Q : VK} {xs : List V} {ds : List D} (R : RS K ρ H st) (hx : RepL K ρ H xs ds) (k : ∀ ρ' H' v, Le ρ H ρ' H' → RS K ρ' H' (st ++ [.lst ds]) → Rep K ρ' H' v (.loc st.length) → Q v H') :
    ∀ p, H p = none → Q (.ref p) (upd H p (.lst xs)) := fun p hp =>
  k (ρ ++ [p]) _ _ (Le.push hp) (R.push hp ⟨xs, upd_same, hx.le (Le.push hp)⟩) (Rep.push R)
/-- a new tuple is laid -/
theorem lay_tup {Q : VK} {xs : List V} {ds : List D} (R : RS K ρ H st) (hx : RepL K ρ H xs ds) (k : ∀ ρ' H' v, Le ρ H ρ' H' → RS K ρ' H' st → Rep K ρ' H' v (.tup ds) → Q v H') :
    ∀ p, H p = none → Q (.ref p) (upd H p (.tup xs)) := fun p hp =>
  k ρ _ _ (Le.new hp) (R.new hp) (.tup (SqT.of upd_same) (hx.le (Le.new hp)))
/-- what the items of a list or tuple are -/
theorem items_seq {x : V} {dx : D} {ds : List D} (R : RS K ρ H st) (r : Rep K ρ H x dx) (h : itemsOf dx st = some (ds, st')) :
    st' = st ∧ ∃ a xs, x = .ref a ∧ (SqL K H a xs ∨ SqT K H a xs) ∧ RepL K ρ H xs ds ∧ ((∃ n, dx = .loc n) → SqL K H a xs) ∧ ((∃ es, dx = .tup es) → SqT K H a xs) := by
  unfold itemsOf at h
  split at h
  · rename_i es
    obtain ⟨rfl, rfl⟩ := M.ret_some h
    obtain ⟨a, xs, rfl, h1, h2⟩ := r.of_tup
    exact ⟨rfl, a, xs, rfl, .inr h1, h2, (fun ⟨_, z⟩ => nomatch z), fun _ => h1⟩
  · rename_i es
    obtain ⟨rfl, rfl⟩ := M.ret_some h
    obtain ⟨a, xs, rfl, h1, h2⟩ := r.of_rl
    exact ⟨rfl, a, xs, rfl, .inl h1.sq, h2, (fun ⟨_, z⟩ => nomatch z), (fun ⟨_, z⟩ => nomatch z)⟩
  · rename_i n
    obtain ⟨a, rfl, hn⟩ := r.of_loc
    obtain ⟨o, ho, hr⟩ := R.lt hn
    rw [ho] at h
    cases o with
    | lst es =>
      cases h
      obtain ⟨xs, h1, h2⟩ := hr
      exact ⟨rfl, a, xs, rfl, .inl (SqL.of h1), h2, fun _ => SqL.of h1, (fun ⟨_, z⟩ => nomatch z)⟩
    | dct kvs => cases h
  · cases h
theorem getL {n : Nat} {x : V} {ds : List D} (R : RS K ρ H st) (r : Rep K ρ H x (.loc n)) (h : st[n]? = some (.lst ds)) : ∃ a xs, x = .ref a ∧ ρ[n]? = some a ∧ H a = some (.lst xs) ∧ RepL K ρ H xs ds := by
  obtain ⟨a, rfl, hn⟩ := r.of_loc
  obtain ⟨o, ho, hr⟩ := R.lt hn
  rw [ho] at h
  cases h
  obtain ⟨xs, h1, h2⟩ := hr
  exact ⟨a, xs, rfl, hn, h1, h2⟩
theorem mulOk_ok {i j : Int} (h : mulOk i j = true) : CMul i j := by
  unfold mulOk at h
  simp only [Bool.or_eq_true, decide_eq_true_eq] at h
  rcases h with h | h
  · left; omega
  · right; omega
theorem line_nat {n : Nat} (h : sizeOk n = true) : n ≤ sizeLine := of_decide_eq_true h

variable {X : Cx}
theorem op_binM (op : Aop) : OpR X (binaryOp op.op) (R2M X.K (binM op)) := by
  rintro pins s σ H x y v u Q I rx ry ⟨ρ, st, dx, dy, d, st', R, rpx, rpy, e, k⟩
  unfold binM at e
  split at e
  · obtain ⟨rfl, rfl⟩ := M.ret_some e
    obtain rfl := rpx.of_int; obtain rfl := rpy.of_int
    exact op_add pins s σ H _ _ v u Q I rx ry ⟨_, _, rfl, rfl, k ρ H _ .refl R .int⟩
  · obtain ⟨rfl, rfl⟩ := M.ret_some e
    obtain rfl := rpx.of_int; obtain rfl := rpy.of_int
    exact op_sub pins s σ H _ _ v u Q I rx ry ⟨_, _, rfl, rfl, k ρ H _ .refl R .int⟩
  · split at e
    · rename_i hc
      obtain ⟨rfl, rfl⟩ := M.ret_some e
      obtain rfl := rpx.of_int; obtain rfl := rpy.of_int
      exact op_mul pins s σ H _ _ v u Q I rx ry ⟨_, _, rfl, rfl, mulOk_ok hc, k ρ H _ .refl R .int⟩
    · cases e
  · split at e
    · rename_i hc
      obtain ⟨rfl, rfl⟩ := M.ret_some e
      obtain rfl := rpx.of_int; obtain rfl := rpy.of_int
      simp only [Bool.and_eq_true, decide_eq_true_eq] at hc
      exact op_fdiv pins s σ H _ _ v u Q I rx ry ⟨_, _, rfl, rfl, hc, k ρ H _ .refl R .int⟩
    · cases e
  · split at e
    · rename_i hc
      obtain ⟨rfl, rfl⟩ := M.ret_some e
      obtain rfl := rpx.of_int; obtain rfl := rpy.of_int
      exact op_mod pins s σ H _ _ v u Q I rx ry ⟨_, _, rfl, rfl, hc, k ρ H _ .refl R .int⟩
    · cases e
  · split at e
    · rename_i hc
      obtain ⟨rfl, rfl⟩ := M.ret_some e
      obtain rfl := rpx.of_int; obtain rfl := rpy.of_int
      simp only [Bool.and_eq_true, decide_eq_true_eq] at hc
      exact op_pow pins s σ H _ _ v u Q I rx ry ⟨_, _, rfl, rfl, ⟨hc.1.1, hc.1.2, hc.2⟩, k ρ H _ .refl R .int⟩
    · cases e
  · split at e
    · rename_i xs ys hc
      obtain ⟨rfl, rfl⟩ := M.ret_some e
      obtain ⟨a, vs, rfl, h1, h2⟩ := rpx.of_tup
      obtain ⟨b, ws, rfl, h3, h4⟩ := rpy.of_tup
      refine op_catA pins s σ H _ _ v u Q I rx ry ⟨a, b, vs, ws, rfl, rfl, h1, h3, by rw [h2.length, h4.length]; exact line_nat hc, fun z => ?_, fun _ z => ?_, fun _ _ => lay_tup R (h2.append h4) k⟩
      · subst z
        cases h2
        exact k ρ H _ .refl R (.tup h3 h4)
      · subst z
        cases h4
        exact k ρ H _ .refl R (.tup h1 (by rw [List.append_nil]; exact h2))
    · cases e
  · obtain ⟨oa, st1, e1, e3⟩ := M.bind_some e
    obtain ⟨ob, st2, e2, e4⟩ := M.bind_some e3
    obtain ⟨g1, rfl⟩ := getO_some e1
    obtain ⟨g2, rfl⟩ := getO_some e2
    clear e e3
    split at e4
    · split at e4
      · rename_i hc
        obtain ⟨rfl, rfl⟩ := newO_some e4
        obtain ⟨a, vs, rfl, _, h1, h2⟩ := getL R rpx g1
        obtain ⟨b, ws, rfl, _, h3, h4⟩ := getL R rpy g2
        exact op_cat pins s σ H _ _ v u Q I rx ry ⟨a, b, vs, ws, rfl, rfl, h1, h3, by rw [h2.length, h4.length]; exact line_nat hc, lay_lst R (h2.append h4) k⟩
      · cases e4
    · cases e4
  · obtain ⟨oa, st1, e1, e3⟩ := M.bind_some e
    obtain ⟨g1, rfl⟩ := getO_some e1
    clear e
    split at e3
    · split at e3
      · rename_i hc
        obtain ⟨rfl, rfl⟩ := newO_some e3
        obtain ⟨a, vs, rfl, _, h1, h2⟩ := getL R rpx g1
        obtain rfl := rpy.of_int
        simp only [Bool.and_eq_true, decide_eq_true_eq] at hc
        refine op_rep pins s σ H _ _ v u Q I rx ry ⟨a, _, vs, rfl, rfl, h1, hc.1.1, hc.1.2, by rw [h2.length]; exact line_nat hc.2, ?_⟩
        exact lay_lst R (h2.flat _) k
      · cases e3
    · cases e3
  · cases e
theorem op_iopM (op : Aop) : OpR X (inplaceOp op.op) (R2M X.K (iopM op)) := by
  rintro pins s σ H x y v u Q I rx ry ⟨ρ, st, dx, dy, d, st', R, rpx, rpy, e, k⟩
  unfold iopM at e
  split at e
  · obtain ⟨rfl, rfl⟩ := M.ret_some e
    obtain rfl := rpx.of_int; obtain rfl := rpy.of_int
    exact iop_add pins s σ H _ _ v u Q I rx ry ⟨_, _, rfl, rfl, k ρ H _ .refl R .int⟩
  · obtain ⟨rfl, rfl⟩ := M.ret_some e
    obtain rfl := rpx.of_int; obtain rfl := rpy.of_int
    exact iop_sub pins s σ H _ _ v u Q I rx ry ⟨_, _, rfl, rfl, k ρ H _ .refl R .int⟩
  · split at e
    · rename_i hc
      obtain ⟨rfl, rfl⟩ := M.ret_some e
      obtain rfl := rpx.of_int; obtain rfl := rpy.of_int
      exact iop_mul pins s σ H _ _ v u Q I rx ry ⟨_, _, rfl, rfl, mulOk_ok hc, k ρ H _ .refl R .int⟩
    · cases e
  · cases e
theorem un_negM : UnR X (unaryOp .USub) (R1M X.K negM) := by
  rintro pins s σ H x v Q I rx ⟨ρ, st, dx, d, st', R, rpx, e, k⟩
  unfold negM at e
  split at e
  · obtain ⟨rfl, rfl⟩ := M.ret_some e
    obtain rfl := rpx.of_int
    exact un_neg pins s σ H _ v Q I rx ⟨_, rfl, k ρ H _ .refl R .int⟩
  · cases e

/-! ### data -/
theorem mapM_cons {f : D → Option PyData} {d : D} {ds : List D} {ps : List PyData} (h : (d :: ds).mapM f = some ps) : ∃ q qs, f d = some q ∧ ds.mapM f = some qs ∧ ps = q :: qs := by
  rw [List.mapM_cons] at h
  cases e1 : f d with
  | none => rw [e1] at h; cases h
  | some q =>
    cases e2 : ds.mapM f with
    | none => rw [e1, e2] at h; cases h
    | some qs =>
      rw [e1, e2] at h
      cases h
      exact ⟨q, qs, rfl, rfl, rfl⟩
theorem toPy_dp {K : PySem.W.Frag} {ρ : List Addr} {H : Hp} {st : Store} (R : RS K ρ H st) : ∀ (n : Nat) {x : V} {d : D} {p : PyData}, Rep K ρ H x d → toPy n st d = some p → Dp K H x p
  | 0, _, _, _, _, h => by cases h
  | n + 1, x, d, p, r, h => by
    have all : ∀ {ds : List D} {xs : List V} {ps : List PyData}, RepL K ρ H xs ds → ds.mapM (toPy n st) = some ps → DpAll K H xs ps := by
      intro ds
      induction ds with
      | nil =>
        intro xs ps hr hm
        cases hr
        simp at hm
        subst hm
        exact .nil
      | cons d ds ih =>
        intro xs ps hr hm
        obtain ⟨x, xs', rfl, h1, h2⟩ := hr.of_cons
        obtain ⟨q, qs, e1, e2, rfl⟩ := mapM_cons hm
        exact .cons (toPy_dp R n h1 e1) (ih h2 e2)
    unfold toPy at h
    split at h
    · cases h; obtain rfl := r.of_v.1; exact .non
    · cases h; obtain rfl := r.of_v.1; exact .bl _
    · cases h; obtain rfl := r.of_v.1; exact .int _
    · cases h; obtain rfl := r.of_v.1; exact .str _
    · split at h
      · rename_i ds ps e
        cases h
        obtain ⟨a, xs, rfl, h1, h2⟩ := r.of_tup
        exact .tup h1 (all h2 e)
      · cases h
    · rename_i a
      split at h
      · rename_i ds e1
        split at h
        · rename_i ps e2
          cases h
          obtain ⟨a', xs, rfl, _, h1, h2⟩ := getL R r e1
          exact .lst (SqL.of h1) (all h2 e2)
        · cases h
      · cases h
    · cases h
theorem pyOf_dp {K : PySem.W.Frag} {ρ : List Addr} {H : Hp} {st st' : Store} {x : V} {d : D} {p : PyData} (R : RS K ρ H st) (r : Rep K ρ H x d) (h : pyOf d st = some (p, st')) : st' = st ∧ Dp K H x p := by
  unfold pyOf at h
  split at h
  · rename_i q e
    cases h
    exact ⟨rfl, toPy_dp R 9 r e⟩
  · cases h
theorem eqvM_dp {K : PySem.W.Frag} {ρ : List Addr} {H : Hp} {st st' : Store} {x y : V} {dx dy : D} {b : Bool} (R : RS K ρ H st) (rx : Rep K ρ H x dx) (ry : Rep K ρ H y dy) (h : eqvM dx dy st = some (b, st')) :
    st' = st ∧ ∃ p q, Dp K H x p ∧ Dp K H y q ∧ SeqAt.shaped p = true ∧ SeqAt.shaped q = true ∧ b = PyData.eqv p q := by
  unfold eqvM at h
  obtain ⟨p, st1, e1, e3⟩ := M.bind_some h
  obtain ⟨q, st2, e2, e4⟩ := M.bind_some e3
  obtain ⟨rfl, h1⟩ := pyOf_dp R rx e1
  obtain ⟨rfl, h2⟩ := pyOf_dp R ry e2
  clear h e3
  split at e4
  · rename_i hc
    obtain ⟨rfl, rfl⟩ := M.ret_some e4
    simp only [Bool.and_eq_true] at hc
    exact ⟨rfl, p, q, h1, h2, hc.1, hc.2, rfl⟩
  · cases e4
theorem op_cmpM (op : Cop) (hu : X.A.units + 64 < cLine) : OpR X (compareOp op.op) (R2M X.K (cmpM op)) := by
  rintro pins s σ H x y v u Q I rx ry ⟨ρ, st, dx, dy, d, st', R, rpx, rpy, e, k⟩
  unfold cmpM at e
  split at e
  · obtain ⟨b, st1, e1, e2⟩ := M.bind_some e
    obtain ⟨rfl, rfl⟩ := M.ret_some e2
    obtain ⟨rfl, p, q, h1, h2, h3, h4, rfl⟩ := eqvM_dp R rpx rpy e1
    exact op_eqD hu pins s σ H x y v u Q I rx ry ⟨p, q, h1, h2, h3, h4, k ρ H _ .refl R .bl⟩
  · obtain ⟨b, st1, e1, e2⟩ := M.bind_some e
    obtain ⟨rfl, rfl⟩ := M.ret_some e2
    obtain ⟨rfl, p, q, h1, h2, h3, h4, rfl⟩ := eqvM_dp R rpx rpy e1
    exact op_neD hu pins s σ H x y v u Q I rx ry ⟨p, q, h1, h2, h3, h4, k ρ H _ .refl R .bl⟩
  · split at e
    · obtain ⟨rfl, rfl⟩ := M.ret_some e
      obtain rfl := rpx.of_int; obtain rfl := rpy.of_int
      exact op_lt pins s σ H _ _ v u Q I rx ry ⟨_, _, rfl, rfl, k ρ H _ .refl R .bl⟩
    · cases e
  · split at e
    · obtain ⟨rfl, rfl⟩ := M.ret_some e
      obtain rfl := rpx.of_int; obtain rfl := rpy.of_int
      exact op_le pins s σ H _ _ v u Q I rx ry ⟨_, _, rfl, rfl, k ρ H _ .refl R .bl⟩
    · cases e
  · split at e
    · obtain ⟨rfl, rfl⟩ := M.ret_some e
      obtain rfl := rpx.of_int; obtain rfl := rpy.of_int
      exact op_gt pins s σ H _ _ v u Q I rx ry ⟨_, _, rfl, rfl, k ρ H _ .refl R .bl⟩
    · cases e
  · split at e
    · obtain ⟨rfl, rfl⟩ := M.ret_some e
      obtain rfl := rpx.of_int; obtain rfl := rpy.of_int
      exact op_ge pins s σ H _ _ v u Q I rx ry ⟨_, _, rfl, rfl, k ρ H _ .refl R .bl⟩
    · cases e
  · cases e

/-! ### truth -/
theorem tru_M {pins : List (Addr × Obj)} {s : Shared} {σ : L2.St} {H : Hp} {x : V} {v : Value} {Q : Bool → Hp → Prop} {ρ : List Addr} {st st' : Store} {d : D} {b : Bool} (I : Inv X pins σ H s) (rx : RelV x v) (R : RS X.K ρ H st) (r : Rep X.K ρ H x d)
    (h : truth d st = some (b, st')) (q : st' = st → Q b H) : wpAny (model X.prog X.w) X.A (truthy v) (TP X pins σ Q) X.xe s := by
  refine tru_ok pins s σ H x v Q I rx ⟨b, ?_, q ?_⟩
  · unfold truth at h
    split at h
    · obtain ⟨rfl, rfl⟩ := M.ret_some h; obtain rfl := r.of_v.1; exact rfl
    · obtain ⟨rfl, rfl⟩ := M.ret_some h; obtain rfl := r.of_v.1; exact rfl
    · obtain ⟨rfl, rfl⟩ := M.ret_some h; obtain rfl := r.of_v.1; exact rfl
    · obtain ⟨rfl, rfl⟩ := M.ret_some h
      obtain ⟨a, xs, rfl, h1, h2⟩ := r.of_tup
      refine .inr (.inl ⟨xs, h1, ?_⟩)
      cases h2 <;> rfl
    · rename_i n
      obtain ⟨a, rfl, hn⟩ := r.of_loc
      obtain ⟨o, ho, hr⟩ := R.lt hn
      rw [ho] at h
      cases o with
      | lst es =>
        cases h
        obtain ⟨xs, h1, h2⟩ := hr
        exact .inl ⟨xs, SqL.of h1, by cases h2 <;> rfl⟩
      | dct kvs =>
        cases h
        obtain ⟨xs, h1, h2⟩ := hr
        exact .inr (.inr ⟨xs, h1, by cases h2 <;> rfl⟩)
    · cases h
  · unfold truth at h
    split at h
    · exact (M.ret_some h).2.symm
    · exact (M.ret_some h).2.symm
    · exact (M.ret_some h).2.symm
    · exact (M.ret_some h).2.symm
    · split at h <;> cases h <;> rfl
    · cases h
theorem truth_same {d : D} {b : Bool} {st st' : Store} (h : truth d st = some (b, st')) : st' = st := by
  unfold truth at h
  split at h
  · exact (M.ret_some h).2.symm
  · exact (M.ret_some h).2.symm
  · exact (M.ret_some h).2.symm
  · exact (M.ret_some h).2.symm
  · split at h <;> cases h <;> rfl
  · cases h
end
end MP

set_option Elab.async false
set_option linter.all false
set_option maxRecDepth 100000
/-! M3: the built-ins and the stores. -/
namespace MP
open PySem L2 PyProof.Rows

/-- what the surroundings give -/
structure Rm (X : Cx) : Prop where
  calm : X.calm = true
  un : X.A.units + 200 < cLine
  gd : X.A.guards = some []
section
variable {X : Cx} {K : PySem.W.Frag} {ρ : List Addr} {H : Hp} {st st' : Store}
theorem intsOf_map {ds : List D} {is : List Int} (h : intsOf ds = some is) : ds = is.map D.int := by
  induction ds generalizing is with
  | nil => cases h; rfl
  | cons d ds ih =>
    unfold intsOf at h
    split at h
    · rename_i e; cases e
    · rename_i e
      cases e
      split at h
      · rename_i js e2
        cases h
        rw [ih e2]
        rfl
      · cases h
    · cases h
theorem boolsOf_map {ds : List D} {is : List Bool} (h : boolsOf ds = some is) : ds = is.map D.bl := by
  induction ds generalizing is with
  | nil => cases h; rfl
  | cons d ds ih =>
    unfold boolsOf at h
    split at h
    · rename_i e; cases e
    · rename_i e
      cases e
      split at h
      · rename_i js e2
        cases h
        rw [ih e2]
        rfl
      · cases h
    · cases h
theorem repl_ints : ∀ {is : List Int} {xs : List V}, RepL K ρ H xs (is.map D.int) → xs = is.map V.int
  | [], _, h => h.of_nil
  | i :: is, _, h => by
    obtain ⟨x, xs, rfl, h1, h2⟩ := h.of_cons
    rw [h1.of_int, repl_ints h2]
    rfl
theorem repl_bools : ∀ {is : List Bool} {xs : List V}, RepL K ρ H xs (is.map D.bl) → xs = is.map V.bl
  | [], _, h => h.of_nil
  | i :: is, _, h => by
    obtain ⟨x, xs, rfl, h1, h2⟩ := h.of_cons
    rw [(Rep.of_v h1).1, repl_bools h2]
    rfl

theorem isLoc_ex {d : D} (h : isLoc d = true) : ∃ n, d = .loc n := by
  cases d with
  | loc n => exact ⟨n, rfl⟩
  | _ => cases h
/-- the sum of a tuple's ints: a walk over its own iterator -/
theorem sum_tup {prog : Program} {w : World} {A : Around} {E : Value → Shared → Prop} {s : Shared} {l : Addr} {xs : Array (Int × Tok)} {Q : Value → Shared → Prop} (hh : A.handled = none) (hl : s.heap.IsTuple l (intItems xs))
    (h : ∀ h' tk t', (∀ b o, s.heap.get? b = some o → h'.get? b = some o) → Q (.int (preSum (numAt xs) xs.size) t') { s with heap := h', toks := tk }) : wpAny (model prog w) A (call (.builtin "sum") [.ref l]) Q E s := by
  have hlt : l < s.heap.objs.size := by
    obtain ⟨_, e, _⟩ := hl
    exact Heap.lt_size e
  refine call_sum_walkG (wpAny_pyIter_tuple hl ?_)
  refine ⟨s.heap.objs.size, [s.heap.objs.size, l], [s.heap.objs.size], xs.size, (fun i v => (intItems xs)[i]? = some v), (fun i h => h.IsTupleIter s.heap.objs.size l i ∧ h.IsTuple l (intItems xs)), numAt xs, rfl, ?_, ⟨⟨_, Heap.get?_push_size _ rfl, rfl, rfl⟩, hl.push _⟩, ?_, (fun _ _ => intItems_at), ?_⟩
  · have := Walks.tuple (prog := prog) (w := w) (A := A.in1) hh s.heap.objs.size l (Nat.ne_of_lt hlt) (intItems xs)
    rw [show (intItems xs).size = xs.size by simp [intItems]] at this
    exact this
  · intro b hb
    show b < (s.heap.push _).objs.size
    rw [Heap.size_push]
    simp only [List.mem_cons, List.not_mem_nil, or_false] at hb
    rcases hb with rfl | rfl
    · exact Nat.lt_succ_self _
    · exact Nat.lt_succ_of_lt hlt
  · intro h' tk t' hk
    refine h h' tk t' fun b o e => hk b o ?_ (Heap.get?_push_of_some _ e)
    intro hm
    simp only [List.mem_cons, List.not_mem_nil, or_false] at hm
    have := Heap.lt_size e
    rw [hm] at this
    exact Nat.lt_irrefl _ this
theorem cr_sumT {X : Cx} (hc : X.calm = true) : CallR X (.builtin "sum") (fun vs H Q => ∃ (a : Addr) (ns : List Int), vs = [V.ref a] ∧ SqT X.K H a (ns.map V.int) ∧ Q (.int ns.sum) H) := by
  intro pins s σ H vs us Q I r h
  obtain ⟨a, ns, rfl, hs, q⟩ := h
  obtain ⟨its, rv, hl, _⟩ := I.tuple hs
  rw [Vals.ref1 r]
  have hi := rv.ints
  obtain ⟨xs, e⟩ := hi.allInts.items
  have hn : numsOf (intItems xs).toList = ns := by rw [← e]; exact hi.numsOf
  rw [nums_intItems] at hn
  rw [e] at hl
  refine sum_tup (I.ok.hd hc) hl fun h' tk t' hk => ?_
  rw [preSum_eq, List.take_of_length_le (by simp), hn]
  exact ⟨.int _, H, I.kept hk, ⟨_, rfl⟩, q⟩
def B.val : B → Value
  | .len => .builtin "len" | .int => .type "int" | .abs => .builtin "abs" | .divmod => .builtin "divmod" | .list => .type "list" | .tuple => .type "tuple"
  | .all => .builtin "all" | .any => .builtin "any" | .sum => .builtin "sum" | .min => .builtin "min" | .max => .builtin "max"
  | .sorted => .builtin "sorted" | .sortedR => .builtin "sorted" | .repr => .builtin "repr" | .bool => .type "bool"

/-- repr of data -/
theorem call_reprD (h : Rm X) : CallR X (.builtin "repr") (fun xs H Q => ∃ x p, xs = [x] ∧ Dp X.K H x p ∧ p.showable = true ∧ p.hasDict = false ∧ p.depth ≤ 64 ∧ p.shown.length ≤ sizeLine ∧ Q (.str p.shown) H) := by
  intro pins s σ H xs us Q I r hq
  obtain ⟨x, p, rfl, hp, hs, hd, hdp, hz, q⟩ := hq
  obtain ⟨u, rfl, ru⟩ := Vals.one r
  have hu := h.un
  cases hp with
  | non => cases ru; exact PySem.P.repr_of_none ⟨.str _, H, I.tok _, ⟨_, rfl⟩, q⟩
  | bl b => cases ru; exact PySem.P.repr_of_bool ⟨.str _, H, I.tok _, ⟨_, rfl⟩, q⟩
  | int i =>
    obtain ⟨t, rfl⟩ := ru
    exact PySem.P.repr_of_int (of_decide_eq_true (by simpa only [PyData.showable] using hs)) ⟨.str _, H, I.tok _, ⟨_, rfl⟩, q⟩
  | str y =>
    obtain ⟨t, rfl⟩ := ru
    exact PySem.P.repr_of_str ⟨.str _, H, I.tok _, ⟨_, rfl⟩, q⟩ hz
  | lst h1 h2 =>
    cases ru
    obtain ⟨as, rd⟩ := Dp.reads I _ _ _ (.lst h1 h2) (show RelV (.ref _) (.ref _) from rfl)
    exact repr_of_reads' rd hs (PyData.noDict_hsm hd) h.gd (by omega) (fun _ _ e => e) (fun h' u tk hk => ⟨.str _, H, I.kept hk, ⟨_, rfl⟩, q⟩) hz
  | tup h1 h2 =>
    cases ru
    obtain ⟨as, rd⟩ := Dp.reads I _ _ _ (.tup h1 h2) (show RelV (.ref _) (.ref _) from rfl)
    exact repr_of_reads' rd hs (PyData.noDict_hsm hd) h.gd (by omega) (fun _ _ e => e) (fun h' u tk hk => ⟨.str _, H, I.kept hk, ⟨_, rfl⟩, q⟩) hz

def Bf.id : Bf → String
  | .isqrt => "math.isqrt" | .gcd => "math.gcd" | .lcm => "math.lcm"
theorem call_mth (b : Bf) : CallR X (.builtin b.id) (RnM X.K (mthM b)) := by
  rintro pins s σ H xs us Q I r ⟨ρ, st, ds, d, st', R, rp, e, k⟩
  unfold mthM at e
  split at e
  · obtain ⟨hc, e2⟩ := M.when_some e
    obtain ⟨rfl, rfl⟩ := M.ret_some e2
    obtain ⟨x, xs', rfl, h1, h2⟩ := rp.of_cons
    obtain rfl := h2.of_nil
    obtain rfl := h1.of_int
    obtain ⟨u, rfl, t, rfl⟩ := Vals.one r
    rw [Bool.and_eq_true] at hc
    exact PySem.W.mg_isqrt (of_decide_eq_true hc.1) (of_decide_eq_true hc.2) ⟨.int _, H, I.tok _, ⟨_, rfl⟩, k ρ H _ .refl R .int⟩
  · obtain ⟨rfl, rfl⟩ := M.ret_some e
    obtain ⟨x, xs', rfl, h1, h2⟩ := rp.of_cons
    obtain ⟨y, xs'', rfl, h3, h4⟩ := h2.of_cons
    obtain rfl := h4.of_nil
    obtain rfl := h1.of_int
    obtain rfl := h3.of_int
    obtain ⟨t, u, rfl⟩ := Vals.int2 r
    exact PySem.W.mg_gcd fun _ => ⟨.int _, H, I.tok _, ⟨_, rfl⟩, k ρ H _ .refl R .int⟩
  · obtain ⟨hc, e2⟩ := M.when_some e
    obtain ⟨rfl, rfl⟩ := M.ret_some e2
    obtain ⟨x, xs', rfl, h1, h2⟩ := rp.of_cons
    obtain ⟨y, xs'', rfl, h3, h4⟩ := h2.of_cons
    obtain rfl := h4.of_nil
    obtain rfl := h1.of_int
    obtain rfl := h3.of_int
    obtain ⟨t, u, rfl⟩ := Vals.int2 r
    rw [Bool.and_eq_true, Bool.and_eq_true] at hc
    exact PySem.W.mg_lcm (of_decide_eq_true hc.1.1) (of_decide_eq_true hc.1.2) (of_decide_eq_true hc.2) ⟨.int _, H, I.tok _, ⟨_, rfl⟩, k ρ H _ .refl R .int⟩
  · cases e
theorem call_blt (h : Rm X) (b : B) : CallR X b.val (RnM X.K (bltM b)) := by
  rintro pins s σ H xs us Q I r ⟨ρ, st, ds, d, st', R, rp, e, k⟩
  unfold bltM at e
  split at e
  · obtain ⟨es, st1, e1, e2⟩ := M.bind_some e
    obtain ⟨rfl, rfl⟩ := M.ret_some e2
    obtain ⟨x, xs', rfl, h1, h2⟩ := rp.of_cons
    obtain rfl := h2.of_nil
    obtain ⟨rfl, a, vs, rfl, h3, h4, _⟩ := items_seq R h1 e1
    refine call_len_seq pins s σ H _ us Q I r ⟨a, vs, rfl, h3, ?_⟩
    rw [h4.length]
    exact k ρ H _ .refl R .int
  · obtain ⟨rfl, rfl⟩ := M.ret_some e
    obtain ⟨x, xs', rfl, h1, h2⟩ := rp.of_cons
    obtain rfl := h2.of_nil
    obtain rfl := h1.of_int
    exact call_int1 pins s σ H _ us Q I r (.inl ⟨_, rfl, k ρ H _ .refl R .int⟩)
  · obtain ⟨rfl, rfl⟩ := M.ret_some e
    obtain ⟨x, xs', rfl, h1, h2⟩ := rp.of_cons
    obtain rfl := h2.of_nil
    obtain rfl := h1.of_int
    exact call_abs pins s σ H _ us Q I r ⟨_, rfl, k ρ H _ .refl R .int⟩
  · split at e
    · rename_i hc
      obtain ⟨rfl, rfl⟩ := M.ret_some e
      obtain ⟨x, xs', rfl, h1, h2⟩ := rp.of_cons
      obtain ⟨y, xs'', rfl, h3, h4⟩ := h2.of_cons
      obtain rfl := h4.of_nil
      obtain rfl := h1.of_int
      obtain rfl := h3.of_int
      simp only [Bool.and_eq_true, decide_eq_true_eq] at hc
      exact call_divmod pins s σ H _ us Q I r ⟨_, _, rfl, hc, lay_tup R (.cons .int (.cons .int .nil)) k⟩
    · cases e
  · obtain ⟨es, st1, e1, e2⟩ := M.bind_some e
    obtain ⟨x, xs', rfl, h1, h2⟩ := rp.of_cons
    obtain rfl := h2.of_nil
    obtain ⟨rfl, a, vs, rfl, h3, h4, _⟩ := items_seq R h1 e1
    obtain ⟨rfl, rfl⟩ := newO_some e2
    exact call_list_of pins s σ H _ us Q I r ⟨a, vs, rfl, h3, lay_lst R h4 k⟩
  · obtain ⟨es, st1, e1, e2⟩ := M.bind_some e
    obtain ⟨x, xs', rfl, h1, h2⟩ := rp.of_cons
    obtain rfl := h2.of_nil
    obtain ⟨rfl, a, vs, rfl, h3, h4, _⟩ := items_seq R h1 e1
    obtain ⟨rfl, rfl⟩ := M.ret_some e2
    refine call_tuple_of pins s σ H _ us Q I r ⟨a, vs, rfl, ?_⟩
    rcases h3 with h3 | h3
    · exact .inl ⟨h3, lay_tup R h4 k⟩
    · exact .inr ⟨h3, k ρ H _ .refl R (.tup h3 h4)⟩
  · obtain ⟨es, st1, e1, e2⟩ := M.bind_some e
    obtain ⟨x, xs', rfl, h1, h2⟩ := rp.of_cons
    obtain rfl := h2.of_nil
    obtain ⟨rfl, a, vs, rfl, h3, h4, h5, h6⟩ := items_seq R h1 e1
    obtain ⟨hl, e3⟩ := M.when_some e2
    obtain ⟨bs, eb, e4⟩ := M.opt_some e3
    obtain ⟨rfl, rfl⟩ := M.ret_some e4
    rw [boolsOf_map eb] at h4
    exact cr_all h.calm pins s σ H _ us Q I r ⟨a, bs, rfl, by rw [← repl_bools h4]; exact h5 (isLoc_ex hl), k ρ H _ .refl R .bl⟩
  · obtain ⟨es, st1, e1, e2⟩ := M.bind_some e
    obtain ⟨x, xs', rfl, h1, h2⟩ := rp.of_cons
    obtain rfl := h2.of_nil
    obtain ⟨rfl, a, vs, rfl, h3, h4, h5, h6⟩ := items_seq R h1 e1
    obtain ⟨hl, e3⟩ := M.when_some e2
    obtain ⟨bs, eb, e4⟩ := M.opt_some e3
    obtain ⟨rfl, rfl⟩ := M.ret_some e4
    rw [boolsOf_map eb] at h4
    exact cr_any h.calm pins s σ H _ us Q I r ⟨a, bs, rfl, by rw [← repl_bools h4]; exact h5 (isLoc_ex hl), k ρ H _ .refl R .bl⟩
  · obtain ⟨es, st1, e1, e2⟩ := M.bind_some e
    obtain ⟨x, xs', rfl, h1, h2⟩ := rp.of_cons
    obtain rfl := h2.of_nil
    obtain ⟨rfl, a, vs, rfl, h3, h4, h5, h6⟩ := items_seq R h1 e1
    obtain ⟨bs, eb, e4⟩ := M.opt_some e2
    obtain ⟨rfl, rfl⟩ := M.ret_some e4
    rw [intsOf_map eb] at h4
    rcases h3 with h3 | h3
    · exact cr_sum h.calm pins s σ H _ us Q I r ⟨a, bs, rfl, by rw [← repl_ints h4]; exact h3, k ρ H _ .refl R .int⟩
    · exact cr_sumT h.calm pins s σ H _ us Q I r ⟨a, bs, rfl, by rw [← repl_ints h4]; exact h3, k ρ H _ .refl R .int⟩
  · obtain ⟨rfl, rfl⟩ := M.ret_some e
    obtain ⟨x, xs', rfl, h1, h2⟩ := rp.of_cons
    obtain ⟨y, xs'', rfl, h3, h4⟩ := h2.of_cons
    obtain rfl := h4.of_nil
    obtain rfl := h1.of_int
    obtain rfl := h3.of_int
    exact call_min2 h.calm pins s σ H _ us Q I r ⟨_, _, rfl, k ρ H _ .refl R .int⟩
  · obtain ⟨rfl, rfl⟩ := M.ret_some e
    obtain ⟨x, xs', rfl, h1, h2⟩ := rp.of_cons
    obtain ⟨y, xs'', rfl, h3, h4⟩ := h2.of_cons
    obtain rfl := h4.of_nil
    obtain rfl := h1.of_int
    obtain rfl := h3.of_int
    exact call_max2 h.calm pins s σ H _ us Q I r ⟨_, _, rfl, k ρ H _ .refl R .int⟩
  · obtain ⟨es, st1, e1, e2⟩ := M.bind_some e
    obtain ⟨x, xs', rfl, h1, h2⟩ := rp.of_cons
    obtain rfl := h2.of_nil
    obtain ⟨rfl, a, vs, rfl, h3, h4, h5, h6⟩ := items_seq R h1 e1
    obtain ⟨hl, e3⟩ := M.when_some e2
    obtain ⟨bs, eb, e4⟩ := M.opt_some e3
    obtain ⟨m, em, e5⟩ := M.opt_some e4
    obtain ⟨rfl, rfl⟩ := M.ret_some e5
    rw [intsOf_map eb] at h4
    rw [List.min?_eq_some_iff] at em
    refine cr_min h.calm pins s σ H _ us Q I r ⟨a, bs, rfl, by rw [← repl_ints h4]; exact h5 (isLoc_ex hl), List.length_pos_of_mem em.1, fun m' hm hm' => ?_⟩
    have h7 := hm' m em.1
    have h8 := em.2 m' hm
    have h9 : m' = m := by omega
    subst h9
    exact k ρ H _ .refl R .int
  · obtain ⟨es, st1, e1, e2⟩ := M.bind_some e
    obtain ⟨x, xs', rfl, h1, h2⟩ := rp.of_cons
    obtain rfl := h2.of_nil
    obtain ⟨rfl, a, vs, rfl, h3, h4, h5, h6⟩ := items_seq R h1 e1
    obtain ⟨hl, e3⟩ := M.when_some e2
    obtain ⟨bs, eb, e4⟩ := M.opt_some e3
    obtain ⟨m, em, e5⟩ := M.opt_some e4
    obtain ⟨rfl, rfl⟩ := M.ret_some e5
    rw [intsOf_map eb] at h4
    rw [List.max?_eq_some_iff] at em
    refine cr_max h.calm pins s σ H _ us Q I r ⟨a, bs, rfl, by rw [← repl_ints h4]; exact h5 (isLoc_ex hl), List.length_pos_of_mem em.1, fun m' hm hm' => ?_⟩
    have h7 := hm' m em.1
    have h8 := em.2 m' hm
    have h9 : m' = m := by omega
    subst h9
    exact k ρ H _ .refl R .int
  · obtain ⟨p, st1, e1, e2⟩ := M.bind_some e
    obtain ⟨x, xs', rfl, h1, h2⟩ := rp.of_cons
    obtain rfl := h2.of_nil
    obtain ⟨rfl, h3⟩ := pyOf_dp R h1 e1
    split at e2
    · rename_i hc
      obtain ⟨rfl, rfl⟩ := M.ret_some e2
      simp only [Bool.and_eq_true, decide_eq_true_eq, Bool.not_eq_true'] at hc
      exact call_reprD h pins s σ H _ us Q I r ⟨_, p, rfl, h3, hc.1.1.1, hc.1.2, hc.2, line_nat hc.1.1.2, k ρ H _ .refl R .str⟩
    · cases e2
  · cases e

theorem atN_ixN {n : Nat} {i : Int} : atN n i = ixN n i := rfl
theorem ix_M : IxR X (R2M X.K idxM) := by
  rintro value slice pins s σ H x y v u Q I rx ry ⟨ρ, st, dx, dy, d, st', R, rpx, rpy, e, k⟩ hs
  unfold idxM at e
  split at e
  · rename_i i
    obtain ⟨es, st1, e1, e2⟩ := M.bind_some e
    obtain rfl := rpy.of_int
    obtain ⟨rfl, a, vs, rfl, h3, h4, h5, h6⟩ := items_seq R rpx e1
    obtain ⟨j, ej, e3⟩ := M.opt_some e2
    obtain ⟨d', ed, e4⟩ := M.opt_some e3
    obtain ⟨rfl, rfl⟩ := M.ret_some e4
    obtain ⟨w, hw, rw'⟩ := h4.get ed
    have hat : atI vs i = some w := by
      unfold atI
      rw [h4.length, ← atN_ixN, ej]
      exact hw
    rcases h3 with h3 | h3
    · exact ix_list value slice pins s σ H _ _ v u Q I rx ry ⟨a, vs, _, w, rfl, rfl, h3, hat, k ρ H _ .refl R rw'⟩ hs
    · exact ix_tup value slice pins s σ H _ _ v u Q I rx ry ⟨a, vs, _, w, rfl, rfl, h3, hat, k ρ H _ .refl R rw'⟩ hs
  · cases e
theorem set_M {pins : List (Addr × Obj)} {s : Shared} {σ : L2.St} {H : Hp} {o i v : V} {ov iv u : Value} {Q : Hp → Prop} {ρ : List Addr} {st st' : Store} {do_ di dv : D} {un : Unit} (I : Inv X pins σ H s) (ro : RelV o ov) (ri : RelV i iv) (rv : RelV v u)
    (R : RS X.K ρ H st) (r1 : Rep X.K ρ H o do_) (r2 : Rep X.K ρ H i di) (r3 : Rep X.K ρ H v dv) (e : setItemM do_ di dv st = some (un, st')) (k : ∀ H', Le ρ H ρ H' → RS X.K ρ H' st' → Q H') :
    wpAny (model X.prog X.w) X.A (setItem ov iv u) (fun _ s' => ∃ H', Inv X pins σ H' s' ∧ Q H') X.xe s := by
  unfold setItemM at e
  split at e
  · obtain ⟨oa, st1, e1, e2⟩ := M.bind_some e
    obtain ⟨g1, rfl⟩ := getO_some e1
    obtain ⟨es, eo, e3⟩ := M.opt_some e2
    obtain ⟨j, ej, e4⟩ := M.opt_some e3
    obtain rfl := lstOf_some eo
    obtain ⟨hlt, rfl⟩ := setO_some e4
    obtain ⟨a, vs, rfl, hn, h1, h2⟩ := getL R r1 g1
    obtain rfl := r2.of_int
    have lw : Le ρ H ρ (upd H a (.lst (vs.set j v))) := Le.write (n := 0) h1 (fun _ z => nomatch z) (fun _ _ z => nomatch z)
    refine set_list pins s σ H _ _ _ ov iv u Q I ro ri rv ⟨a, vs, _, j, rfl, rfl, h1, by rw [h2.length]; exact ej, k _ lw ?_⟩
    exact R.write hn h1 (fun _ z => nomatch z) (fun _ _ z => nomatch z) ⟨_, upd_same, RepL.set (r3.le lw) j (h2.le lw)⟩
  · cases e
def RmM (K : PySem.W.Frag) (g : D → List D → M D) : V → List V → Hp → VK → Prop := fun x xs H Q => ∃ ρ st dx ds d st', RS K ρ H st ∧ Rep K ρ H x dx ∧ RepL K ρ H xs ds ∧ g dx ds st = some (d, st') ∧
  ∀ ρ' H' v, Le ρ H ρ' H' → RS K ρ' H' st' → Rep K ρ' H' v d → Q v H'
theorem app_M : MtR X "list.append" (RmM X.K appendM) := by
  rintro pins s σ H x xs v us Q I rx rxs ⟨ρ, st, dx, ds, d, st', R, rpx, rps, e, k⟩
  unfold appendM at e
  split at e
  · obtain ⟨oa, st1, e1, e2⟩ := M.bind_some e
    obtain ⟨g1, rfl⟩ := getO_some e1
    obtain ⟨es, eo, e2a⟩ := M.opt_some e2
    obtain rfl := lstOf_some eo
    obtain ⟨hl, e2b⟩ := M.when_some e2a
    obtain ⟨_, st2, e3, e4⟩ := M.bind_some e2b
    obtain ⟨hlt, rfl⟩ := setO_some e3
    obtain ⟨rfl, rfl⟩ := M.ret_some e4
    obtain ⟨y, xs', rfl, h1, h2⟩ := rps.of_cons
    obtain rfl := h2.of_nil
    obtain ⟨a, vs, rfl, hn, h3, h4⟩ := getL R rpx g1
    have lw : Le ρ H ρ (upd H a (.lst (vs ++ [y]))) := Le.write (n := 0) h3 (fun _ z => nomatch z) (fun _ _ z => nomatch z)
    refine mt_append pins s σ H _ _ v us Q I rx rxs ⟨a, vs, y, rfl, rfl, h3, by rw [h4.length]; exact of_decide_eq_true hl, k ρ _ _ lw ?_ .non⟩
    exact R.write hn h3 (fun _ z => nomatch z) (fun _ _ z => nomatch z) ⟨_, upd_same, (h4.le lw).append (.cons (h1.le lw) .nil)⟩
  · cases e
theorem cnt_M : MtR X "list.count" (RmM X.K countM) := by
  rintro pins s σ H x xs v us Q I rx rxs ⟨ρ, st, dx, ds, d, st', R, rpx, rps, e, k⟩
  unfold countM at e
  split at e
  · rename_i n j
    obtain ⟨es, st1, e1, e2⟩ := M.bind_some e
    obtain ⟨is, ei, e3⟩ := M.opt_some e2
    obtain ⟨rfl, rfl⟩ := M.ret_some e3
    obtain ⟨y, xs', rfl, h1, h2⟩ := rps.of_cons
    obtain rfl := h2.of_nil
    obtain rfl := h1.of_int
    obtain ⟨rfl, a, vs, rfl, h3, h4, h5, h6⟩ := items_seq R rpx e1
    rw [intsOf_map ei] at h4
    exact mt_lcount pins s σ H _ _ v us Q I rx rxs ⟨a, is, j, rfl, rfl, by rw [← repl_ints h4]; exact h5 ⟨n, rfl⟩, k ρ H _ .refl R .int⟩
  · cases e
end
end MP

set_option Elab.async false
set_option linter.all false
set_option maxRecDepth 100000
/-! M4: expressions, rule by rule. -/
namespace MP
open PySem L2 PyProof.Rows

theorem PE_imp {X : Cx} {e : Expr} {t t' : TE} (h : PE X e t) (i : ∀ σ H Q, t' σ H Q → t σ H Q) : PE X e t' := ⟨fun pins s σ H Q I q => h.run pins s σ H Q I (i _ _ _ q)⟩
theorem PT_imp {X : Cx} {e : Expr} {t t' : TT} (h : PT X e t) (i : ∀ σ H Q, t' σ H Q → t σ H Q) : PT X e t' := ⟨fun pins s σ H Q I q => h.run pins s σ H Q I (i _ _ _ q)⟩
theorem PW_imp {X : Cx} {e : Expr} {t t' : TT} (h : PW X e t) (i : ∀ σ H Q, t' σ H Q → t σ H Q) : PW X e t' := ⟨fun wh pins s σ H Q I q => h.run wh pins s σ H Q I (i _ _ _ q)⟩
theorem PA_imp {X : Cx} {e : List Expr} {t t' : TA} (h : PA X e t) (i : ∀ σ H Q, t' σ H Q → t σ H Q) : PA X e t' := ⟨fun p pins s σ H Q I q => h.run p pins s σ H Q I (i _ _ _ q)⟩
theorem PK_imp {X : Cx} {e : List Keyword} {t t' : TA} (h : PK X e t) (i : ∀ σ H Q, t' σ H Q → t σ H Q) : PK X e t' := ⟨fun p pins s σ H Q I q => h.run p pins s σ H Q I (i _ _ _ q)⟩
abbrev PEM (X : Cx) (f : Env → M D) (e : Expr) : Prop := PE X e (TeM X.K f)
abbrev PTM (X : Cx) (f : Env → M Bool) (e : Expr) : Prop := PT X e (TbM X.K f)
abbrev PWM (X : Cx) (f : Env → M Bool) (e : Expr) : Prop := PW X e (TbM X.K f)
abbrev PAM (X : Cx) (f : Env → M (List D)) (e : List Expr) : Prop := PA X e (TaM X.K f)
abbrev PKM (X : Cx) (f : Env → M (List D)) (e : List Keyword) : Prop := PK X e (TaM X.K f)

section
variable {X : Cx} {a b c e : Expr} {es : List Expr} {fa fb fc f : Env → M D} {fs : Env → M (List D)} {pos : Pos}
/-- a value that does not lean on the store -/
theorem pem_ret {g : Env → Option D} {t : TE} (h : PE X e t) (i : ∀ ρ st env d σ H (Q : VK), RS X.K ρ H st → ER X.K ρ H σ env → g env = some d → (∀ v, Rep X.K ρ H v d → Q v H) → t σ H Q) : PEM X (fun env => M.opt (g env) M.ret) e := by
  refine PE_imp h fun σ H Q hq => ?_
  obtain ⟨ρ, st, env, d, st', R, E, ev, k⟩ := hq
  obtain ⟨d', e1, e2⟩ := M.opt_some ev
  obtain ⟨rfl, rfl⟩ := M.ret_some e2
  exact i ρ st env _ σ H Q R E e1 fun v r => k ρ H v .refl R r
theorem pem_var {i : Nat} (h : PE X e (tVar i)) : PEM X (fun env => M.opt (getS env i) M.ret) e := by
  refine PE_imp h fun σ H Q hq => ?_
  obtain ⟨ρ, st, env, d, st', R, E, ev, k⟩ := hq
  obtain ⟨d', e1, e2⟩ := M.opt_some ev
  obtain ⟨rfl, rfl⟩ := M.ret_some e2
  obtain ⟨v, h1, h2⟩ := E.at' i _ (getS_some e1)
  exact ⟨v, h1, k ρ H v .refl R h2⟩
theorem pem_lit {x : V} (h : PE X e (tC x)) : PEM X (fun _ => if sc x then M.ret (.v x) else M.fail) e := by
  refine PE_imp h fun σ H Q hq => ?_
  obtain ⟨ρ, st, env, d, st', R, E, ev, k⟩ := hq
  dsimp only at ev
  split at ev
  · rename_i hs
    obtain ⟨rfl, rfl⟩ := M.ret_some ev
    exact k ρ H x .refl R (.v hs)
  · cases ev
/-- two in a row, then an operation -/
theorem two {r : R2} {g : D → D → M D} {σ : L2.St} {H : Hp} {Q : VK} (hr : ∀ x y H Q, R2M X.K g x y H Q → r x y H Q) (h : TeM X.K (fun env => M.bind (fa env) fun x => M.bind (fb env) fun y => g x y) σ H Q) : tOp r (TeM X.K fa) (TeM X.K fb) σ H Q := by
  obtain ⟨ρ, st, env, d, st', R, E, ev, k⟩ := h
  obtain ⟨dx, st1, e1, e2⟩ := M.bind_some ev
  obtain ⟨dy, st2, e3, e4⟩ := M.bind_some e2
  exact ⟨ρ, st, env, dx, st1, R, E, e1, fun ρ1 H1 x l1 R1 r1 => ⟨ρ1, st1, env, dy, st2, R1, E.le l1, e3, fun ρ2 H2 y l2 R2 r2 =>
    hr x y H2 Q ⟨ρ2, st2, dx, dy, d, st', R2, r1.le l2, r2, e4, fun ρ3 H3 v l3 R3 r3 => k ρ3 H3 v ((l1.trans l2).trans l3) R3 r3⟩⟩⟩
theorem pem_bin {op : Aop} (ha : PEM X fa a) (hb : PEM X fb b) : PEM X (fun env => M.bind (fa env) fun x => M.bind (fb env) fun y => binM op x y) (.BinOp a op.op b pos) :=
  PE_imp (pe_op (op_binM op) ha hb) fun _ _ _ h => two (fun _ _ _ _ z => z) h
theorem pem_cmp {op : Cop} (hu : Rm X) (ha : PEM X fa a) (hb : PEM X fb b) (hm : behindInMarks op.op b = false) : PEM X (fun env => M.bind (fa env) fun x => M.bind (fb env) fun y => cmpM op x y) (.Compare a [op.op] [b] pos) :=
  PE_imp (pe_cmpR (op_cmpM op (by have := hu.un; omega)) ha hb hm) fun _ _ _ h => two (fun _ _ _ _ z => z) h
theorem pem_idx (ha : PEM X fa a) (hb : PEM X fb b) (hp : PlainIx b) : PEM X (fun env => M.bind (fa env) fun x => M.bind (fb env) fun y => idxM x y) (.Subscript a b pos) :=
  PE_imp (pe_ix ix_M ha hb hp) fun _ _ _ h => two (fun _ _ _ _ z => z) h
theorem pem_neg (ha : PEM X fa a) : PEM X (fun env => M.bind (fa env) negM) (.UnaryOp .USub a pos) := by
  refine PE_imp (pe_un un_negM ha) fun σ H Q h => ?_
  obtain ⟨ρ, st, env, d, st', R, E, ev, k⟩ := h
  obtain ⟨dx, st1, e1, e2⟩ := M.bind_some ev
  exact ⟨ρ, st, env, dx, st1, R, E, e1, fun ρ1 H1 x l1 R1 r1 => ⟨ρ1, st1, dx, d, st', R1, r1, e2, fun ρ3 H3 v l3 R3 r3 => k ρ3 H3 v (l1.trans l3) R3 r3⟩⟩
/-- what a comparison gives is a truth value -/
theorem cmpM_bl {op : Cop} {x y d : D} {st st' : Store} (h : cmpM op x y st = some (d, st')) : st' = st ∧ ∃ b, d = .bl b := by
  unfold cmpM at h
  split at h
  · obtain ⟨b, st1, e1, e2⟩ := M.bind_some h
    obtain ⟨rfl, rfl⟩ := M.ret_some e2
    unfold eqvM at e1
    obtain ⟨p, s1, f1, f2⟩ := M.bind_some e1
    obtain ⟨q, s2, f3, f4⟩ := M.bind_some f2
    have g1 : s1 = st := by unfold pyOf at f1; split at f1 <;> cases f1; rfl
    have g2 : s2 = s1 := by unfold pyOf at f3; split at f3 <;> cases f3; rfl
    split at f4
    · exact ⟨(M.ret_some f4).2.symm.trans (g2.trans g1), _, rfl⟩
    · cases f4
  · obtain ⟨b, st1, e1, e2⟩ := M.bind_some h
    obtain ⟨rfl, rfl⟩ := M.ret_some e2
    unfold eqvM at e1
    obtain ⟨p, s1, f1, f2⟩ := M.bind_some e1
    obtain ⟨q, s2, f3, f4⟩ := M.bind_some f2
    have g1 : s1 = st := by unfold pyOf at f1; split at f1 <;> cases f1; rfl
    have g2 : s2 = s1 := by unfold pyOf at f3; split at f3 <;> cases f3; rfl
    split at f4
    · exact ⟨(M.ret_some f4).2.symm.trans (g2.trans g1), _, rfl⟩
    · cases f4
  all_goals first
    | (split at h <;> first | exact ⟨(M.ret_some h).2.symm, _, (M.ret_some h).1.symm⟩ | cases h)
    | cases h
def chainM (op op' : Cop) (fa fb fc : Env → M D) (env : Env) : M D := M.bind (fa env) fun x => M.bind (fb env) fun y => M.bind (cmpM op x y) fun t => match t with
    | .v (.bl true) => M.bind (fc env) fun z => cmpM op' y z
    | .v (.bl false) => M.ret (.bl false)
    | _ => M.fail
theorem chain_read {op op' : Cop} {σ : L2.St} {H : Hp} {Q : VK} (h : TeM X.K (chainM op op' fa fb fc) σ H Q) : tChain (R2M X.K (cmpM op)) (R2M X.K (cmpM op')) (TeM X.K fa) (TeM X.K fb) (TeM X.K fc) σ H Q := by
  obtain ⟨ρ, st, env, d, st', R, E, ev, k⟩ := h
  obtain ⟨dx, st1, e1, e2⟩ := M.bind_some ev
  obtain ⟨dy, st2, e3, e4⟩ := M.bind_some e2
  obtain ⟨dt, st3, e5, e6⟩ := M.bind_some e4
  refine ⟨ρ, st, env, dx, st1, R, E, e1, fun ρ1 H1 x l1 R1 r1 => ⟨ρ1, st1, env, dy, st2, R1, E.le l1, e3, fun ρ2 H2 y l2 R2 r2 =>
    ⟨ρ2, st2, dx, dy, dt, st3, R2, r1.le l2, r2, e5, fun ρ3 H3 v l3 R3 r3 => ?_⟩⟩⟩
  obtain ⟨_, bt, rfl⟩ := cmpM_bl e5
  obtain ⟨rfl, _⟩ := r3.of_v
  refine ⟨bt, rfl, ?_⟩
  cases bt with
  | true =>
    obtain ⟨dz, st4, e7, e8⟩ := M.bind_some e6
    refine iteT ⟨ρ3, st3, env, dz, st4, R3, ((E.le l1).le l2).le l3, e7, fun ρ4 H4 z l4 R4 r4 => ⟨ρ4, st4, dy, dz, d, st', R4, (r2.le l3).le l4, r4, e8, fun ρ5 H5 v l5 R5 r5 => k ρ5 H5 v ((((l1.trans l2).trans l3).trans l4).trans l5) R5 r5⟩⟩
  | false =>
    obtain ⟨rfl, rfl⟩ := M.ret_some e6
    exact iteF (k ρ3 H3 _ ((l1.trans l2).trans l3) R3 .bl)
theorem pem_chain {op op' : Cop} (hu : Rm X) (ha : PEM X fa a) (hb : PEM X fb b) (hc : PEM X fc c) (hm : lastMarks [op.op, op'.op] [b, c] = false) : PEM X (chainM op op' fa fb fc) (.Compare a [op.op, op'.op] [b, c] pos) :=
  PE_imp (pe_chain (op_cmpM op (by have := hu.un; omega)) (op_cmpM op' (by have := hu.un; omega)) ha hb hc hm) fun _ _ _ h => chain_read h

/-! ### truth of values, by readings -/
theorem truth_V {K : PySem.W.Frag} {ρ : List Addr} {H : Hp} {st st' : Store} {x : V} {d : D} {t : Bool} (R : RS K ρ H st) (r : Rep K ρ H x d) (h : truth d st = some (t, st')) : TruV K x H t := by
  unfold truth at h
  split at h
  · obtain ⟨rfl, rfl⟩ := M.ret_some h; obtain rfl := r.of_v.1; exact rfl
  · obtain ⟨rfl, rfl⟩ := M.ret_some h; obtain rfl := r.of_v.1; exact rfl
  · obtain ⟨rfl, rfl⟩ := M.ret_some h; obtain rfl := r.of_v.1; exact rfl
  · obtain ⟨rfl, rfl⟩ := M.ret_some h
    obtain ⟨a, xs, rfl, h1, h2⟩ := r.of_tup
    refine .inr (.inl ⟨xs, h1, ?_⟩)
    cases h2 <;> rfl
  · rename_i n
    obtain ⟨a, rfl, hn⟩ := r.of_loc
    obtain ⟨o, ho, hr⟩ := R.lt hn
    rw [ho] at h
    cases o with
    | lst es =>
      cases h
      obtain ⟨xs, h1, h2⟩ := hr
      exact .inl ⟨xs, SqL.of h1, by cases h2 <;> rfl⟩
    | dct kvs =>
      cases h
      obtain ⟨xs, h1, h2⟩ := hr
      exact .inr (.inr ⟨xs, h1, by cases h2 <;> rfl⟩)
  · cases h
def andM (fa fb : Env → M D) (env : Env) : M D := M.bind (fa env) fun x => M.bind (truth x) fun t => if t then fb env else M.ret x
def orM (fa fb : Env → M D) (env : Env) : M D := M.bind (fa env) fun x => M.bind (truth x) fun t => if t then M.ret x else fb env
def notM (fa : Env → M D) (env : Env) : M D := M.bind (fa env) fun x => M.bind (truth x) fun t => M.ret (.bl (!t))
def iteM (fc fa fb : Env → M D) (env : Env) : M D := M.bind (fc env) fun x => M.bind (truth x) fun t => if t then fa env else fb env
def testM (f : Env → M D) (env : Env) : M Bool := M.bind (f env) truth
theorem pem_and {rest : List Expr} (ha : PEM X fa a) (hb : PEM X fb (.BoolOp .And (b :: rest) pos)) : PEM X (andM fa fb) (.BoolOp .And (a :: b :: rest) pos) := by
  refine PE_imp (pe_andT ha hb) fun σ H Q h => ?_
  obtain ⟨ρ, st, env, d, st', R, E, ev, k⟩ := h
  obtain ⟨dx, st1, e1, e2⟩ := M.bind_some ev
  obtain ⟨t, st2, e3, e4⟩ := M.bind_some e2
  obtain rfl := truth_same e3
  refine ⟨ρ, st, env, dx, _, R, E, e1, fun ρ1 H1 x l1 R1 r1 => ⟨t, truth_V R1 r1 e3, ?_⟩⟩
  cases t with
  | true => exact iteT ⟨ρ1, _, env, d, st', R1, E.le l1, e4, fun ρ3 H3 v l3 R3 r3 => k ρ3 H3 v (l1.trans l3) R3 r3⟩
  | false =>
    obtain ⟨rfl, rfl⟩ := M.ret_some e4
    exact iteF (k ρ1 H1 x l1 R1 r1)
theorem pem_or {rest : List Expr} (ha : PEM X fa a) (hb : PEM X fb (.BoolOp .Or (b :: rest) pos)) : PEM X (orM fa fb) (.BoolOp .Or (a :: b :: rest) pos) := by
  refine PE_imp (pe_orT ha hb) fun σ H Q h => ?_
  obtain ⟨ρ, st, env, d, st', R, E, ev, k⟩ := h
  obtain ⟨dx, st1, e1, e2⟩ := M.bind_some ev
  obtain ⟨t, st2, e3, e4⟩ := M.bind_some e2
  obtain rfl := truth_same e3
  refine ⟨ρ, st, env, dx, _, R, E, e1, fun ρ1 H1 x l1 R1 r1 => ⟨t, truth_V R1 r1 e3, ?_⟩⟩
  cases t with
  | false => exact iteF ⟨ρ1, _, env, d, st', R1, E.le l1, e4, fun ρ3 H3 v l3 R3 r3 => k ρ3 H3 v (l1.trans l3) R3 r3⟩
  | true =>
    obtain ⟨rfl, rfl⟩ := M.ret_some e4
    exact iteT (k ρ1 H1 x l1 R1 r1)
theorem pem_not (ha : PEM X fa a) : PEM X (notM fa) (.UnaryOp .Not a pos) := by
  refine PE_imp (pe_notT ha) fun σ H Q h => ?_
  obtain ⟨ρ, st, env, d, st', R, E, ev, k⟩ := h
  obtain ⟨dx, st1, e1, e2⟩ := M.bind_some ev
  obtain ⟨t, st2, e3, e4⟩ := M.bind_some e2
  obtain rfl := truth_same e3
  obtain ⟨rfl, rfl⟩ := M.ret_some e4
  exact ⟨ρ, st, env, dx, _, R, E, e1, fun ρ1 H1 x l1 R1 r1 => ⟨t, truth_V R1 r1 e3, k ρ1 H1 _ l1 R1 .bl⟩⟩
theorem pem_ite {cc : Expr} (hc : PTM X (testM fc) cc) (ha : PEM X fa a) (hb : PEM X fb b) : PEM X (iteM fc fa fb) (.IfExp cc a b pos) := by
  refine PE_imp (pe_ifExp hc ha hb) fun σ H Q h => ?_
  obtain ⟨ρ, st, env, d, st', R, E, ev, k⟩ := h
  obtain ⟨dx, st1, e1, e2⟩ := M.bind_some ev
  obtain ⟨t, st2, e3, e4⟩ := M.bind_some e2
  have e5 : testM fc env st = some (t, st2) := by
    unfold testM M.bind
    rw [e1]
    exact e3
  refine ⟨ρ, st, env, t, st2, R, E, e5, fun ρ1 H1 l1 R1 => ?_⟩
  cases t with
  | true => exact iteT ⟨ρ1, _, env, d, st', R1, E.le l1, e4, fun ρ3 H3 v l3 R3 r3 => k ρ3 H3 v (l1.trans l3) R3 r3⟩
  | false => exact iteF ⟨ρ1, _, env, d, st', R1, E.le l1, e4, fun ρ3 H3 v l3 R3 r3 => k ρ3 H3 v (l1.trans l3) R3 r3⟩

/-! ### tests -/
theorem ptm_truth (ha : PEM X fa a) (he : ∀ whole, isTrue a X.env whole = (do let v ← whole; standAt a.pos; holding [v] (truthy v))) : PTM X (testM fa) a := by
  refine PT_imp (pt_truth ha he) fun σ H Q h => ?_
  obtain ⟨ρ, st, env, t, st', R, E, ev, k⟩ := h
  obtain ⟨dx, st1, e1, e3⟩ := M.bind_some ev
  obtain rfl := truth_same e3
  exact ⟨ρ, st, env, dx, _, R, E, e1, fun ρ1 H1 x l1 R1 r1 => ⟨t, truth_V R1 r1 e3, k ρ1 H1 l1 R1⟩⟩
/-- a value that is always a truth value -/
def Blf (f : Env → M D) : Prop := ∀ env st d st', f env st = some (d, st') → ∃ b, d = .bl b
theorem ptm_bl {t : TE} (hb : Blf f) (hp : PT X e (tTest t)) (ht : ∀ σ H Q, TeM X.K f σ H Q → t σ H Q) : PTM X (testM f) e := by
  refine PT_imp hp fun σ H Q h => ?_
  obtain ⟨ρ, st, env, t, st', R, E, ev, k⟩ := h
  obtain ⟨dx, st1, e1, e3⟩ := M.bind_some ev
  obtain ⟨bb, rfl⟩ := hb _ _ _ _ e1
  obtain ⟨rfl, rfl⟩ := M.ret_some e3
  refine ht σ H _ ⟨ρ, st, env, _, _, R, E, e1, fun ρ1 H1 v l1 R1 r1 => ?_⟩
  obtain ⟨rfl, _⟩ := r1.of_v
  exact ⟨_, rfl, k ρ1 H1 l1 R1⟩
theorem ptm_cmp {op : Cop} (hu : Rm X) (ha : PEM X fa a) (hb : PEM X fb b) (hm : behindInMarks op.op b = false) : PTM X (testM fun env => M.bind (fa env) fun x => M.bind (fb env) fun y => cmpM op x y) (.Compare a [op.op] [b] pos) := by
  refine ptm_bl (fun env st d st' h => ?_) (pt_cmpR (op_cmpM op (by have := hu.un; omega)) ha hb hm) fun _ _ _ h => two (fun _ _ _ _ z => z) h
  obtain ⟨dx, st1, e1, e2⟩ := M.bind_some h
  obtain ⟨dy, st2, e3, e4⟩ := M.bind_some e2
  exact (cmpM_bl e4).2
theorem ptm_chain {op op' : Cop} (hu : Rm X) (ha : PEM X fa a) (hb : PEM X fb b) (hc : PEM X fc c) (hm : lastMarks [op.op, op'.op] [b, c] = false) : PTM X (testM (chainM op op' fa fb fc)) (.Compare a [op.op, op'.op] [b, c] pos) := by
  refine ptm_bl (fun env st d st' h => ?_) (pt_chain (op_cmpM op (by have := hu.un; omega)) (op_cmpM op' (by have := hu.un; omega)) ha hb hc hm) fun _ _ _ h => chain_read h
  obtain ⟨dx, st1, e1, e2⟩ := M.bind_some h
  obtain ⟨dy, st2, e3, e4⟩ := M.bind_some e2
  obtain ⟨dt, st3, e5, e6⟩ := M.bind_some e4
  obtain ⟨_, bt, rfl⟩ := cmpM_bl e5
  cases bt with
  | true =>
    obtain ⟨dz, st4, e7, e8⟩ := M.bind_some e6
    exact (cmpM_bl e8).2
  | false => exact ⟨_, (M.ret_some e6).1.symm⟩
theorem ptm_not (ha : PTM X (testM fa) a) : PTM X (testM (notM fa)) (.UnaryOp .Not a pos) := by
  refine PT_imp (pt_not ha) fun σ H Q h => ?_
  obtain ⟨ρ, st, env, t, st', R, E, ev, k⟩ := h
  obtain ⟨dx, st1, e1, e3⟩ := M.bind_some ev
  obtain ⟨dy, st2, e4, e5⟩ := M.bind_some e1
  obtain ⟨t2, st3, e6, e7⟩ := M.bind_some e5
  obtain ⟨rfl, rfl⟩ := M.ret_some e7
  obtain ⟨rfl, rfl⟩ := M.ret_some e3
  refine ⟨ρ, st, env, t2, _, R, E, ?_, k⟩
  unfold testM M.bind
  rw [e4]
  exact e6
theorem pwm_and1 (ha : PTM X (testM fa) a) : PWM X (testM fa) (.BoolOp .And [a] pos) := pw_and1 ha
theorem pwm_or1 (ha : PTM X (testM fa) a) : PWM X (testM fa) (.BoolOp .Or [a] pos) := pw_or1 ha
theorem pwm_and {rest : List Expr} (ha : PTM X (testM fa) a) (hb : PWM X (testM fb) (.BoolOp .And (b :: rest) pos)) : PWM X (testM (andM fa fb)) (.BoolOp .And (a :: b :: rest) pos) := by
  refine PW_imp (pw_and ha hb) fun σ H Q h => ?_
  obtain ⟨ρ, st, env, t, st', R, E, ev, k⟩ := h
  obtain ⟨dx, st1, e1, e3⟩ := M.bind_some ev
  obtain ⟨dy, st2, e4, e5⟩ := M.bind_some e1
  obtain ⟨t2, st3, e6, e7⟩ := M.bind_some e5
  refine ⟨ρ, st, env, t2, st3, R, E, by unfold testM M.bind; rw [e4]; exact e6, fun ρ1 H1 l1 R1 => ?_⟩
  cases t2 with
  | true => exact iteT ⟨ρ1, _, env, t, st', R1, E.le l1, by unfold testM M.bind; rw [show fb env st3 = some (dx, st1) from e7]; exact e3, fun ρ3 H3 l3 R3 => k ρ3 H3 (l1.trans l3) R3⟩
  | false =>
    obtain ⟨rfl, rfl⟩ := M.ret_some e7
    obtain rfl := truth_same e6
    rw [e6] at e3
    cases e3
    exact iteF (k ρ1 H1 l1 R1)
theorem pwm_or {rest : List Expr} (ha : PTM X (testM fa) a) (hb : PWM X (testM fb) (.BoolOp .Or (b :: rest) pos)) : PWM X (testM (orM fa fb)) (.BoolOp .Or (a :: b :: rest) pos) := by
  refine PW_imp (pw_or ha hb) fun σ H Q h => ?_
  obtain ⟨ρ, st, env, t, st', R, E, ev, k⟩ := h
  obtain ⟨dx, st1, e1, e3⟩ := M.bind_some ev
  obtain ⟨dy, st2, e4, e5⟩ := M.bind_some e1
  obtain ⟨t2, st3, e6, e7⟩ := M.bind_some e5
  refine ⟨ρ, st, env, t2, st3, R, E, by unfold testM M.bind; rw [e4]; exact e6, fun ρ1 H1 l1 R1 => ?_⟩
  cases t2 with
  | false => exact iteF ⟨ρ1, _, env, t, st', R1, E.le l1, by unfold testM M.bind; rw [show fb env st3 = some (dx, st1) from e7]; exact e3, fun ρ3 H3 l3 R3 => k ρ3 H3 (l1.trans l3) R3⟩
  | true =>
    obtain ⟨rfl, rfl⟩ := M.ret_some e7
    obtain rfl := truth_same e6
    rw [e6] at e3
    cases e3
    exact iteT (k ρ1 H1 l1 R1)

/-! ### argument lists, displays -/
theorem pam_nil : PAM X (fun _ => M.ret []) [] := by
  refine PA_imp pa_nil fun σ H Q h => ?_
  obtain ⟨ρ, st, env, t, st', R, E, ev, k⟩ := h
  obtain ⟨rfl, rfl⟩ := M.ret_some ev
  exact k ρ H [] .refl R .nil
theorem pam_cons (ha : PEM X fa a) (hr : PAM X fs es) (hs : starEach (a :: es) X.env = (false, eval a X.env) :: starEach es X.env) : PAM X (fun env => M.bind (fa env) fun x => M.bind (fs env) fun xs => M.ret (x :: xs)) (a :: es) := by
  refine PA_imp (pa_cons ha hr hs) fun σ H Q h => ?_
  obtain ⟨ρ, st, env, d, st', R, E, ev, k⟩ := h
  obtain ⟨dx, st1, e1, e2⟩ := M.bind_some ev
  obtain ⟨dy, st2, e3, e4⟩ := M.bind_some e2
  obtain ⟨rfl, rfl⟩ := M.ret_some e4
  exact ⟨ρ, st, env, dx, st1, R, E, e1, fun ρ1 H1 x l1 R1 r1 => ⟨ρ1, st1, env, dy, _, R1, E.le l1, e3, fun ρ2 H2 y l2 R2 r2 => k ρ2 H2 _ (l1.trans l2) R2 (.cons (r1.le l2) r2)⟩⟩
theorem pkm_nil : PKM X (fun _ => M.ret []) [] := by
  refine PK_imp pk_nil fun σ H Q h => ?_
  obtain ⟨ρ, st, env, t, st', R, E, ev, k⟩ := h
  obtain ⟨rfl, rfl⟩ := M.ret_some ev
  exact k ρ H [] .refl R .nil
theorem pkm_cons {kws : List Keyword} {nm : Option Str} {kp : Pos} (ha : PEM X fa a) (hr : PKM X fs kws) : PKM X (fun env => M.bind (fa env) fun x => M.bind (fs env) fun xs => M.ret (x :: xs)) (⟨nm, a, kp⟩ :: kws) := by
  refine PK_imp (pk_cons ha hr) fun σ H Q h => ?_
  obtain ⟨ρ, st, env, d, st', R, E, ev, k⟩ := h
  obtain ⟨dx, st1, e1, e2⟩ := M.bind_some ev
  obtain ⟨dy, st2, e3, e4⟩ := M.bind_some e2
  obtain ⟨rfl, rfl⟩ := M.ret_some e4
  exact ⟨ρ, st, env, dx, st1, R, E, e1, fun ρ1 H1 x l1 R1 r1 => ⟨ρ1, st1, env, dy, _, R1, E.le l1, e3, fun ρ2 H2 y l2 R2 r2 => k ρ2 H2 _ (l1.trans l2) R2 (.cons (r1.le l2) r2)⟩⟩
theorem pem_tup {k : Nat} (h : PAM X fs es) : PEM X (fun env => M.bind (fs env) fun ds => if sizeOk ds.length then M.ret (.tup ds) else M.fail) (.Tuple es k pos) := by
  refine PE_imp (pe_tup h) fun σ H Q h => ?_
  obtain ⟨ρ, st, env, d, st', R, E, ev, k⟩ := h
  obtain ⟨ds, st1, e1, e2⟩ := M.bind_some ev
  split at e2
  · rename_i hz
    obtain ⟨rfl, rfl⟩ := M.ret_some e2
    exact ⟨ρ, st, env, ds, _, R, E, e1, fun ρ1 H1 xs l1 R1 r1 => ⟨by rw [r1.length]; exact line_nat hz, lay_tup R1 r1 fun ρ2 H2 v l2 R2 r2 => k ρ2 H2 v (l1.trans l2) R2 r2⟩⟩
  · cases e2
theorem pem_lst (h : PAM X fs es) : PEM X (fun env => M.bind (fs env) fun ds => if sizeOk ds.length then newO (.lst ds) else M.fail) (.List es pos) := by
  refine PE_imp (pe_lst h) fun σ H Q h => ?_
  obtain ⟨ρ, st, env, d, st', R, E, ev, k⟩ := h
  obtain ⟨ds, st1, e1, e2⟩ := M.bind_some ev
  split at e2
  · rename_i hz
    obtain ⟨rfl, rfl⟩ := newO_some e2
    exact ⟨ρ, st, env, ds, _, R, E, e1, fun ρ1 H1 xs l1 R1 r1 => ⟨by rw [r1.length]; exact line_nat hz, lay_lst R1 r1 fun ρ2 H2 v l2 R2 r2 => k ρ2 H2 v (l1.trans l2) R2 r2⟩⟩
  · cases e2

/-! ### built-ins -/
theorem call_read {r : List V → Hp → VK → Prop} {g : List D → M D} {σ : L2.St} {H : Hp} {Q : VK} (hr : ∀ xs H Q, RnM X.K g xs H Q → r xs H Q) (h : TeM X.K (fun env => M.bind (fs env) g) σ H Q) : tCB r (TaM X.K fs) σ H Q := by
  obtain ⟨ρ, st, env, d, st', R, E, ev, k⟩ := h
  obtain ⟨ds, st1, e1, e2⟩ := M.bind_some ev
  exact ⟨ρ, st, env, ds, st1, R, E, e1, fun ρ1 H1 xs l1 R1 r1 => hr xs H1 Q ⟨ρ1, st1, ds, d, st', R1, r1, e2, fun ρ2 H2 v l2 R2 r2 => k ρ2 H2 v (l1.trans l2) R2 r2⟩⟩
def B.name : B → Str
  | .len => "len" | .int => "int" | .abs => "abs" | .divmod => "divmod" | .list => "list" | .tuple => "tuple"
  | .all => "all" | .any => "any" | .sum => "sum" | .min => "min" | .max => "max"
  | .sorted => "sorted" | .sortedR => "sorted" | .repr => "repr" | .bool => "bool"
theorem pem_blt {bb : B} {p : Pos} (hu : Rm X) (hg : Gl X bb.name) (hm : X.mg bb.name = none) (ha : PAM X fs (e :: es)) (he : starEach (e :: es) X.env = (false, eval e X.env) :: starEach es X.env) (hpl : (backTo pos (starEach es X.env)).any (·.1) = false) :
    PEM X (fun env => M.bind (fs env) fun ds => bltM bb ds) (.Call (.Name bb.name p) (e :: es) [] pos) := by
  have hc := call_blt hu bb
  cases bb <;> first
    | exact PE_imp (pe_callB hc hg hm (by decide +kernel) ha (by decide) (by decide) he hpl) fun _ _ _ h => call_read (fun _ _ _ z => z) h
    | exact PE_imp (pe_callTy hc hg hm (by decide +kernel) ha (by decide) (by decide) he hpl) fun _ _ _ h => call_read (fun _ _ _ z => z) h

/-- f(e, ..), f a name of math -/
theorem pem_mth {b : Bf} {x : Str} {p : Pos} (hg : Gl X x) (hm : X.mg x = some (.builtin b.id)) (hdb : (x == ("__debug__" : Str)) = false) (ha : PAM X fs (e :: es)) (he : starEach (e :: es) X.env = (false, eval e X.env) :: starEach es X.env) (hpl : (backTo pos (starEach es X.env)).any (·.1) = false) :
    PEM X (fun env => M.bind (fs env) fun ds => mthM b ds) (.Call (.Name x p) (e :: es) [] pos) :=
  PE_imp (pe_callBfun (call_mth b) hg hm ha hdb he hpl) fun _ _ _ h => call_read (fun _ _ _ z => z) h
/-! ### methods of lists -/
theorem listQ_some {K : PySem.W.Frag} {ρ : List Addr} {H : Hp} {st st' : Store} {x : V} {d : D} {u : Unit} (R : RS K ρ H st) (r : Rep K ρ H x d) (h : listQ d st = some (u, st')) : st' = st ∧ tyV K "list" x H := by
  unfold listQ at h
  obtain ⟨ds, st1, e1, e2⟩ := M.bind_some h
  obtain ⟨hl, e3⟩ := M.when_some e2
  obtain ⟨_, rfl⟩ := M.ret_some e3
  obtain ⟨rfl, a, xs, rfl, h1, h2, h3, h4⟩ := items_seq R r e1
  exact ⟨rfl, .inl ⟨rfl, xs, h3 (isLoc_ex hl)⟩⟩
theorem meth_read {g : D → List D → M D} {σ : L2.St} {H : Hp} {Q : VK}
    (h : TeM X.K (fun env => M.bind (fa env) fun x => M.bind (listQ x) fun _ => M.bind (fs env) fun ds => g x ds) σ H Q) : tBM X.K "list" (RmM X.K g) (TeM X.K fa) (TaM X.K fs) σ H Q := by
  obtain ⟨ρ, st, env, d, st', R, E, ev, k⟩ := h
  obtain ⟨dx, st1, e1, e2⟩ := M.bind_some ev
  obtain ⟨_, st2, e3, e4⟩ := M.bind_some e2
  obtain ⟨ds, st3, e5, e6⟩ := M.bind_some e4
  refine ⟨ρ, st, env, dx, st1, R, E, e1, fun ρ1 H1 x l1 R1 r1 => ?_⟩
  obtain ⟨rfl, ty⟩ := listQ_some R1 r1 e3
  exact ⟨ty, ⟨ρ1, _, env, ds, st3, R1, E.le l1, e5, fun ρ2 H2 y l2 R2 r2 =>
    ⟨ρ2, st3, dx, ds, d, st', R2, r1.le l2, r2, e6, fun ρ3 H3 v l3 R3 r3 => k ρ3 H3 v ((l1.trans l2).trans l3) R3 r3⟩⟩⟩
def Bm.name : Bm → Str
  | .append => "append" | .count => "count"
theorem pem_meth {m : Bm} {o : Expr} {ap : Pos} (ho : PEM X fa o) (ha : PAM X fs (e :: es)) (hbase : attributeBase o m.name X.env (eval o X.env) = eval o X.env)
    (hfew : ((backTo pos (starEach (e :: es) X.env)).all (fun x => !x.1) && (backToKw pos (keywordEach [] X.env)).all (fun x => x.1.isSome)
      && decide ((e :: es).length + ([] : List Keyword).length + (if ([] : List Keyword).isEmpty then 0 else 1) < 30)) = true)
    (hline : (ap.endLine == pos.line) = true) (he : starEach (e :: es) X.env = (false, eval e X.env) :: starEach es X.env) (hpl : (backTo pos (starEach es X.env)).any (·.1) = false) :
    PEM X (fun env => M.bind (fa env) fun x => M.bind (listQ x) fun _ => M.bind (fs env) fun ds => methM m x ds) (.Call (.Attribute o m.name ap) (e :: es) [] pos) := by
  cases m with
  | append => exact PE_imp (pe_bm PySem.F.plainAttrs_list PySem.F.slot_list_append PySem.F.type_list_append app_M ho ha hbase hfew hline he hpl) fun _ _ _ h => meth_read h
  | count => exact PE_imp (pe_bm PySem.F.plainAttrs_list PySem.F.slot_list_count PySem.F.type_list_count cnt_M ho ha hbase hfew hline he hpl) fun _ _ _ h => meth_read h

/-! ### isinstance against a built-in type -/
def isiOk (t : Str) : Bool := t == "int" || t == "bool" || t == "tuple" || t == "str" || t == "list" || t == "dict"
theorem call_isiM {T : String} (hT : T = "int" ∨ T = "bool" ∨ T = "tuple" ∨ T = "str" ∨ T = "list" ∨ T = "dict") : CallR X (.builtin "isinstance") (fun xs H Q => ∃ x ρ st dx d st', xs = [x, .ty T] ∧ RS X.K ρ H st ∧ Rep X.K ρ H x dx ∧ isiM dx (PySem.Str.ofString T) st = some (d, st') ∧
    ∀ ρ' H' v, Le ρ H ρ' H' → RS X.K ρ' H' st' → Rep X.K ρ' H' v d → Q v H') := by
  rintro pins s σ H xs us Q I r ⟨x, ρ, st, dx, d, st', rfl, R, rp, e, k⟩
  have go : ∀ (tv : Value) (b : Bool), TyX X.K H x tv → PySem.W.kitOne X.K tv (.type T) = some b → d = .bl b → st' = st → wpAny (model X.prog X.w) X.A (call (.builtin "isinstance") us) (EP X pins σ Q) X.xe s := by
    rintro tv b h1 h2 rfl rfl
    exact call_isi pins s σ H _ us Q I r ⟨x, .ty T, tv, _, b, rfl, .ty T, h1, h2, k ρ H _ .refl R .bl⟩
  unfold isiM at e
  split at e
  · obtain ⟨rfl, rfl⟩ := M.ret_some e
    obtain ⟨rfl, _⟩ := rp.of_v
    refine go (.type "int") _ (.base (.int _)) ?_ rfl rfl
    rcases hT with rfl | rfl | rfl | rfl | rfl | rfl <;> rfl
  · obtain ⟨rfl, rfl⟩ := M.ret_some e
    obtain ⟨rfl, _⟩ := rp.of_v
    refine go (.type "bool") _ (.base (.bl _)) ?_ rfl rfl
    rcases hT with rfl | rfl | rfl | rfl | rfl | rfl <;> rfl
  · obtain ⟨rfl, rfl⟩ := M.ret_some e
    obtain ⟨rfl, _⟩ := rp.of_v
    refine go (.type "str") _ (.base (.str _)) ?_ rfl rfl
    rcases hT with rfl | rfl | rfl | rfl | rfl | rfl <;> rfl
  · obtain ⟨rfl, rfl⟩ := M.ret_some e
    obtain ⟨rfl, _⟩ := rp.of_v
    refine go (.type "NoneType") _ (.base .non) ?_ rfl rfl
    rcases hT with rfl | rfl | rfl | rfl | rfl | rfl <;> rfl
  · obtain ⟨rfl, rfl⟩ := M.ret_some e
    obtain ⟨a, xs, rfl, h1, h2⟩ := rp.of_tup
    refine go (.type "tuple") _ ?_ ?_ rfl rfl
    · rcases h1 with (h1 | ⟨o, h1⟩) | ⟨o, its, n, h1, h3, _⟩
      · exact .base (.tup h1)
      · exact .fTuple h1
      · exact .kTuple h1 h3
    · rcases hT with rfl | rfl | rfl | rfl | rfl | rfl <;> rfl
  · obtain ⟨o, st1, e1, e2⟩ := M.bind_some e
    obtain ⟨g1, rfl⟩ := getO_some e1
    obtain ⟨rfl, rfl⟩ := M.ret_some e2
    obtain ⟨a, rfl, hn⟩ := rp.of_loc
    obtain ⟨o', ho, hr⟩ := R.lt hn
    rw [g1] at ho
    cases ho
    cases o with
    | lst es =>
      obtain ⟨xs, h1, h2⟩ := hr
      refine go (.type "list") _ (.base (.lst h1)) ?_ rfl rfl
      rcases hT with rfl | rfl | rfl | rfl | rfl | rfl <;> rfl
    | dct es =>
      obtain ⟨xs, h1, h2⟩ := hr
      refine go (.type "dict") _ (.base (.dK h1)) ?_ rfl rfl
      rcases hT with rfl | rfl | rfl | rfl | rfl | rfl <;> rfl
  · cases e
theorem pem_isi {T : String} {p p2 : Pos} (hT : T = "int" ∨ T = "bool" ∨ T = "tuple" ∨ T = "str" ∨ T = "list" ∨ T = "dict") (hg : Gl X "isinstance") (hm : X.mg "isinstance" = none) (hg2 : Gl X (PySem.Str.ofString T)) (hm2 : X.mg (PySem.Str.ofString T) = none) (ha : PEM X fa a)
    (he : starEach [a, .Name (PySem.Str.ofString T) p2] X.env = (false, eval a X.env) :: starEach [.Name (PySem.Str.ofString T) p2] X.env) :
    PEM X (fun env => M.bind (fa env) fun x => isiM x (PySem.Str.ofString T)) (.Call (.Name "isinstance" p) [a, .Name (PySem.Str.ofString T) p2] [] pos) := by
  have hb : PE X (.Name (PySem.Str.ofString T) p2) (tC (.ty T)) := by
    rcases hT with rfl | rfl | rfl | rfl | rfl | rfl <;> exact pe_bltn (u := .type _) hg2 hm2 (by decide +kernel) rfl (by decide) (by decide)
  refine PE_imp (pe_callB (call_isiM hT) hg hm (by decide +kernel) (pa_cons ha (pa_cons hb pa_nil) he) (by decide) (by decide) he rfl) fun σ H Q h => ?_
  obtain ⟨ρ, st, env, d, st', R, E, ev, k⟩ := h
  obtain ⟨dx, st1, e1, e2⟩ := M.bind_some ev
  exact ⟨ρ, st, env, dx, st1, R, E, e1, fun ρ1 H1 x l1 R1 r1 => ⟨x, ρ1, st1, dx, d, st', rfl, R1, r1, e2, fun ρ2 H2 v l2 R2 r2 => k ρ2 H2 v (l1.trans l2) R2 r2⟩⟩
end
end MP

set_option Elab.async false
set_option linter.all false
set_option maxRecDepth 100000
/-! M5: slices, also the one that turns a tuple about. -/
namespace MP
open PySem L2 PyProof.Rows
section
variable {prog : Program} {w : World} {A : Around} {E : Value → Shared → Prop} {s : Shared}
theorem rev_list (xs : Array Value) : ((List.range xs.size).filterMap fun (m : Nat) => xs[((xs.size : Int) - 1 + (m : Int) * (-1)).toNat]?).toArray = xs.toList.reverse.toArray := by
  congr 1
  apply List.ext_getElem?
  intro i
  have aux : ∀ n, n ≤ xs.size → ((List.range n).filterMap fun (m : Nat) => xs[((xs.size : Int) - 1 + (m : Int) * (-1)).toNat]?) = xs.toList.reverse.take n := by
    intro n
    induction n with
    | zero => intro _; simp
    | succ n ih =>
      intro hn
      rw [List.range_succ, List.filterMap_append, ih (by omega)]
      have h1 : ((xs.size : Int) - 1 + (n : Int) * (-1)).toNat = xs.size - 1 - n := by omega
      have h2 : n < xs.toList.reverse.length := by simp; omega
      rw [List.take_succ_eq_append_getElem h2]
      congr 1
      simp only [List.filterMap_cons, List.filterMap_nil]
      rw [h1]
      have h3 : xs.size - 1 - n < xs.size := by omega
      rw [Array.getElem?_eq_getElem h3]
      simp
  rw [aux xs.size (Nat.le_refl _)]
  rw [List.take_of_length_le (by simp)]
theorem tup_back {t sl : Addr} {items : Array Value} {vs : Value} {Q : Value → Shared → Prop} (ht : IsTup s.heap t items) (hs : s.heap.IsSliceOf sl .none .none vs) (ps : IsPart vs (some (-1)))
    (h : Q (.ref s.heap.objs.size) { s with heap := s.heap.push { cls := .type "tuple", data := .seq items.toList.reverse.toArray } })
    (hsz : items.size ≤ sizeLine) : wpAny (model prog w) A (getItem (.ref t) (.ref sl)) Q E s := by
  have hz : PySem.sizeOk (.seq items.toList.reverse.toArray) := by
    show items.toList.reverse.toArray.size ≤ sizeLine
    simpa using hsz
  obtain ⟨os, hos, hcs, hds⟩ := id hs
  have hTs : s.TypeIs (.ref sl) "slice" := ⟨os, hos, hcs⟩
  unfold getItem
  try with_reducible refine wpAny_holding ?_
  first | refine wpAny_bind (wpAny_pure ?_) | skip
  refine wpAny_bind (wpAny_sequenceKey ht.typeIs (by decide) ?_)
  refine wpAny_bind (wpAny_callSpecial?_slot (name := Str.ofString "__getitem__") ht.typeIs PyProof.Rows.slot_tuple_getitem
    (wpAny_call_entry PyProof.Rows.slot_tuple_getitem ht.typeIs entry_tuple_getitem ?_ (args_tuple_getitem _ _)))
  show wpAny _ _ (Builtin.Tuple.tupleItemsOf (.ref t) >>= _) _ _ s
  refine wpAny_bind (PyProof.Rows.tupleItemsOf_ ht ?_)
  refine wpAny_bind (wpAny_typeOf hTs ?_)
  rw [if_pos (by decide)]
  have ap : ∀ {A' : Around} {R : Int × Int × Nat → Shared → Prop}, R ((items.size : Int) - 1, -1, items.size) s → wpAny (model prog w) A' (Builtin.Slice.sliceApplied (.ref sl) (pure (items.size : Int))) R E s := by
    intro A' R hR
    unfold Builtin.Slice.sliceApplied Builtin.Slice.sliceFields
    refine wpAny_bind (wpAny_bind (wpAny_field hos hds (x := .none) rfl (wpAny_bind (wpAny_field hos hds (x := .none) rfl (wpAny_bind (wpAny_field hos hds (x := vs) rfl (wpAny_pure ?_)))))))
    refine wpAny_bind (HT.slicePart_ ps ?_)
    show wpAny _ _ (if ((-1 : Int) == 0) = true then _ else _) _ _ s
    rw [if_neg (by decide)]
    refine wpAny_bind (slicePart_none (wpAny_bind (slicePart_none (wpAny_bind (wpAny_pure ?_)))))
    show wpAny _ _ (pure (((items.size : Int) - 1), (-1 : Int), Builtin.Slice.slicePlaces ((items.size : Int) - 1) (-1) (-1))) _ _ s
    have hp : Builtin.Slice.slicePlaces ((items.size : Int) - 1) (-1) (-1) = items.size := by
      unfold Builtin.Slice.slicePlaces
      have h1 : ¬ ((-1 : Int) > 0) := by omega
      simp only [h1, if_false, Int.neg_neg, Int.ediv_one]
      split <;> omega
    rw [hp]
    exact wpAny_pure hR
  refine wpAny_bind (ap ?_)
  have hno : ¬ ((((items.size : Int) - 1) == 0 && (-1 : Int) == 1 && items.size == items.size) = true) := by
    intro q
    rw [Bool.and_eq_true, Bool.and_eq_true] at q
    exact absurd q.1.2 (by decide)
  show wpAny _ _ (if (((items.size : Int) - 1) == 0 && (-1 : Int) == 1 && items.size == items.size) = true then _ else _) _ _ s
  rw [if_neg hno]
  show wpAny _ _ (do let r ← Builtin.Tuple.tupleExact ((List.range items.size).filterMap fun (k : Nat) => items[((items.size : Int) - 1 + (k : Int) * (-1)).toNat]?).toArray; ret r) _ _ s
  rw [rev_list]
  exact wpAny_bind (m := Builtin.Tuple.tupleExact _) (wpAny_newObj_type (wpAny_pure ⟨_, rfl, wpAny_pure h⟩) hz)
end
section
variable {X : Cx} {a e : Expr} {fa : Env → M D} {pos : Pos}
theorem pe_back {te : TE} {k : Nat} {p1 p2 p3 : Pos} (he : PE X e te) : PE X (.Subscript e (.Slice none none (some (.UnaryOp .USub (.Constant (.int 1) k p1) p2)) p3) pos) (fun σ H Q => te σ H fun x H1 => R1M X.K revM x H1 Q) := by
  refine ⟨fun pins s σ H Q I h => Subscript_ (thn (he.run pins s σ H _ I h) fun v s1 ⟨x, H1, I1, r1, q1⟩ => ?_)⟩
  obtain ⟨ρ, st, dx, d, st', R, rp, ev, kk⟩ := q1
  have hm1 : PO X (some (.UnaryOp .USub (.Constant (.int 1) k p1) p2)) (tPart (tUn (rU fun i => .int (-i)) (tC (.int 1)))) := po_some (pe_un un_neg pe_int)
  refine wpAny_Slice (thn (po_none.run pins s1 σ H1 (fun o H2 => o = none ∧ H2 = H1) I1 ⟨rfl, rfl⟩) fun vl s2 ⟨l, H2, I2, pl, el, e2⟩ => ?_)
  subst el e2
  refine thn (po_none.run pins s2 σ H2 (fun o H3 => o = none ∧ H3 = H2) I2 ⟨rfl, rfl⟩) fun vu s3 ⟨u, H3, I3, pu, eu, e3⟩ => ?_
  subst eu e3
  refine thn (hm1.run pins s3 σ H3 (fun o H4 => o = some (-1) ∧ H4 = H3) I3 ⟨1, rfl, -1, rfl, rfl, rfl⟩) fun vs s4 ⟨o, H4, I4, ps, eo, e4⟩ => ?_
  subst eo e4
  cases pl
  cases pu
  have I5 : Inv X pins σ H4 { s4 with heap := s4.heap.push { cls := .type "slice", data := .fields #[.none, .none, vs] } } := I4.kept (t' := s4.toks) fun b ob q => Heap.get?_push_of_some _ q
  show wpAny (model X.prog X.w) X.A (subscriptTail e (.Slice none none (some (.UnaryOp .USub (.Constant (.int 1) k p1) p2)) p3) v (.ref s4.heap.objs.size)) (EP X pins σ Q) X.xe { s4 with heap := s4.heap.push { cls := .type "slice", data := .fields #[.none, .none, vs] } }
  unfold revM at ev
  split at ev
  · obtain ⟨rfl, rfl⟩ := M.ret_some ev
    obtain ⟨p, xs, rfl, h1, h2⟩ := rp.of_tup
    cases r1
    obtain ⟨its, r, ht, hz⟩ := I5.tuple h1
    have hlen := r.length
    refine tail_any (ops := [.ref p, .ref s4.heap.objs.size]) ht.typeIs (PyProof.Rows.slot_tuple_getitem.lookup) ?_ (by with_unfolding_all rfl)
    refine tup_back ht (Heap.IsSliceOf.new _ .none .none vs) ps ?_ (by rw [List.size_toArray]; omega)
    refine ⟨.ref _, _, I5.laid (t' := s4.toks) (o := .tup xs.reverse) (fun b ob q => Heap.get?_push_of_some _ q) (Nat.le_refl _) ?_, rfl, lay_tup R h2.reverse kk _ (I5.hok.fresh (Nat.le_refl _))⟩
    exact ⟨by rw [List.length_reverse]; exact hz, _, r.reverse, IsTup.new _ _⟩
  · rename_i n
    obtain ⟨es, st1, e1, e2⟩ := M.bind_some ev
    obtain ⟨rfl, p, xs, rfl, h1, h2, h3, h4⟩ := items_seq R rp e1
    obtain ⟨rfl, rfl⟩ := newO_some e2
    cases r1
    obtain ⟨its, r, ht, hz⟩ := I5.list (h3 ⟨n, rfl⟩)
    have hlen := r.length
    refine tail_any (ops := [.ref p, .ref s4.heap.objs.size]) ht.isList.typeIs (PySem.slot_list_getitem.lookup) ?_ (by with_unfolding_all rfl)
    refine wpAny_getItem_list_slice ht.isList (Heap.IsSliceOf.new _ .none .none vs) .none .none ps (by decide) ?_ (by rw [List.size_toArray]; omega)
    rw [PySem.W.krv_pick]
    refine ⟨.ref _, _, I5.laid (t' := s4.toks) (o := .lst xs.reverse) (fun b ob q => Heap.get?_push_of_some _ q) (Nat.le_refl _) ?_, rfl, lay_lst R h2.reverse kk _ (I5.hok.fresh (Nat.le_refl _))⟩
    exact ⟨by rw [List.length_reverse]; exact hz, _, 0, r.reverse, Heap.get?_push_size _ rfl⟩
  · cases ev
theorem pem_rev {k : Nat} {p1 p2 p3 : Pos} (ha : PEM X fa a) : PEM X (fun env => M.bind (fa env) revM) (.Subscript a (.Slice none none (some (.UnaryOp .USub (.Constant (.int 1) k p1) p2)) p3) pos) := by
  refine PE_imp (pe_back ha) fun σ H Q h => ?_
  obtain ⟨ρ, st, env, d, st', R, E, ev, k⟩ := h
  obtain ⟨dx, st1, e1, e2⟩ := M.bind_some ev
  exact ⟨ρ, st, env, dx, st1, R, E, e1, fun ρ1 H1 x l1 R1 r1 => ⟨ρ1, st1, dx, d, st', R1, r1, e2, fun ρ3 H3 v l3 R3 r3 => k ρ3 H3 v (l1.trans l3) R3 r3⟩⟩

/-! ### a[lo:hi] -/
theorem cut_rep {K : PySem.W.Frag} {ρ : List Addr} {H : Hp} {vs : List V} {ds : List D} (h : RepL K ρ H vs ds) (lo hi : Option Int) : RepL K ρ H (cutV vs lo hi) (cutD ds lo hi) := by
  unfold cutV cutD
  rw [h.length]
  exact (h.drop _).take _
theorem sl_M : SlR X (fun x lo hi H Q => ∃ ρ st dx d st', RS X.K ρ H st ∧ Rep X.K ρ H x dx ∧ slcM dx lo hi st = some (d, st') ∧ ∀ ρ' H' v, Le ρ H ρ' H' → RS X.K ρ' H' st' → Rep X.K ρ' H' v d → Q v H') := by
  rintro pins s σ H x v vl vu lo hi sl Q I rx hs pl pu ⟨ρ, st, dx, d, st', R, rp, ev, kk⟩
  unfold slcM at ev
  split at ev
  · obtain ⟨rfl, rfl⟩ := M.ret_some ev
    obtain ⟨p, xs, rfl, h1, h2⟩ := rp.of_tup
    refine sl_tupA pins s σ H _ v vl vu lo hi sl Q I rx hs pl pu ⟨p, xs, rfl, h1, fun hw => ?_, fun _ => lay_tup R (cut_rep h2 lo hi) kk⟩
    refine kk ρ H _ .refl R (.tup h1 ?_)
    have := cut_rep h2 lo hi
    unfold cutV at this
    rw [hw.1, hw.2, Nat.sub_zero, List.drop_zero, List.take_length] at this
    exact this
  · obtain ⟨rfl, rfl⟩ := newO_some ev
    obtain ⟨p, xs, rfl, h1, h2⟩ := rp.of_rl
    exact sl_list pins s σ H _ v vl vu lo hi sl Q I rx hs pl pu ⟨p, xs, rfl, h1.sq, lay_lst R (cut_rep h2 lo hi) kk⟩
  · rename_i n
    obtain ⟨es, st1, e1, e2⟩ := M.bind_some ev
    obtain ⟨rfl, p, xs, rfl, h1, h2, h3, h4⟩ := items_seq R rp e1
    obtain ⟨rfl, rfl⟩ := newO_some e2
    exact sl_list pins s σ H _ v vl vu lo hi sl Q I rx hs pl pu ⟨p, xs, rfl, h3 ⟨n, rfl⟩, lay_lst R (cut_rep h2 lo hi) kk⟩
  · cases ev
def ToM (K : PySem.W.Frag) (f : Env → M (Option Int)) : TO := fun σ H Q => ∃ ρ st env d st', RS K ρ H st ∧ ER K ρ H σ env ∧ f env st = some (d, st') ∧ ∀ ρ' H', Le ρ H ρ' H' → RS K ρ' H' st' → Q d H'
abbrev POM (X : Cx) (f : Env → M (Option Int)) (e : Option Expr) : Prop := PO X e (ToM X.K f)
theorem PO_imp {e : Option Expr} {t t' : TO} (h : PO X e t) (i : ∀ σ H Q, t' σ H Q → t σ H Q) : PO X e t' := ⟨fun pins s σ H Q I q => h.run pins s σ H Q I (i _ _ _ q)⟩
theorem pom_none : POM X (fun _ => M.ret none) none := by
  refine PO_imp po_none fun σ H Q h => ?_
  obtain ⟨ρ, st, env, d, st', R, E, ev, k⟩ := h
  obtain ⟨rfl, rfl⟩ := M.ret_some ev
  exact k ρ H .refl R
theorem intOf_some {d : D} {i : Int} (h : intOf d = some i) : d = .int i := by
  unfold intOf at h
  split at h
  · cases h; rfl
  · cases h
theorem pom_some (ha : PEM X fa a) : POM X (fun env => M.bind (fa env) fun d => M.opt (intOf d) fun i => M.ret (some i)) (some a) := by
  refine PO_imp (po_some ha) fun σ H Q h => ?_
  obtain ⟨ρ, st, env, d, st', R, E, ev, k⟩ := h
  obtain ⟨dx, st1, e1, e2⟩ := M.bind_some ev
  obtain ⟨i, e3, e4⟩ := M.opt_some e2
  obtain ⟨rfl, rfl⟩ := M.ret_some e4
  obtain rfl := intOf_some e3
  exact ⟨ρ, st, env, _, _, R, E, e1, fun ρ1 H1 x l1 R1 r1 => ⟨i, r1.of_int, k ρ1 H1 l1 R1⟩⟩
theorem pem_slc {lo hi : Option Expr} {fl fh : Env → M (Option Int)} {p2 : Pos} (ha : PEM X fa a) (hl : POM X fl lo) (hh : POM X fh hi) :
    PEM X (fun env => M.bind (fa env) fun x => M.bind (fl env) fun l => M.bind (fh env) fun h => slcM x l h) (.Subscript a (.Slice lo hi none p2) pos) := by
  refine PE_imp (pe_slice sl_M ha hl hh) fun σ H Q h => ?_
  obtain ⟨ρ, st, env, d, st', R, E, ev, k⟩ := h
  obtain ⟨dx, st1, e1, e2⟩ := M.bind_some ev
  obtain ⟨l, st2, e3, e4⟩ := M.bind_some e2
  obtain ⟨u, st3, e5, e6⟩ := M.bind_some e4
  exact ⟨ρ, st, env, dx, st1, R, E, e1, fun ρ1 H1 x l1 R1 r1 => ⟨ρ1, st1, env, l, st2, R1, E.le l1, e3, fun ρ2 H2 l2 R2 => ⟨ρ2, st2, env, u, st3, R2, (E.le l1).le l2, e5, fun ρ3 H3 l3 R3 =>
    ⟨ρ3, st3, dx, d, st', R3, (r1.le l2).le l3, e6, fun ρ4 H4 v l4 R4 r4 => k ρ4 H4 v (((l1.trans l2).trans l3).trans l4) R4 r4⟩⟩⟩⟩
end
end MP

set_option Elab.async false
set_option linter.all false
set_option maxRecDepth 100000
/-! M6: what is walked; for, while, comprehensions. -/
namespace MP
open PySem L2 PyProof.Rows
/-- a walk of the model that goes as the source tells -/
def ItOk (K : PySem.W.Frag) (src : Src) (J : It) (ρ0 : List Addr) (H0 : Hp) : Prop := ∀ (ρ : List Addr) (H : Hp) (st : Store) (i : Nat), Le ρ0 H0 ρ H → RS K ρ H st →
  (∀ d, src.at i st = some (some d) → J.go i H ∧ ∀ x H', J.yld i H x H' → Le ρ H ρ H' ∧ RS K ρ H' st ∧ Rep K ρ H' x d) ∧ (src.at i st = some none → J.stop i H)
def TiM (K : PySem.W.Frag) (f : Env → M Src) : TI := fun σ H R => ∃ ρ st env src st', RS K ρ H st ∧ ER K ρ H σ env ∧ f env st = some (src, st') ∧
  ∀ ρ' H' J, Le ρ H ρ' H' → RS K ρ' H' st' → ItOk K src J ρ' H' → R J H'
abbrev PIM (X : Cx) (tg : Expr) (f : Env → M Src) (e : Expr) : Prop := PI X tg e (TiM X.K f)
section
variable {X : Cx} {tg e a b c : Expr} {es : List Expr} {fa f : Env → M D} {fs : Env → M (List D)} {pos p : Pos} {K : PySem.W.Frag} {ρ : List Addr} {H : Hp} {st : Store}
theorem PI_imp {t t' : TI} (h : PI X tg e t) (i : ∀ σ H Q, t' σ H Q → t σ H Q) : PI X tg e t' := ⟨fun pins s σ H Q I q => h.run pins s σ H Q I (i _ _ _ q)⟩
theorem SqL_inj {a : Addr} {xs ys : List V} {H : Hp} (h : H a = some (.lst xs)) (h' : SqL K H a ys) (hk : K.lookup a = none) : ys = xs := by
  rcases h' with (h' | ⟨o, h'⟩) | ⟨o, its, n, h', _⟩
  · rw [h] at h'; cases h'; rfl
  · rw [h] at h'; cases h'
  · rw [hk] at h'; cases h'
/-- a list or tuple, as its value comes -/
theorem pim_seq (ha : PEM X fa a) : PIM X tg (fun env => M.bind (fa env) srcOf) a := by
  refine ⟨fun pins s σ H R I h => ?_⟩
  obtain ⟨ρ, st, env, src, st', RR, E, ev, k⟩ := h
  obtain ⟨dx, st1, e1, e2⟩ := M.bind_some ev
  refine thn (ha.run pins s σ H (fun x H1 => ∃ ρ1, Le ρ H ρ1 H1 ∧ RS X.K ρ1 H1 st1 ∧ Rep X.K ρ1 H1 x dx) I ⟨ρ, st, env, dx, st1, RR, E, e1, fun ρ1 H1 x l1 R1 r1 => ⟨ρ1, l1, R1, r1⟩⟩) fun v s1 ⟨x, H1, I1, rv, ρ1, l1, R1, r1⟩ => ?_
  clear ev e1
  unfold srcOf at e2
  split at e2
  · rename_i ds _
    obtain ⟨rfl, rfl⟩ := M.ret_some e2
    obtain ⟨p, xs, rfl, h1, h2⟩ := r1.of_tup
    cases rv
    obtain ⟨its, rit, pl, hz⟩ := I1.tuple h1
    refine wpAny_pyIter_tuple (show s1.heap.IsTuple p its.toArray from pl) ?_
    refine ⟨s1.heap.objs.size, [s1.heap.objs.size], _, _, H1, rfl, I1.kept (t' := s1.toks) fun b o e => Heap.get?_push_of_some _ e, turn_tuple p _, ⟨_, Heap.get?_push_size _ rfl, rfl, rfl⟩, fun b hb => ?_, ?_⟩
    · obtain rfl : b = s1.heap.objs.size := by simpa using hb
      exact I1.fpOk (Nat.le_refl _) (I1.hok.fresh (Nat.le_refl _))
    · refine k ρ1 H1 _ l1 R1 fun ρ2 H2 st2 i l2 R2 => ⟨fun d hd => ?_, fun hn => ?_⟩
      · have hd : ds[i]? = some d := by simpa [Src.at] using hd
        obtain ⟨w, hw, rw'⟩ := (h2.le l2).get hd
        refine ⟨⟨xs, w, SqT.le l2 h1, hw⟩, fun x H' ⟨eh, hx⟩ => ?_⟩
        subst eh
        have := hx xs (SqT.le l2 h1)
        rw [hw] at this
        cases this
        exact ⟨.refl, R2, rw'⟩
      · have hn : ds[i]? = none := by simpa [Src.at] using hn
        exact ⟨xs, SqT.le l2 h1, by rw [h2.length]; exact List.getElem?_eq_none_iff.mp hn⟩
  · rename_i ds _
    obtain ⟨rfl, rfl⟩ := M.ret_some e2
    obtain ⟨p, xs, rfl, h1, h2⟩ := r1.of_rl
    cases rv
    obtain ⟨its, rit, pl, hz⟩ := I1.list h1.sq
    refine wpAny_pyIter_list pl.isList ?_
    refine ⟨s1.heap.objs.size, [s1.heap.objs.size], _, _, H1, rfl, I1.kept (t' := s1.toks) fun b o e => Heap.get?_push_of_some _ e, turn_list p _, ⟨_, Heap.get?_push_size _ rfl, rfl, rfl⟩, fun b hb => ?_, ?_⟩
    · obtain rfl : b = s1.heap.objs.size := by simpa using hb
      exact I1.fpOk (Nat.le_refl _) (I1.hok.fresh (Nat.le_refl _))
    · refine k ρ1 H1 _ l1 R1 fun ρ2 H2 st2 i l2 R2 => ⟨fun d hd => ?_, fun hn => ?_⟩
      · have hd : ds[i]? = some d := by simpa [Src.at] using hd
        obtain ⟨w, hw, rw'⟩ := (h2.le l2).get hd
        refine ⟨⟨xs, w, (h1.le l2).sq, hw⟩, fun x H' ⟨eh, hx⟩ => ?_⟩
        subst eh
        have := hx xs (h1.le l2).sq
        rw [hw] at this
        cases this
        exact ⟨.refl, R2, rw'⟩
      · have hn : ds[i]? = none := by simpa [Src.at] using hn
        exact ⟨xs, (h1.le l2).sq, by rw [h2.length]; exact List.getElem?_eq_none_iff.mp hn⟩
  · rename_i n _
    obtain ⟨_, st2, e3, e4⟩ := M.bind_some e2
    obtain ⟨rfl, ty⟩ := listQ_some R1 r1 e3
    obtain ⟨rfl, rfl⟩ := M.ret_some e4
    obtain ⟨p, rfl, hn⟩ := r1.of_loc
    cases rv
    have lst : ∃ xs, SqL X.K H1 p xs := by
      rcases ty with ⟨_, h⟩ | ⟨z, _⟩ | ⟨z, _⟩ | ⟨z, _⟩
      · exact h
      all_goals exact absurd z (by decide)
    obtain ⟨xs, h1⟩ := lst
    obtain ⟨its, rit, pl, hz⟩ := I1.list h1
    refine wpAny_pyIter_list pl.isList ?_
    refine ⟨s1.heap.objs.size, [s1.heap.objs.size], _, _, H1, rfl, I1.kept (t' := s1.toks) fun b o e => Heap.get?_push_of_some _ e, turn_list p _, ⟨_, Heap.get?_push_size _ rfl, rfl, rfl⟩, fun b hb => ?_, ?_⟩
    · obtain rfl : b = s1.heap.objs.size := by simpa using hb
      exact I1.fpOk (Nat.le_refl _) (I1.hok.fresh (Nat.le_refl _))
    · refine k ρ1 H1 _ l1 R1 fun ρ2 H2 st2 i l2 R2 => ?_
      obtain ⟨o2, ho2, hr2⟩ := R2.lt (l2.pre _ _ hn)
      have fin : ∀ (ds : List D) (ys : List V), SqL X.K H2 p ys → RepL X.K ρ2 H2 ys ds → (Src.loc n).at i st2 = some ds[i]? → (∀ d, (Src.loc n).at i st2 = some (some d) → (Itl X.K p).go i H2 ∧ ∀ x H', (Itl X.K p).yld i H2 x H' → Le ρ2 H2 ρ2 H' ∧ RS X.K ρ2 H' st2 ∧ Rep X.K ρ2 H' x d) ∧ ((Src.loc n).at i st2 = some none → (Itl X.K p).stop i H2) := by
        intro ds ys q1 q2 q3
        refine ⟨fun d hd => ?_, fun hnn => ?_⟩
        · rw [q3] at hd
          obtain ⟨w, hw, rw'⟩ := q2.get (Option.some.inj hd)
          refine ⟨⟨ys, w, q1, hw⟩, fun x H' ⟨eh, hx⟩ => ?_⟩
          subst eh
          have := hx ys q1
          rw [hw] at this
          cases this
          exact ⟨.refl, R2, rw'⟩
        · rw [q3] at hnn
          exact ⟨ys, q1, by rw [q2.length]; exact List.getElem?_eq_none_iff.mp (Option.some.inj hnn)⟩
      cases o2 with
      | lst ds =>
        obtain ⟨ys, q1, q2⟩ := hr2
        exact fin ds ys (SqL.of q1) q2 (by unfold Src.at; rw [ho2])
      | dct kvs =>
        refine ⟨fun d hd => ?_, fun hd => ?_⟩
        all_goals (unfold Src.at at hd; rw [ho2] at hd; cases hd)
  · cases e2
/-- over a range -/
theorem rng_ok {lo c : Int} {n : Nat} : ItOk K (.rng lo c n) (Itc lo c n) ρ H := fun ρ2 H2 st2 i l2 R2 => by
  refine ⟨fun d hd => ?_, fun hn => ?_⟩
  · unfold Src.at at hd
    split at hd
    · rename_i hi
      cases hd
      refine ⟨hi, fun x H' ⟨eh, hx⟩ => ?_⟩
      subst eh hx
      exact ⟨.refl, R2, .int⟩
    · cases hd
  · unfold Src.at at hn
    split at hn
    · cases hn
    · rename_i hi
      exact Nat.le_of_not_lt hi
theorem rng_ok1 {lo : Int} {n : Nat} : ItOk K (.rng lo 1 n) (Itr lo n) ρ H := fun ρ2 H2 st2 i l2 R2 => by
  obtain ⟨h1, h2⟩ := rng_ok (K := K) (lo := lo) (c := 1) (n := n) ρ2 H2 st2 i l2 R2
  refine ⟨fun d hd => ?_, h2⟩
  obtain ⟨h3, h4⟩ := h1 d hd
  exact ⟨h3, fun x H' ⟨eh, hx⟩ => h4 x H' ⟨eh, by rw [hx, Int.mul_one]⟩⟩
theorem s62 {i : Int} (h : small62 i = true) : -(2 ^ 62) ≤ i ∧ i < 2 ^ 62 := by
  unfold small62 at h
  simp only [Bool.and_eq_true, decide_eq_true_eq] at h
  exact h
theorem rng_cases {as : List D} {src : Src} {st st' : Store} (h : rngM as st = some (src, st')) : st' = st ∧
    ((∃ j, as = [.int j] ∧ small62 j = true ∧ src = .rng 0 1 j.toNat) ∨ (∃ i j, as = [.int i, .int j] ∧ small62 i = true ∧ small62 j = true ∧ src = .rng i 1 (j - i).toNat) ∨
      ∃ i j c, as = [.int i, .int j, .int c] ∧ rng3 i j c = true ∧ src = .rng i c (Builtin.Range.rangeSize i j c).toNat) := by
  unfold rngM at h
  split at h
  · obtain ⟨h1, h2⟩ := M.when_some h
    obtain ⟨rfl, rfl⟩ := M.ret_some h2
    exact ⟨rfl, .inl ⟨_, rfl, h1, rfl⟩⟩
  · obtain ⟨h1, h2⟩ := M.when_some h
    obtain ⟨rfl, rfl⟩ := M.ret_some h2
    rw [Bool.and_eq_true] at h1
    exact ⟨rfl, .inr (.inl ⟨_, _, rfl, h1.1, h1.2, rfl⟩)⟩
  · obtain ⟨h1, h2⟩ := M.when_some h
    obtain ⟨rfl, rfl⟩ := M.ret_some h2
    exact ⟨rfl, .inr (.inr ⟨_, _, _, rfl, h1, rfl⟩)⟩
  · cases h
theorem rngAs_some {n : Nat} {as : List D} {src : Src} {st st' : Store} (h : rngAs n as st = some (src, st')) : as.length = n ∧ rngM as st = some (src, st') := by
  obtain ⟨h1, h2⟩ := M.when_some h
  exact ⟨of_decide_eq_true h1, h2⟩
theorem pim_rng1 (hg : Gl X "range") (hm : X.mg "range" = none) (ha : PAM X fs [a]) (hs : starEach [a] X.env = [(false, eval a X.env)]) : PIM X tg (fun env => M.bind (fs env) (rngAs 1)) (.Call (.Name "range" p) [a] [] pos) := by
  refine PI_imp (pi_range1 hg hm ha hs) fun σ H R h => ?_
  obtain ⟨ρ, st, env, src, st', RR, E, ev, k⟩ := h
  obtain ⟨ds, st1, e1, e2⟩ := M.bind_some ev
  refine ⟨ρ, st, env, ds, st1, RR, E, e1, fun ρ1 H1 xs l1 R1 r1 => ?_⟩
  obtain ⟨hl, e3⟩ := rngAs_some e2
  obtain ⟨rfl, ⟨j, rfl, h1, rfl⟩ | ⟨i, j, rfl, h1, h2, rfl⟩ | ⟨i, j, c, rfl, h1, rfl⟩⟩ := rng_cases e3
  · obtain ⟨x, _, rfl, r2, r3⟩ := r1.of_cons
    obtain rfl := r3.of_nil
    obtain rfl := r2.of_int
    exact ⟨j, rfl, (s62 h1).1, (s62 h1).2, k ρ1 H1 _ l1 R1 rng_ok1⟩
  · simp at hl
  · simp at hl
theorem pim_rng2 (hg : Gl X "range") (hm : X.mg "range" = none) (ha : PAM X fs [a, b]) (hs : starEach [a, b] X.env = [(false, eval a X.env), (false, eval b X.env)]) (hs2 : starEach [b] X.env = [(false, eval b X.env)]) :
    PIM X tg (fun env => M.bind (fs env) (rngAs 2)) (.Call (.Name "range" p) [a, b] [] pos) := by
  refine PI_imp (pi_range2 hg hm ha hs hs2) fun σ H R h => ?_
  obtain ⟨ρ, st, env, src, st', RR, E, ev, k⟩ := h
  obtain ⟨ds, st1, e1, e2⟩ := M.bind_some ev
  refine ⟨ρ, st, env, ds, st1, RR, E, e1, fun ρ1 H1 xs l1 R1 r1 => ?_⟩
  obtain ⟨hl, e3⟩ := rngAs_some e2
  obtain ⟨rfl, ⟨j, rfl, h1, rfl⟩ | ⟨i, j, rfl, h1, h2, rfl⟩ | ⟨i, j, c, rfl, h1, rfl⟩⟩ := rng_cases e3
  · simp at hl
  · obtain ⟨x, _, rfl, r2, r3⟩ := r1.of_cons
    obtain ⟨y, _, rfl, r4, r5⟩ := r3.of_cons
    obtain rfl := r5.of_nil
    obtain rfl := r2.of_int
    obtain rfl := r4.of_int
    exact ⟨i, j, rfl, ⟨(s62 h1).1, (s62 h1).2, (s62 h2).1, (s62 h2).2⟩, k ρ1 H1 _ l1 R1 rng_ok1⟩
  · simp at hl
theorem pim_rng3 (hg : Gl X "range") (hm : X.mg "range" = none) (ha : PAM X fs [a, b, c]) (hs : starEach [a, b, c] X.env = (false, eval a X.env) :: starEach [b, c] X.env) (hpl : (backTo pos (starEach [b, c] X.env)).any (·.1) = false) :
    PIM X tg (fun env => M.bind (fs env) (rngAs 3)) (.Call (.Name "range" p) [a, b, c] [] pos) := by
  refine PI_imp (pi_range3 hg hm ha hs hpl) fun σ H R h => ?_
  obtain ⟨ρ, st, env, src, st', RR, E, ev, k⟩ := h
  obtain ⟨ds, st1, e1, e2⟩ := M.bind_some ev
  refine ⟨ρ, st, env, ds, st1, RR, E, e1, fun ρ1 H1 xs l1 R1 r1 => ?_⟩
  obtain ⟨hl, e3⟩ := rngAs_some e2
  obtain ⟨rfl, ⟨j, rfl, h1, rfl⟩ | ⟨i, j, rfl, h1, h2, rfl⟩ | ⟨i, j, c, rfl, h1, rfl⟩⟩ := rng_cases e3
  · simp at hl
  · simp at hl
  · obtain ⟨x, _, rfl, r2, r3⟩ := r1.of_cons
    obtain ⟨y, _, rfl, r4, r5⟩ := r3.of_cons
    obtain ⟨z, _, rfl, r6, r7⟩ := r5.of_cons
    obtain rfl := r7.of_nil
    obtain rfl := r2.of_int
    obtain rfl := r4.of_int
    obtain rfl := r6.of_int
    unfold rng3 at h1
    simp only [Bool.and_eq_true, decide_eq_true_eq] at h1
    exact ⟨i, j, c, _, rfl, ⟨h1.1.1.1, h1.1.1.2, h1.1.2, h1.2⟩, k ρ1 H1 _ l1 R1 rng_ok⟩

/-! ### targets -/
def gsOf : List Nat → TGs
  | [] => gNil
  | i :: l => gCons (gName i) (gsOf l)
def gOf (K : PySem.W.Frag) (l : List Nat) : TG := match l with
  | [i] => gName i
  | l => gTup K l.length (gsOf l)
/-- a target that sets the slots l -/
abbrev PGM (X : Cx) (l : List Nat) (tg : Expr) : Prop := PG X tg (gOf X.K l)
theorem ER.set {σ : L2.St} {env : Env} {i : Nat} {v : V} {d : D} (E : ER K ρ H σ env) (r : Rep K ρ H v d) : ER K ρ H (σ.set i (some v)) (env.set i (some d)) := by
  refine ⟨by simp [E.len], fun j d' h => ?_⟩
  by_cases hj : i = j
  · subst hj
    by_cases hl : i < env.length
    · rw [List.getElem?_set_self hl] at h
      cases h
      exact ⟨v, List.getElem?_set_self (by rw [← E.len]; exact hl), r⟩
    · rw [List.getElem?_eq_none (by simpa using hl)] at h
      cases h
  · rw [List.getElem?_set_ne hj] at h
    obtain ⟨w, h1, h2⟩ := E.at' j d' h
    exact ⟨w, by rw [List.getElem?_set_ne hj]; exact h1, h2⟩
theorem wipe_set {x : Option V} {i : Nat} : ∀ {vs : List Nat} {σ : L2.St}, i ∈ vs → wipe (σ.set i x) vs = wipe σ vs
  | [], _, h => by cases h
  | v :: vs, σ, h => by
    unfold wipe
    by_cases hi : i ∈ vs
    · rw [wipe_set hi]
    · have e : i = v := by
        rcases List.mem_cons.mp h with h | h
        · exact h
        · exact absurd h hi
      subst e
      have com : ∀ (us : List Nat) (τ : L2.St), i ∉ us → wipe (τ.set i x) us = (wipe τ us).set i x := by
        intro us
        induction us with
        | nil => intro τ _; rfl
        | cons u us ih =>
          intro τ hu
          rw [List.mem_cons, not_or] at hu
          unfold wipe
          rw [ih τ hu.2, List.set_comm _ _ hu.1]
      rw [com vs σ hi, List.set_set]
theorem wipe_wipe : ∀ (vs : List Nat) (σ : L2.St), wipe (wipe σ vs) vs = wipe σ vs := fun vs σ => by
  have key : ∀ (us vs : List Nat) (τ : L2.St), (∀ i ∈ us, i ∈ vs) → wipe (wipe τ us) vs = wipe τ vs := by
    intro us
    induction us with
    | nil => intro vs τ _; rfl
    | cons u us ih =>
      intro vs τ h
      show wipe ((wipe τ us).set u none) vs = _
      rw [wipe_set (h u List.mem_cons_self), ih vs τ fun i hi => h i (List.mem_cons_of_mem _ hi)]
  exact key vs vs σ fun _ h => h
theorem gs_read : ∀ {l : List Nat} {H : Hp} {σ : L2.St} {env env' : Env} {vs : List V} {ds : List D} {Q : L2.St → Hp → Prop}, ER K ρ H σ env → RepL K ρ H vs ds → putAll l ds env = some env' →
    (∀ σ', ER K ρ H σ' env' → (∀ us : List Nat, (∀ i ∈ l, i ∈ us) → wipe σ' us = wipe σ us) → Q σ' H) → gsOf l vs σ H Q
  | [], H, σ, env, env', vs, ds, Q, E, r, e, k => by
    cases ds with
    | nil => cases e; exact ⟨r.of_nil, k σ E fun _ _ => rfl⟩
    | cons d ds => cases e
  | i :: l, H, σ, env, env', vs, ds, Q, E, r, e, k => by
    cases ds with
    | nil => cases e
    | cons d ds =>
      obtain ⟨v, vs, rfl, r1, r2⟩ := r.of_cons
      unfold putAll at e
      refine ⟨v, vs, rfl, ?_⟩
      refine gs_read (E.set r1) r2 e fun σ' E' w' => k σ' E' fun us hu => ?_
      rw [w' us fun j hj => hu j (List.mem_cons_of_mem _ hj), wipe_set (hu i List.mem_cons_self)]
theorem putAll_len : ∀ {l : List Nat} {ds : List D} {env env' : Env}, putAll l ds env = some env' → ds.length = l.length
  | [], [], _, _, _ => rfl
  | i :: l, d :: ds, env, env', h => by
    unfold putAll at h
    rw [List.length_cons, List.length_cons, putAll_len h]
  | [], _ :: _, _, _, h => by cases h
  | _ :: _, [], _, _, h => by cases h
theorem putT_same {l : List Nat} {d : D} {env env' : Env} {st st' : Store} (e : putT l d env st = some (env', st')) : st' = st := by
  unfold putT at e
  split at e
  · exact (M.ret_some e).2.symm
  · unfold putM at e
    obtain ⟨ds, ed, e1⟩ := M.opt_some e
    obtain ⟨en, ee, e2⟩ := M.opt_some e1
    exact (M.ret_some e2).2.symm
theorem g_read {l : List Nat} {σ : L2.St} {env env' : Env} {v : V} {d : D} {st st' : Store} {Q : L2.St → Hp → Prop} (E : ER K ρ H σ env) (r : Rep K ρ H v d) (e : putT l d env st = some (env', st'))
    (k : ∀ σ', ER K ρ H σ' env' → (∀ vs : List Nat, (∀ i ∈ l, i ∈ vs) → wipe σ' vs = wipe σ vs) → Q σ' H) : gOf K l v σ H Q := by
  unfold putT at e
  split at e
  · obtain ⟨rfl, rfl⟩ := M.ret_some e
    exact k _ (E.set r) fun vs hv => wipe_set (hv _ (List.mem_singleton.mpr rfl))
  · rename_i hl
    unfold putM at e
    obtain ⟨ds, ed, e1⟩ := M.opt_some e
    obtain ⟨en, ee, e2⟩ := M.opt_some e1
    obtain ⟨rfl, rfl⟩ := M.ret_some e2
    obtain rfl := tupOf_some ed
    obtain ⟨a, xs, rfl, q1, q2⟩ := r.of_tup
    unfold gOf
    split
    · exact absurd rfl (hl _)
    · exact ⟨a, xs, rfl, q1, by rw [q2.length]; exact putAll_len ee, gs_read E q2 ee k⟩
theorem pgm_one {i : Nat} {x : Str} (h : PG X (.Name x pos) (gName i)) : PGM X [i] (.Name x pos) := h
theorem gsm_cons {i : Nat} {l : List Nat} {x : Str} {ts : List Expr} (h : PG X (.Name x pos) (gName i)) (hs : PGs X ts (gsOf l)) : PGs X (.Name x pos :: ts) (gsOf (i :: l)) := pgs_cons h hs rfl
theorem pgm_tup {l : List Nat} {ts : List Expr} {kk : Nat} (hc : X.calm = true) (hl : l.length ≠ 1) (hs : PGs X ts (gsOf l)) (hn : (assignEach ts X.env).length = l.length) (hst : (assignEach ts X.env).findIdx? (·.1) = none) : PGM X l (.Tuple ts kk pos) := by
  have := pg_tup (pos := pos) (k := kk) hc hs hn hst
  show PG X _ (gOf X.K l)
  unfold gOf
  split
  · exact absurd rfl hl
  · exact this
end
end MP

set_option Elab.async false
set_option linter.all false
set_option maxRecDepth 100000
/-! M7: statements and comprehensions, rule by rule. -/
namespace MP
open PySem L2 PyProof.Rows
def FlQ (K : PySem.W.Frag) (ρ : List Addr) (H : Hp) (Dn : Ends) (fl : Fl) (σ : L2.St) : Prop := match fl with
  | .next => Dn.nx σ H
  | .brk => Dn.bk σ H
  | .cont => Dn.ct σ H
  | .ret d => ∀ v, Rep K ρ H v d → Dn.rt v H
def TsM (K : PySem.W.Frag) (f : Env → M (Fl × Env)) : TS := fun Dn σ H => ∃ ρ st env r st', RS K ρ H st ∧ ER K ρ H σ env ∧ f env st = some (r, st') ∧
  ∀ ρ' H' σ', Le ρ H ρ' H' → RS K ρ' H' st' → ER K ρ' H' σ' r.2 → FlQ K ρ' H' Dn r.1 σ'
abbrev PSM (X : Cx) (f : Env → M (Fl × Env)) (e : Stmt) : Prop := PS X e (TsM X.K f)
abbrev PSsM (X : Cx) (f : Env → M (Fl × Env)) (e : List Stmt) : Prop := PSs X e (TsM X.K f)
section
variable {X : Cx} {tg e a b c : Expr} {es : List Expr} {fa fb f : Env → M D} {fs : Env → M (List D)} {fi : Env → M Src} {gs : Env → M (Fl × Env)} {pos p : Pos}
theorem PS_imp {s : Stmt} {t t' : TS} (h : PS X s t) (i : ∀ D σ H, t' D σ H → t D σ H) : PS X s t' := ⟨fun pins s σ H D I q => h.run pins s σ H D I (i _ _ _ q)⟩
theorem PSs_imp {s : List Stmt} {t t' : TS} (h : PSs X s t) (i : ∀ D σ H, t' D σ H → t D σ H) : PSs X s t' := ⟨fun pins s σ H D I q => h.run pins s σ H D I (i _ _ _ q)⟩

/-! ### for -/
theorem psm_for {l : List Nat} {iter : Expr} {body : List Stmt} (hp : PassesOwn (model X.prog X.w) X.A X.env X.xe) (hc : X.calm = true) (hi : PIM X tg fi iter) (hg : PGM X l tg) (hb : PSsM X gs body) (hs : ∀ x, foldedSetIterable iter X.env x = pure x) :
    PSM X (fun env => M.bind (fi env) fun src => forLoop src (fun d env => M.bind (putT l d env) gs) turns 0 env) (.For tg iter body [] pos) := by
  refine PS_imp (ps_for hp hc hi hg hb hs) fun Dn σ H h => ?_
  obtain ⟨ρ, st, env, r, st', R, E, ev, k⟩ := h
  obtain ⟨src, st1, e1, e2⟩ := M.bind_some ev
  refine ⟨ρ, st, env, src, st1, R, E, e1, fun ρ1 H1 J l1 R1 ok => ?_⟩
  refine ⟨fun i m σ' H' => ∃ ρ2 st2 env2, Le ρ1 H1 ρ2 H' ∧ RS X.K ρ2 H' st2 ∧ ER X.K ρ2 H' σ' env2 ∧ forLoop src (fun d env => M.bind (putT l d env) gs) m i env2 st2 = some (r, st'), ⟨turns, ρ1, st1, env, .refl, R1, E.le l1, e2⟩, ?_⟩
  rintro i m σ2 H2 ⟨ρ2, st2, env2, l2, R2, E2, ev2⟩
  cases m with
  | zero => cases ev2
  | succ m =>
    obtain ⟨ok1, ok2⟩ := ok ρ2 H2 st2 i l2 R2
    unfold forLoop at ev2
    split at ev2
    · cases ev2
    · rename_i ea
      cases ev2
      exact .inl ⟨ok2 ea, k ρ2 H2 σ2 (l1.trans l2) R2 E2⟩
    · rename_i d ea
      obtain ⟨go, yl⟩ := ok1 d ea
      refine .inr ⟨go, fun σ' H' => ∃ ρ3 st3 env3, Le ρ1 H1 ρ3 H' ∧ RS X.K ρ3 H' st3 ∧ ER X.K ρ3 H' σ' env3 ∧ forLoop src (fun d env => M.bind (putT l d env) gs) m (i + 1) env3 st3 = some (r, st'), fun σ' H' n => ⟨m, Nat.lt_succ_self _, n⟩, fun x H3 y => ?_⟩
      obtain ⟨l3, R3, r3⟩ := yl x H3 y
      have tu : ∃ q st4, M.bind (putT l d env2) gs st2 = some (q, st4) ∧ (match (some (q, st4) : Option ((Fl × Env) × Store)) with
        | none => none
        | some ((.next, env1), st1) => forLoop src (fun d env => M.bind (putT l d env) gs) m (i + 1) env1 st1
        | some ((.cont, env1), st1) => forLoop src (fun d env => M.bind (putT l d env) gs) m (i + 1) env1 st1
        | some ((.brk, env1), st1) => some ((.next, env1), st1)
        | some ((.ret d, env1), st1) => some ((.ret d, env1), st1)) = some (r, st') := by
        cases hq : M.bind (putT l d env2) gs st2 with
        | none => rw [hq] at ev2; cases ev2
        | some q => rw [hq] at ev2; exact ⟨q.1, q.2, rfl, ev2⟩
      obtain ⟨q, st4, t1, t2⟩ := tu
      obtain ⟨env4, st5, t3, t4⟩ := M.bind_some t1
      have lT : Le ρ1 H1 ρ2 H3 := l2.trans l3
      obtain rfl := putT_same t3
      refine g_read (E2.le l3) r3 t3 fun σ4 E4 _ => ?_
      refine ⟨ρ2, _, env4, q, st4, R3, E4, t4, fun ρ5 H5 σ5 l5 R5 E5 => ?_⟩
      obtain ⟨fl, env5⟩ := q
      cases fl with
      | next => exact ⟨ρ5, st4, env5, lT.trans l5, R5, E5, t2⟩
      | cont => exact ⟨ρ5, st4, env5, lT.trans l5, R5, E5, t2⟩
      | brk => cases t2; exact k ρ5 H5 σ5 ((l1.trans lT).trans l5) R5 E5
      | ret d => cases t2; exact k ρ5 H5 σ5 ((l1.trans lT).trans l5) R5 E5

/-! ### while -/
theorem psm_while {tc : Env → M Bool} {cc : Expr} {body : List Stmt} (hp : PassesOwn (model X.prog X.w) X.A X.env X.xe) (hc : PTM X tc cc) (hb : PSsM X gs body) : PSM X (fun env => whileLoop tc gs turns env) (.While cc body [] pos) := by
  refine PS_imp (ps_while hp hc hb) fun Dn σ H h => ?_
  obtain ⟨ρ, st, env, r, st', R, E, ev, k⟩ := h
  refine ⟨fun m σ' H' => ∃ ρ2 st2 env2, Le ρ H ρ2 H' ∧ RS X.K ρ2 H' st2 ∧ ER X.K ρ2 H' σ' env2 ∧ whileLoop tc gs m env2 st2 = some (r, st'), ⟨turns, ρ, st, env, .refl, R, E, ev⟩, ?_⟩
  rintro m σ2 H2 ⟨ρ2, st2, env2, l2, R2, E2, ev2⟩
  cases m with
  | zero => cases ev2
  | succ m =>
    unfold whileLoop at ev2
    cases hq : tc env2 st2 with
    | none => rw [hq] at ev2; cases ev2
    | some q =>
      obtain ⟨bt, st3⟩ := q
      rw [hq] at ev2
      refine ⟨ρ2, st2, env2, bt, st3, R2, E2, hq, fun ρ3 H3 l3 R3 => ?_⟩
      cases bt with
      | false =>
        cases ev2
        exact iteF (k ρ3 H3 σ2 (l2.trans l3) R3 (E2.le l3))
      | true =>
        refine iteT ⟨fun σ' H' => ∃ ρ3 st3 env3, Le ρ H ρ3 H' ∧ RS X.K ρ3 H' st3 ∧ ER X.K ρ3 H' σ' env3 ∧ whileLoop tc gs m env3 st3 = some (r, st'), fun σ' H' n => ⟨m, Nat.lt_succ_self _, n⟩, ?_⟩
        cases hq2 : gs env2 st3 with
        | none => simp only [hq2] at ev2; cases ev2
        | some q2 =>
          obtain ⟨⟨fl, env5⟩, st5⟩ := q2
          refine ⟨ρ3, st3, env2, _, _, R3, E2.le l3, hq2, fun ρ5 H5 σ5 l5 R5 E5 => ?_⟩
          simp only [hq2] at ev2
          have lT := (l2.trans l3).trans l5
          cases fl with
          | next => exact ⟨ρ5, st5, env5, lT, R5, E5, ev2⟩
          | cont => exact ⟨ρ5, st5, env5, lT, R5, E5, ev2⟩
          | brk => cases ev2; exact k ρ5 H5 σ5 lT R5 E5
          | ret d => cases ev2; exact k ρ5 H5 σ5 lT R5 E5

/-! ### simple statements -/
theorem psm_expr (ha : PEM X fa a) (hs : swapsWith a none pos.line X.env = pure false) : PSM X (fun env => M.bind (fa env) fun _ => M.ret (.next, env)) (.Expr a pos) := by
  refine PS_imp (ps_expr ha hs) fun Dn σ H h => ?_
  obtain ⟨ρ, st, env, r, st', R, E, ev, k⟩ := h
  obtain ⟨d, st1, e1, e2⟩ := M.bind_some ev
  obtain ⟨rfl, rfl⟩ := M.ret_some e2
  exact ⟨ρ, st, env, d, _, R, E, e1, fun ρ1 H1 v l1 R1 r1 => k ρ1 H1 σ l1 R1 (E.le l1)⟩
theorem psm_ret (ha : PEM X fa a) : PSM X (fun env => M.bind (fa env) fun d => M.ret (.ret d, env)) (.Return (some a) pos) := by
  refine PS_imp (ps_ret ha) fun Dn σ H h => ?_
  obtain ⟨ρ, st, env, r, st', R, E, ev, k⟩ := h
  obtain ⟨d, st1, e1, e2⟩ := M.bind_some ev
  obtain ⟨rfl, rfl⟩ := M.ret_some e2
  exact ⟨ρ, st, env, d, _, R, E, e1, fun ρ1 H1 v l1 R1 r1 => k ρ1 H1 σ l1 R1 (E.le l1) v r1⟩
theorem psm_if {cc : Expr} {p q : List Stmt} {gp gq : Env → M (Fl × Env)} (hc : PTM X (testM fa) cc) (hp : PSsM X gp p) (hq : PSsM X gq q) : PSM X (fun env => M.bind (fa env) fun x => M.bind (truth x) fun b => if b then gp env else gq env) (.If cc p q pos) := by
  refine PS_imp (ps_if hc hp hq) fun Dn σ H h => ?_
  obtain ⟨ρ, st, env, r, st', R, E, ev, k⟩ := h
  obtain ⟨dx, st1, e1, e2⟩ := M.bind_some ev
  obtain ⟨t, st2, e3, e4⟩ := M.bind_some e2
  refine ⟨ρ, st, env, t, st2, R, E, by unfold testM M.bind; rw [e1]; exact e3, fun ρ1 H1 l1 R1 => ?_⟩
  cases t with
  | true => exact iteT ⟨ρ1, st2, env, r, st', R1, E.le l1, e4, fun ρ3 H3 σ3 l3 R3 E3 => k ρ3 H3 σ3 (l1.trans l3) R3 E3⟩
  | false => exact iteF ⟨ρ1, st2, env, r, st', R1, E.le l1, e4, fun ρ3 H3 σ3 l3 R3 E3 => k ρ3 H3 σ3 (l1.trans l3) R3 E3⟩
theorem psm_fail {s : Stmt} : PSM X (fun _ => M.fail) s := PS_imp ps_never fun Dn σ H h => by
  obtain ⟨ρ, st, env, r, st', R, E, ev, k⟩ := h
  cases ev
theorem psm_asg {i : Nat} (h : PS X (.Assign [tg] a pos) (tAsg (TeM X.K fa) (gName i))) : PSM X (fun env => M.bind (fa env) fun d => M.ret (.next, env.set i (some d))) (.Assign [tg] a pos) := by
  refine PS_imp h fun Dn σ H h => ?_
  obtain ⟨ρ, st, env, r, st', R, E, ev, k⟩ := h
  obtain ⟨d, st1, e1, e2⟩ := M.bind_some ev
  obtain ⟨rfl, rfl⟩ := M.ret_some e2
  exact ⟨ρ, st, env, d, _, R, E, e1, fun ρ1 H1 v l1 R1 r1 => k ρ1 H1 _ l1 R1 ((E.le l1).set r1)⟩
theorem psm_asgT {l : List Nat} (hl : l.length ≠ 1) (h : PS X (.Assign [tg] a pos) (tAsg (TeM X.K fa) (gOf X.K l))) : PSM X (fun env => M.bind (fa env) fun d => M.bind (putM l d env) fun env1 => M.ret (.next, env1)) (.Assign [tg] a pos) := by
  refine PS_imp h fun Dn σ H h => ?_
  obtain ⟨ρ, st, env, r, st', R, E, ev, k⟩ := h
  obtain ⟨d, st1, e1, e2⟩ := M.bind_some ev
  obtain ⟨env1, st2, e3, e4⟩ := M.bind_some e2
  obtain ⟨rfl, rfl⟩ := M.ret_some e4
  have e5 : putT l d env st1 = some (env1, st2) := by
    unfold putT
    split
    · exact absurd rfl hl
    · exact e3
  obtain rfl := putT_same e5
  exact ⟨ρ, st, env, d, _, R, E, e1, fun ρ1 H1 v l1 R1 r1 => g_read (E.le l1) r1 e5 fun σ' E' _ => k ρ1 H1 σ' l1 R1 E'⟩
/-- o[i] = v -/
theorem pset_M : PSet X (fun o i v H Q => ∃ ρ st do_ di dv u st', RS X.K ρ H st ∧ Rep X.K ρ H o do_ ∧ Rep X.K ρ H i di ∧ Rep X.K ρ H v dv ∧ setItemM do_ di dv st = some (u, st') ∧ ∀ H', Le ρ H ρ H' → RS X.K ρ H' st' → Q H') := by
  rintro pins s σ H o i v ov iv u Q I ro ri rv ⟨ρ, st, do_, di, dv, un, st', R, r1, r2, r3, e, k⟩
  exact set_M I ro ri rv R r1 r2 r3 e k
theorem psm_setS (ho : PEM X fa a) (hi : PEM X fb b) (he : PEM X f e) (h : ∀ g, PG X (.Subscript a b p) g → PS X (.Assign [.Subscript a b p] e pos) (tAsg (TeM X.K f) g))
    (ha : ∀ v, assign (.Subscript a b p) X.env v = (do
      let ov ← holding [v] (eval a X.env)
      let iv ← holding [v, ov] (eval b X.env)
      standAt p
      holding [v, ov, iv] (setItem ov iv v)
      release [v, ov, iv] [])) :
    PSM X (fun env => M.bind (f env) fun d => M.bind (fa env) fun x => M.bind (fb env) fun y => M.bind (setItemM x y d) fun _ => M.ret (.next, env)) (.Assign [.Subscript a b p] e pos) := by
  refine PS_imp (h _ (pg_sub ho hi pset_M ha)) fun Dn σ H h => ?_
  obtain ⟨ρ, st, env, r, st', R, E, ev, k⟩ := h
  obtain ⟨d, st1, e1, e2⟩ := M.bind_some ev
  obtain ⟨x, st2, e3, e4⟩ := M.bind_some e2
  obtain ⟨y, st3, e5, e6⟩ := M.bind_some e4
  obtain ⟨u, st4, e7, e8⟩ := M.bind_some e6
  obtain ⟨rfl, rfl⟩ := M.ret_some e8
  exact ⟨ρ, st, env, d, st1, R, E, e1, fun ρ1 H1 v l1 R1 r1 => ⟨ρ1, st1, env, x, st2, R1, E.le l1, e3, fun ρ2 H2 o l2 R2 r2 => ⟨ρ2, st2, env, y, st3, R2, (E.le l1).le l2, e5, fun ρ3 H3 i l3 R3 r3 =>
    ⟨ρ3, st3, x, y, d, u, _, R3, r2.le l3, r3, (r1.le l2).le l3, e7, fun H' lw R4 => k ρ3 H' σ (((l1.trans l2).trans l3).trans lw) R4 ((((E.le l1).le l2).le l3).le lw)⟩⟩⟩⟩
/-- o[i], x = a pair -/
theorem psm_setST {j : Nat} {x : Str} {k2 : Nat} {pt px : Pos} (hc : X.calm = true) (ho : PEM X fa a) (hi : PEM X fb b) (he : PEM X f e) (hx : PG X (.Name x px) (gName j))
    (h : ∀ g, PG X (.Tuple [.Subscript a b p, .Name x px] k2 pt) g → PS X (.Assign [.Tuple [.Subscript a b p, .Name x px] k2 pt] e pos) (tAsg (TeM X.K f) g))
    (ha : ∀ v, assign (.Subscript a b p) X.env v = (do
      let ov ← holding [v] (eval a X.env)
      let iv ← holding [v, ov] (eval b X.env)
      standAt p
      holding [v, ov, iv] (setItem ov iv v)
      release [v, ov, iv] [])) :
    PSM X (fun env => M.bind (f env) fun d => M.opt (pairOf d) fun q => M.bind (fa env) fun x => M.bind (fb env) fun y => M.bind (setItemM x y q.1) fun _ => M.ret (.next, env.set j (some q.2))) (.Assign [.Tuple [.Subscript a b p, .Name x px] k2 pt] e pos) := by
  have hs : PGs X [.Name x px] _ := pgs_cons hx pgs_nil rfl
  refine PS_imp (h _ (pg_tup (n := 2) hc (pgs_cons (pg_sub ho hi pset_M ha) hs rfl) rfl rfl)) fun Dn σ H h => ?_
  obtain ⟨ρ, st, env, r, st', R, E, ev, k⟩ := h
  obtain ⟨d, st1, e1, e2⟩ := M.bind_some ev
  obtain ⟨q, eq, e2a⟩ := M.opt_some e2
  obtain ⟨x, st2, e3, e4⟩ := M.bind_some e2a
  obtain ⟨y, st3, e5, e6⟩ := M.bind_some e4
  obtain ⟨u, st4, e7, e8⟩ := M.bind_some e6
  obtain ⟨rfl, rfl⟩ := M.ret_some e8
  obtain rfl := pairOf_some eq
  refine ⟨ρ, st, env, _, st1, R, E, e1, fun ρ1 H1 v l1 R1 r1 => ?_⟩
  obtain ⟨t, xs, rfl, q1, q2⟩ := r1.of_tup
  obtain ⟨v1, xs1, rfl, s1, s2⟩ := q2.of_cons
  obtain ⟨v2, xs2, rfl, s3, s4⟩ := s2.of_cons
  obtain rfl := s4.of_nil
  refine ⟨t, _, rfl, q1, rfl, v1, [v2], rfl, ⟨ρ1, st1, env, x, st2, R1, E.le l1, e3, fun ρ2 H2 o l2 R2 r2 => ⟨ρ2, st2, env, y, st3, R2, (E.le l1).le l2, e5, fun ρ3 H3 i l3 R3 r3 =>
    ⟨ρ3, st3, x, y, q.1, u, _, R3, r2.le l3, r3, (s1.le l2).le l3, e7, fun H' lw R4 => ?_⟩⟩⟩⟩
  have lT := ((l1.trans l2).trans l3).trans lw
  exact ⟨v2, [], rfl, rfl, k ρ3 H' _ lT R4 ((E.le lT).set (((s3.le l2).le l3).le lw))⟩
/-- name op= e -/
theorem pip_M (op : Aop) : PIp X op.op (R2M X.K (iopM op)) := fun pins s σ H x y v u Q I r1 r2 h => op_iopM op pins s σ H x y v u Q I r1 r2 h
theorem psm_aug {i : Nat} {op : Aop} (h : PS X (.AugAssign tg op.op e pos) (tAug i (TeM X.K f) (R2M X.K (iopM op)))) :
    PSM X (fun env => M.opt (getS env i) fun x => M.bind (f env) fun y => M.bind (iopM op x y) fun z => M.ret (.next, env.set i (some z))) (.AugAssign tg op.op e pos) := by
  refine PS_imp h fun Dn σ H h => ?_
  obtain ⟨ρ, st, env, r, st', R, E, ev, k⟩ := h
  obtain ⟨x, ex, e2⟩ := M.opt_some ev
  obtain ⟨y, st1, e1, e3⟩ := M.bind_some e2
  obtain ⟨z, st2, e4, e5⟩ := M.bind_some e3
  obtain ⟨rfl, rfl⟩ := M.ret_some e5
  obtain ⟨w, hw, rw'⟩ := E.at' i _ (getS_some ex)
  exact ⟨w, hw, ρ, st, env, y, st1, R, E, e1, fun ρ1 H1 v l1 R1 r1 => ⟨ρ1, st1, x, y, z, _, R1, rw'.le l1, r1, e4, fun ρ2 H2 v2 l2 R2 r2 => k ρ2 H2 _ (l1.trans l2) R2 ((E.le (l1.trans l2)).set r2)⟩⟩
/-- o[i] op= e -/
theorem pget_M : PGet X (R2M X.K idxM) := by
  rintro pins s σ H x y v u Q I rx ry ⟨ρ, st, dx, dy, d, st', R, rpx, rpy, e, k⟩
  unfold idxM at e
  split at e
  · rename_i i
    obtain ⟨es, st1, e1, e2⟩ := M.bind_some e
    obtain rfl := rpy.of_int
    obtain ⟨rfl, a, vs, rfl, h3, h4, h5, h6⟩ := items_seq R rpx e1
    obtain ⟨j, ej, e3⟩ := M.opt_some e2
    obtain ⟨d', ed, e4⟩ := M.opt_some e3
    obtain ⟨rfl, rfl⟩ := M.ret_some e4
    obtain ⟨w, hw, rw'⟩ := h4.get ed
    have hat : atI vs i = some w := by
      unfold atI
      rw [h4.length, ← atN_ixN, ej]
      exact hw
    cases rx
    obtain ⟨t, rfl⟩ := ry
    obtain ⟨j, g1, g2, g3, g4, g5⟩ := atI_get hat
    have hn := line63
    rcases h3 with h3 | h3
    · obtain ⟨its, r, pl, hz⟩ := I.list h3
      obtain ⟨z, ez, rz⟩ := r.get g2
      have hl := r.length
      have fin : EP X pins σ Q z s := ⟨w, H, I, rz, k ρ H _ .refl R rw'⟩
      by_cases h0 : 0 ≤ i
      · have hj : i.toNat = j := by
          rw [seqIndex_of h0 g5] at g1
          exact Option.some.inj g1
        exact wpAny_getItem_list pl.isList h0 (by omega) (by rw [hj]; simpa using ez) fin
      · have hj : (i + (its.toArray.size : Int)).toNat = j := by
          rw [seqIndex_neg (by omega) g4] at g1
          rw [List.size_toArray, ← hl]
          exact Option.some.inj g1
        exact wpAny_getItem_list_neg pl.isList (by omega) (by rw [List.size_toArray] <;> omega) (by omega) (by rw [hj]; simpa using ez) fin
    · obtain ⟨its, r, pl, hz⟩ := I.tuple h3
      obtain ⟨z, ez, rz⟩ := r.get g2
      have hl := r.length
      have fin : EP X pins σ Q z s := ⟨w, H, I, rz, k ρ H _ .refl R rw'⟩
      exact getItem_tuple (j := j) pl (by omega) (by omega) (by rw [List.size_toArray, ← hl]; exact g1) (by simpa using ez) fin
  · cases e
theorem psm_augS {op : Aop} (ho : PEM X fa a) (hi : PEM X fb b) (he : PEM X f e) (ha : ∀ ov iv new, augStore b ov iv new = (do holding [new, ov, iv] (setItem ov iv new); release [new, ov, iv] []; pure .next)) :
    PSM X (fun env => M.bind (fa env) fun x => M.bind (fb env) fun y => M.bind (idxM x y) fun z => M.bind (f env) fun w => M.bind (iopM op z w) fun u => M.bind (setItemM x y u) fun _ => M.ret (.next, env)) (.AugAssign (.Subscript a b p) op.op e pos) := by
  refine PS_imp (ps_augS ho hi pget_M he (pip_M op) pset_M ha) fun Dn σ H h => ?_
  obtain ⟨ρ, st, env, r, st', R, E, ev, k⟩ := h
  obtain ⟨x, st1, e1, e2⟩ := M.bind_some ev
  obtain ⟨y, st2, e3, e4⟩ := M.bind_some e2
  obtain ⟨z, st3, e5, e6⟩ := M.bind_some e4
  obtain ⟨w, st4, e7, e8⟩ := M.bind_some e6
  obtain ⟨u, st5, e9, e10⟩ := M.bind_some e8
  obtain ⟨n, st6, e11, e12⟩ := M.bind_some e10
  obtain ⟨rfl, rfl⟩ := M.ret_some e12
  exact ⟨ρ, st, env, x, st1, R, E, e1, fun ρ1 H1 v1 l1 R1 r1 => ⟨ρ1, st1, env, y, st2, R1, E.le l1, e3, fun ρ2 H2 v2 l2 R2 r2 => ⟨ρ2, st2, x, y, z, st3, R2, r1.le l2, r2, e5, fun ρ3 H3 v3 l3 R3 r3 =>
    ⟨ρ3, st3, env, w, st4, R3, ((E.le l1).le l2).le l3, e7, fun ρ4 H4 v4 l4 R4 r4 => ⟨ρ4, st4, z, w, u, st5, R4, r3.le l4, r4, e9, fun ρ5 H5 v5 l5 R5 r5 =>
      ⟨ρ5, st5, x, y, u, n, _, R5, (((r1.le l2).le l3).le l4).le l5, ((r2.le l3).le l4).le l5, r5, e11, fun H' lw R6 => k ρ5 H' σ (((((l1.trans l2).trans l3).trans l4).trans l5).trans lw) R6 (((((((E.le l1).le l2).le l3).le l4).le l5).le lw))⟩⟩⟩⟩⟩⟩
/-! ### blocks -/
theorem pssm_nil : PSsM X (fun env => M.ret (.next, env)) [] := by
  refine PSs_imp pss_nil fun Dn σ H h => ?_
  obtain ⟨ρ, st, env, r, st', R, E, ev, k⟩ := h
  obtain ⟨rfl, rfl⟩ := M.ret_some ev
  exact k ρ H σ .refl R E
def seqM (gs gr : Env → M (Fl × Env)) (env : Env) : M (Fl × Env) := M.bind (gs env) fun r => match r with
    | (.next, env1) => gr env1
    | r => M.ret r
theorem pssm_cons {s : Stmt} {ss : List Stmt} {gr : Env → M (Fl × Env)} (h1 : PSM X gs s) (h2 : PSsM X gr ss) : PSsM X (seqM gs gr) (s :: ss) := by
  refine PSs_imp (pss_cons h1 h2) fun Dn σ H h => ?_
  obtain ⟨ρ, st, env, r, st', R, E, ev, k⟩ := h
  obtain ⟨q, st1, e1, e2⟩ := M.bind_some ev
  obtain ⟨fl, env1⟩ := q
  refine ⟨ρ, st, env, _, st1, R, E, e1, fun ρ1 H1 σ1 l1 R1 E1 => ?_⟩
  cases fl with
  | next => exact ⟨ρ1, st1, env1, r, st', R1, E1, e2, fun ρ2 H2 σ2 l2 R2 E2 => k ρ2 H2 σ2 (l1.trans l2) R2 E2⟩
  | brk => obtain ⟨rfl, rfl⟩ := M.ret_some e2; exact k ρ1 H1 σ1 l1 R1 E1
  | cont => obtain ⟨rfl, rfl⟩ := M.ret_some e2; exact k ρ1 H1 σ1 l1 R1 E1
  | ret d => obtain ⟨rfl, rfl⟩ := M.ret_some e2; exact k ρ1 H1 σ1 l1 R1 E1
end
end MP

set_option Elab.async false
set_option linter.all false
set_option maxRecDepth 100000
/-! M8: comprehensions, calls of the text's own defs. -/
namespace MP
open PySem L2 PyProof.Rows
section
variable {X : Cx} {tg e a b c : Expr} {es : List Expr} {fa fb f : Env → M D} {fs : Env → M (List D)} {fi : Env → M Src} {ft : Env → M Bool} {pos p : Pos}
def compM (l : List Nat) (fi : Env → M Src) (ft : Env → M Bool) (fe : Env → M D) (env : Env) : M D := M.bind (fi env) fun src => M.bind (newO (.lst [])) fun q => match q with
    | .loc n => M.bind (lcLoop src n (fun d => M.bind (putT l d (wipeE env l)) fun env1 => M.bind (ft env1) fun t => if t then M.bind (fe env1) fun y => M.ret (some y) else M.ret none) turns 0) fun _ => M.ret (.loc n)
    | _ => M.fail
theorem ER.wipe {K : PySem.W.Frag} {ρ : List Addr} {H : Hp} {σ : L2.St} {env : Env} (E : ER K ρ H σ env) : ∀ vs : List Nat, ER K ρ H (wipe σ vs) (wipeE env vs)
  | [] => E
  | v :: vs => by
    have E' := ER.wipe E vs
    unfold L2.wipe wipeE
    refine ⟨by rw [List.length_set, List.length_set]; exact E'.len, fun j d h => ?_⟩
    by_cases hj : v = j
    · subst hj
      by_cases hl : v < (wipeE env vs).length
      · rw [List.getElem?_set_self hl] at h; cases h
      · rw [List.getElem?_eq_none (by simpa using hl)] at h; cases h
    · rw [List.getElem?_set_ne hj] at h
      obtain ⟨w, h1, h2⟩ := E'.at' j d h
      exact ⟨w, by rw [List.getElem?_set_ne hj]; exact h1, h2⟩
theorem comp_read {l : List Nat} {fe : Env → M D} {σ : L2.St} {H : Hp} {Q : VK} (h : TeM X.K (compM l fi ft fe) σ H Q) : tLc (TiM X.K fi) (gOf X.K l) (TbM X.K ft) (TeM X.K fe) l σ H Q := by
  obtain ⟨ρ, st, env, d, st', R, E, ev, k⟩ := h
  obtain ⟨src, st1, e1, e2⟩ := M.bind_some ev
  obtain ⟨q, st2, e3, e4⟩ := M.bind_some e2
  obtain ⟨rfl, rfl⟩ := newO_some e3
  obtain ⟨_, st3, e5, e6⟩ := M.bind_some e4
  obtain ⟨rfl, rfl⟩ := M.ret_some e6
  refine ⟨ρ, st, env, src, st1, R, E, e1, fun ρ1 H1 J l1 R1 ok D hD => ?_⟩
  have lp : Le ρ1 H1 (ρ1 ++ [D]) (upd H1 D (.lst [])) := Le.push hD
  have hn : (ρ1 ++ [D])[st1.length]? = some D := by
    rw [← R1.len, List.getElem?_append_right (Nat.le_refl _)]
    simp
  refine ⟨fun i m H' => ∃ ρ2 st2, Le (ρ1 ++ [D]) (upd H1 D (.lst [])) ρ2 H' ∧ RS X.K ρ2 H' st2 ∧ lcLoop src st1.length (fun d => M.bind (putT l d (wipeE env l)) fun env1 => M.bind (ft env1) fun t => if t then M.bind (fe env1) fun y => M.ret (some y) else M.ret none) m i st2 = some ((), st3),
    ⟨turns, _, _, .refl, R1.push (o := .lst []) hD ⟨[], upd_same, .nil⟩, e5⟩, ?_⟩
  rintro i m H2 ⟨ρ2, st2, l2, R2, ev2⟩
  have l12 : Le ρ1 H1 ρ2 H2 := lp.trans l2
  cases m with
  | zero => cases ev2
  | succ m =>
    obtain ⟨ok1, ok2⟩ := ok ρ2 H2 st2 i l12 R2
    unfold lcLoop at ev2
    split at ev2
    · cases ev2
    · rename_i ea
      cases ev2
      exact .inl ⟨ok2 ea, k ρ2 H2 _ (l1.trans l12) R2 (.loc (l2.pre _ _ hn))⟩
    · rename_i d ea
      obtain ⟨go, yl⟩ := ok1 d ea
      refine .inr ⟨go, fun H' => ∃ ρ9 st9, Le (ρ1 ++ [D]) (upd H1 D (.lst [])) ρ9 H' ∧ RS X.K ρ9 H' st9 ∧ lcLoop src st1.length (fun d => M.bind (putT l d (wipeE env l)) fun env1 => M.bind (ft env1) fun t => if t then M.bind (fe env1) fun y => M.ret (some y) else M.ret none) m (i + 1) st9 = some ((), st3), fun H' n => ⟨m, Nat.lt_succ_self _, n⟩, fun x H3 y => ?_⟩
      obtain ⟨l3, R3, r3⟩ := yl x H3 y
      cases hq : (M.bind (putT l d (wipeE env l)) fun env1 => M.bind (ft env1) fun t => if t then M.bind (fe env1) fun y => M.ret (some y) else M.ret none) st2 with
      | none => simp only [hq] at ev2; cases ev2
      | some q =>
        obtain ⟨oy, st4⟩ := q
        simp only [hq] at ev2
        obtain ⟨env4, st5, t3, t4⟩ := M.bind_some hq
        obtain rfl := putT_same t3
        have lT : Le (ρ1 ++ [D]) (upd H1 D (.lst [])) ρ2 H3 := l2.trans l3
        have E3 : ER X.K ρ2 H3 (wipe σ l) (wipeE env l) := (((E.le l1).le l12).le l3).wipe l
        refine g_read E3 r3 t3 fun σ4 E4 w4 => ⟨by rw [w4 l fun _ h => h, wipe_wipe], ?_⟩
        obtain ⟨t, st6, t5, t6⟩ := M.bind_some t4
        refine ⟨ρ2, _, env4, t, st6, R3, E4, t5, fun ρ6 H6 l6 R6 => ?_⟩
        cases t with
        | false =>
          obtain ⟨rfl, rfl⟩ := M.ret_some (show M.ret none st6 = some (oy, st4) from t6)
          exact iteF ⟨ρ6, _, lT.trans l6, R6, ev2⟩
        | true =>
          obtain ⟨dy, st7, t7, t8⟩ := M.bind_some (show (M.bind (fe env4) fun y => M.ret (some y)) st6 = some (oy, st4) from t6)
          obtain ⟨rfl, rfl⟩ := M.ret_some t8
          refine iteT ⟨ρ6, st6, env4, dy, _, R6, E4.le l6, t7, fun ρ7 H7 v l7 R7 r7 => ?_⟩
          simp only at ev2
          split at ev2
          · rename_i acc eacc
            split at ev2
            · rename_i hlt
              have hD7 : ρ7[st1.length]? = some D := l7.pre _ _ (l6.pre _ _ (lT.pre _ _ hn))
              obtain ⟨o, ho, hr⟩ := R7.lt hD7
              rw [eacc] at ho
              cases ho
              obtain ⟨xs, q1, q2⟩ := hr
              have lw : Le ρ7 H7 ρ7 (upd H7 D (.lst (xs ++ [v]))) := Le.write (n := 0) q1 (fun _ z => nomatch z) (fun _ _ z => nomatch z)
              refine ⟨xs, q1, by rw [q2.length]; exact hlt, ρ7, _, ((lT.trans l6).trans l7).trans lw, R7.write (o := .lst (acc ++ [dy])) hD7 q1 (fun _ z => nomatch z) (fun _ _ z => nomatch z) ⟨_, upd_same, (q2.le lw).append (.cons (r7.le lw) .nil)⟩, ev2⟩
            · cases ev2
          · cases ev2
/-- [elt for target in iter if ..] -/
theorem pem_comp {l : List Nat} {fe : Env → M D} {elt iter : Expr} {ifs : List Expr} {scope : Scope} {own : List (Str × Nat)} (hl : own.map (·.2) = l) (hc : X.calm = true) (hN : X.N.Nodup) (hi : PIM X tg fi iter) (ok : BlkOk X.N X.env.scope scope own)
    (hg : ∀ (s : Shared) (H : Hp) (C : Addr) (cl : List (Str × Addr)) (fp : List Addr), PGM (X.blk s H scope (compEnvC scope cl C X.env) fp) l tg)
    (ht : ∀ (s : Shared) (H : Hp) (C : Addr) (cl : List (Str × Addr)) (fp : List Addr), PTs (X.blk s H scope (compEnvC scope cl C X.env) fp) ifs (TbM X.K ft))
    (he : ∀ (s : Shared) (H : Hp) (C : Addr) (cl : List (Str × Addr)) (fp : List Addr), PEM (X.blk s H scope (compEnvC scope cl C X.env) fp) fe elt) (hs : ∀ x, foldedSetIterable iter X.env x = pure x) :
    PEM X (compM l fi ft fe) (.ListComp elt [⟨tg, iter, ifs, 0⟩] scope pos) := by
  subst hl
  exact PE_imp (pe_lc hc hN hi ok hg ht he hs) fun _ _ _ h => comp_read h
/-- name = [..] -/
theorem psm_comp {l : List Nat} {fe : Env → M D} {elt iter : Expr} {ifs : List Expr} {scope : Scope} {own : List (Str × Nat)} {i : Nat} {y : Str} {py spos : Pos} (hl : own.map (·.2) = l) (hc : X.calm = true) (hN : X.N.Nodup) (hy : X.N[i]? = some y) (hyl : X.env.scope.names.lookup y = some .local)
    (hsw : swapsWith (.ListComp elt [⟨tg, iter, ifs, 0⟩] scope pos) (some (.Name y py)) spos.line X.env = pure true) (hi : PIM X tg fi iter) (ok : BlkOk X.N X.env.scope scope own)
    (hg : ∀ (s : Shared) (H : Hp) (C : Addr) (cl : List (Str × Addr)) (fp : List Addr), PGM (X.blk s H scope (compEnvC scope cl C X.env) fp) l tg)
    (ht : ∀ (s : Shared) (H : Hp) (C : Addr) (cl : List (Str × Addr)) (fp : List Addr), PTs (X.blk s H scope (compEnvC scope cl C X.env) fp) ifs (TbM X.K ft))
    (he : ∀ (s : Shared) (H : Hp) (C : Addr) (cl : List (Str × Addr)) (fp : List Addr), PEM (X.blk s H scope (compEnvC scope cl C X.env) fp) fe elt) (hs : ∀ x, foldedSetIterable iter X.env x = pure x) :
    PSM X (fun env => M.bind (compM l fi ft fe env) fun d => M.ret (.next, env.set i (some d))) (.Assign [.Name y py] (.ListComp elt [⟨tg, iter, ifs, 0⟩] scope pos) spos) := by
  subst hl
  refine psm_asg ?_
  have h := ps_setLc (pos := pos) (py := py) (spos := spos) (te := TeM X.K fe) (g := gOf X.K (own.map (·.2))) (tt := TbM X.K ft) hc hN hy hyl hsw hi ok hg ht he hs
  exact PS_imp h fun Dn σ H q => comp_read (Q := fun x H1 => gName i x σ H1 Dn.nx) q
theorem pts_nilM {Y : Cx} : PTs Y [] (TbM Y.K fun _ => M.ret true) := ⟨fun pins s σ H Q I h => by
  obtain ⟨ρ, st, env, t, st', R, E, ev, k⟩ := h
  obtain ⟨rfl, rfl⟩ := M.ret_some ev
  exact pts_nil.run pins s σ H Q I (k ρ H .refl R)⟩

/-! ### calls -/
/-- what a def gives, by a function on data -/
def spM (K : PySem.W.Frag) (n : Nat) (g : List D → M D) : Sp := fun vs H Q _ => vs.length = n ∧ RnM K g vs H Q
/-- a def keeps its promise wherever no guard stands -/
structure FnG (P : Program) (w : World) (K : PySem.W.Frag) (mg : Str → Option Value) (base : Heap) (k : Nat) (f : Addr) (fd : FuncData) (ps : List Str) (g : List D → M D) : Prop where
  go : ∀ (A : Around) (outer : List PySem.Env) (s : Shared) (H : Hp) (args : Args) (us : List Value) (vs : List V) (Q : VK), Room k A → A.guards = some [] → Env0 P w K mg base A outer s H → BindsTo s fd args (ps.zip us) → Vals vs us → spM K ps.length g vs H Q E0 →
    codeAny (model P w) A (.call (.ref f) args) (CR CX0 outer P w H s Q E0) s
/-- by keywords: n positional ones, then those named ks, to be laid in the order pm -/
def KwB (K : PySem.W.Frag) (fd : FuncData) (ps : List Str) (n : Nat) (ks : List Str) (pm : List Nat) : Prop :=
  ∀ (s : Shared) (us ws : List Value), K.In s.heap → us.length = n → ws.length = ks.length → BindsTo s fd ⟨us, ks.zip ws⟩ (ps.zip (us ++ pm.filterMap (ws[·]?)))
theorem vals_pm {zs : List V} {ws : List Value} (r : Vals zs ws) : ∀ pm : List Nat, Vals (pm.filterMap (zs[·]?)) (pm.filterMap (ws[·]?))
  | [] => .nil
  | j :: pm => by
    have ih := vals_pm r pm
    simp only [List.filterMap_cons]
    cases e : zs[j]? with
    | none =>
      rw [Vals.none_of r e]
      exact ih
    | some x =>
      obtain ⟨u, h1, h2⟩ := r.get e
      rw [h1]
      exact .cons h2 ih
theorem repl_pm {K : PySem.W.Frag} {ρ : List Addr} {H : Hp} {zs : List V} {ws : List D} (r : RepL K ρ H zs ws) : ∀ pm : List Nat, RepL K ρ H (pm.filterMap (zs[·]?)) (pm.filterMap (ws[·]?))
  | [] => .nil
  | j :: pm => by
    have ih := repl_pm r pm
    simp only [List.filterMap_cons]
    cases e : ws[j]? with
    | none =>
      have hn : zs[j]? = none := by
        rw [List.getElem?_eq_none_iff] at e ⊢
        rw [r.length]
        exact e
      rw [hn]
      exact ih
    | some x =>
      obtain ⟨u, h1, h2⟩ := r.get e
      rw [h1]
      exact .cons h2 ih
section
variable {k n : Nat} {fn : Addr} {fd : FuncData} {ps ks : List Str} {g : List D → M D} {x : Str} {kws : List Keyword} {fk : Env → M (List D)} {pm : List Nat}
theorem run_g {pins : List (Addr × Obj)} {σ : L2.St} {H : Hp} {s : Shared} {Q : VK} {args : Args} {us : List Value} {vs : List V} (hu : Rm X) (F : FnG X.prog X.w X.K X.mg X.base k fn fd ps g) (hr : Room k X.A) (I : Inv X pins σ H s) (hb : BindsTo s fd args (ps.zip us)) (r : Vals vs us)
    (h : vs.length = ps.length) (hq : RnM X.K g vs H Q) : wpAny (model X.prog X.w) X.A (call (.ref fn) args.pos args.kw) (EP X pins σ Q) X.xe s := by
  refine wpAny_call (codeAny_mono (F.go X.A X.stack s H args us vs Q hr hu.gd I.env0 hb r ⟨h, hq⟩) fun res s' hq => ?_)
  match res, hq with
  | .error _, z => exact False.elim z
  | .ok (.ret _), z => exact I.after z
/-- f(e, ..) -/
theorem pem_call (hu : Rm X) (F : FnG X.prog X.w X.K X.mg X.base k fn fd ps g) (hr : Room k X.A) (hg : Gl X x) (hm : X.mg x = some (.ref fn)) (hk : PySem.W.keepIn X.K (.ref fn) = true) (hb : Binds X.K fd ps []) (ha : PAM X fs (e :: es))
    (hdb : (x == ("__debug__" : Str)) = false) (he : starEach (e :: es) X.env = (false, eval e X.env) :: starEach es X.env) (hpl : (backTo pos (starEach es X.env)).any (·.1) = false) :
    PEM X (fun env => M.bind (fs env) fun ds => M.when (decide (ds.length = ps.length)) (g ds)) (.Call (.Name x p) (e :: es) [] pos) := by
  refine ⟨fun pins s σ H Q I h => wpAny_Call_Name_kw (ld_glob I hg hm ?_ hdb)⟩
  obtain ⟨ρ, st, env, d, st', R, E, ev, kk⟩ := h
  obtain ⟨ds, st1, e1, e2⟩ := M.bind_some ev
  obtain ⟨hl, e3⟩ := M.when_some e2
  have hl := of_decide_eq_true hl
  refine PySem.W.callWith_K (h₀ := X.base) I.ok.mod.kin hk (thn (ha.run pos pins s σ H (fun vs H1 => vs.length = ps.length ∧ RnM X.K g vs H1 Q) I ⟨ρ, st, env, ds, st1, R, E, e1, fun ρ1 H1 vs l1 R1 r1 =>
    ⟨by rw [r1.length]; exact hl, ρ1, st1, ds, d, st', R1, r1, e3, fun ρ2 H2 v l2 R2 r2 => kk ρ2 H2 v (l1.trans l2) R2 r2⟩⟩) fun us s1 ⟨vs, H1, I1, r, hv, q⟩ => ⟨I1.kIn, ?_⟩) he hpl
  have hb' := hb s1 us I1.kIn (by rw [List.append_nil, ← r.length]; exact hv)
  rw [List.append_nil] at hb'
  exact run_g (args := ⟨us, []⟩) hu F hr I1 hb' r hv q
theorem pem_call0 (hu : Rm X) (F : FnG X.prog X.w X.K X.mg X.base k fn fd ps g) (hr : Room k X.A) (hg : Gl X x) (hm : X.mg x = some (.ref fn)) (hk : PySem.W.keepIn X.K (.ref fn) = true) (hb : Binds X.K fd ps [])
    (hdb : (x == ("__debug__" : Str)) = false) : PEM X (fun env => M.bind (M.ret []) fun ds => M.when (decide (ds.length = ps.length)) (g ds)) (.Call (.Name x p) [] [] pos) := by
  refine ⟨fun pins s σ H Q I h => wpAny_Call_Name_kw (ld_glob I hg hm ?_ hdb)⟩
  obtain ⟨ρ, st, env, d, st', R, E, ev, kk⟩ := h
  obtain ⟨ds, st1, e1, e2⟩ := M.bind_some ev
  obtain ⟨rfl, rfl⟩ := M.ret_some e1
  obtain ⟨hl, e3⟩ := M.when_some e2
  have hl := of_decide_eq_true hl
  have hb' := hb s [] I.kIn hl
  exact PySem.W.callWith_K0 I.kIn hk (run_g (args := ⟨[], []⟩) hu F hr I hb' .nil hl ⟨ρ, st, [], d, st', R, .nil, e3, kk⟩)
theorem repl_dv {K : PySem.W.Frag} {ρ : List Addr} {H : Hp} : ∀ {dv : List V}, dv.all sc = true → RepL K ρ H dv (dv.map D.v)
  | [], _ => .nil
  | x :: dv, h => by
    rw [List.all_cons, Bool.and_eq_true] at h
    exact .cons (.v h.1) (repl_dv h.2)
/-- f(e, ..), the defaults fill up -/
theorem pem_calld {dv : List V} (hu : Rm X) (F : FnG X.prog X.w X.K X.mg X.base k fn fd ps g) (hr : Room k X.A) (hg : Gl X x) (hm : X.mg x = some (.ref fn)) (hk : PySem.W.keepIn X.K (.ref fn) = true) (hb : ∃ df, Vals dv df ∧ Binds X.K fd ps df) (hsc : dv.all sc = true) (ha : PAM X fs (e :: es))
    (hdb : (x == ("__debug__" : Str)) = false) (he : starEach (e :: es) X.env = (false, eval e X.env) :: starEach es X.env) (hpl : (backTo pos (starEach es X.env)).any (·.1) = false) :
    PEM X (fun env => M.bind (fs env) fun ds => M.when (decide (ds.length + dv.length = ps.length)) (g (ds ++ dv.map D.v))) (.Call (.Name x p) (e :: es) [] pos) := by
  refine ⟨fun pins s σ H Q I h => wpAny_Call_Name_kw (ld_glob I hg hm ?_ hdb)⟩
  obtain ⟨ρ, st, env, d, st', R, E, ev, kk⟩ := h
  obtain ⟨ds, st1, e1, e2⟩ := M.bind_some ev
  obtain ⟨hl, e3⟩ := M.when_some e2
  have hl := of_decide_eq_true hl
  obtain ⟨df, rd, hb⟩ := hb
  refine PySem.W.callWith_K (h₀ := X.base) I.ok.mod.kin hk (thn (ha.run pos pins s σ H (fun vs H1 => (vs ++ dv).length = ps.length ∧ RnM X.K g (vs ++ dv) H1 Q) I ⟨ρ, st, env, ds, st1, R, E, e1, fun ρ1 H1 vs l1 R1 r1 =>
    ⟨by rw [List.length_append, r1.length]; exact hl, ρ1, st1, ds ++ dv.map D.v, d, st', R1, r1.append (repl_dv hsc), e3, fun ρ2 H2 v l2 R2 r2 => kk ρ2 H2 v (l1.trans l2) R2 r2⟩⟩) fun us s1 ⟨vs, H1, I1, r, hv, q⟩ => ⟨I1.kIn, ?_⟩) he hpl
  have hb' := hb s1 us I1.kIn (by rw [List.length_append, ← r.length, ← rd.length, ← List.length_append]; exact hv)
  exact run_g (args := ⟨us, []⟩) hu F hr I1 hb' (r.append rd) hv q
/-- f(e, .., k = v, ..) -/
theorem pem_callk (hu : Rm X) (F : FnG X.prog X.w X.K X.mg X.base k fn fd ps g) (hr : Room k X.A) (hg : Gl X x) (hm : X.mg x = some (.ref fn)) (hk : PySem.W.keepIn X.K (.ref fn) = true) (hb : KwB X.K fd ps (e :: es).length ks pm) (ha : PAM X fs (e :: es)) (hkw : PKM X fk kws)
    (hall : (backToKw pos (keywordEach kws X.env)).all (·.1.isSome) = true) (hks : (backToKw pos (keywordEach kws X.env)).filterMap (·.1) = ks)
    (hdb : (x == ("__debug__" : Str)) = false) (he : starEach (e :: es) X.env = (false, eval e X.env) :: starEach es X.env)
    (hpl : ((backTo pos (starEach (e :: es) X.env)).any (·.1) || (backToKw pos (keywordEach kws X.env)).any (·.1.isNone)) = false) :
    PEM X (fun env => M.bind (fs env) fun ds => M.when (decide (ds.length = (e :: es).length)) (M.bind (fk env) fun zs => M.when (decide (zs.length = ks.length)) (M.when (decide ((ds ++ pm.filterMap (zs[·]?)).length = ps.length)) (g (ds ++ pm.filterMap (zs[·]?)))))) (.Call (.Name x p) (e :: es) kws pos) := by
  refine ⟨fun pins s σ H Q I h => wpAny_Call_Name_kw (ld_glob I hg hm ?_ hdb)⟩
  obtain ⟨ρ, st, env, d, st', R, E, ev, kk⟩ := h
  obtain ⟨ds, st1, e1, e2⟩ := M.bind_some ev
  obtain ⟨hl, e3⟩ := M.when_some e2
  obtain ⟨zs, st2, e4, e5⟩ := M.bind_some e3
  obtain ⟨hz, e6⟩ := M.when_some e5
  obtain ⟨ht, e7⟩ := M.when_some e6
  have hl := of_decide_eq_true hl
  have hz := of_decide_eq_true hz
  have ht := of_decide_eq_true ht
  refine PySem.W.callWith_KW (h₀ := X.base) I.ok.mod.kin hk hall (thn (ha.run pos pins s σ H (fun vs H1 => ∃ ρ1, Le ρ H ρ1 H1 ∧ RS X.K ρ1 H1 st1 ∧ RepL X.K ρ1 H1 vs ds) I ⟨ρ, st, env, ds, st1, R, E, e1, fun ρ1 H1 vs l1 R1 r1 => ⟨ρ1, l1, R1, r1⟩⟩) fun us s1 ⟨vs, H1, I1, r, ρ1, l1, R1, r1⟩ => ?_) hpl he
  refine thn (hkw.run pos pins s1 σ H1 (fun xs H2 => ∃ ρ2, Le ρ1 H1 ρ2 H2 ∧ RS X.K ρ2 H2 st2 ∧ RepL X.K ρ2 H2 xs zs) I1 ⟨ρ1, st1, env, zs, st2, R1, E.le l1, e4, fun ρ2 H2 vs l2 R2 r2 => ⟨ρ2, l2, R2, r2⟩⟩) fun ws s2 ⟨xs, H2, I2, rz, ρ2, l2, R2, r2⟩ => ⟨I2.kIn, ?_⟩
  rw [hks]
  have v2 := r.append (vals_pm rz pm)
  have d2 := (r1.le l2).append (repl_pm r2 pm)
  refine run_g (args := ⟨us, ks.zip ws⟩) hu F hr I2 (hb s2 us ws I2.kIn ?_ ?_) v2 (by rw [d2.length]; exact ht) ⟨ρ2, st2, _, d, st', R2, d2, e7, fun ρ3 H3 v l3 R3 r3 => kk ρ3 H3 v ((l1.trans l2).trans l3) R3 r3⟩
  · rw [← r.length, r1.length]; exact hl
  · rw [← rz.length, r2.length]; exact hz
theorem pem_callk0 (hu : Rm X) (F : FnG X.prog X.w X.K X.mg X.base k fn fd ps g) (hr : Room k X.A) (hg : Gl X x) (hm : X.mg x = some (.ref fn)) (hk : PySem.W.keepIn X.K (.ref fn) = true) (hb : KwB X.K fd ps 0 ks pm) (hkw : PKM X fk kws)
    (hall : (backToKw pos (keywordEach kws X.env)).all (·.1.isSome) = true) (hks : (backToKw pos (keywordEach kws X.env)).filterMap (·.1) = ks)
    (hdb : (x == ("__debug__" : Str)) = false) (hpl : (backToKw pos (keywordEach kws X.env)).any (·.1.isNone) = false) :
    PEM X (fun env => M.bind (M.ret []) fun ds => M.when (decide (ds.length = 0)) (M.bind (fk env) fun zs => M.when (decide (zs.length = ks.length)) (M.when (decide ((ds ++ pm.filterMap (zs[·]?)).length = ps.length)) (g (ds ++ pm.filterMap (zs[·]?)))))) (.Call (.Name x p) [] kws pos) := by
  refine ⟨fun pins s σ H Q I h => wpAny_Call_Name_kw (ld_glob I hg hm ?_ hdb)⟩
  obtain ⟨ρ, st, env, d, st', R, E, ev, kk⟩ := h
  obtain ⟨ds, st1, e1, e2⟩ := M.bind_some ev
  obtain ⟨rfl, rfl⟩ := M.ret_some e1
  obtain ⟨hl, e3⟩ := M.when_some e2
  obtain ⟨zs, st2, e4, e5⟩ := M.bind_some e3
  obtain ⟨hz, e6⟩ := M.when_some e5
  obtain ⟨ht, e7⟩ := M.when_some e6
  have hz := of_decide_eq_true hz
  have ht := of_decide_eq_true ht
  have hpl' : ((backTo pos (starEach [] X.env)).any (·.1) || (backToKw pos (keywordEach kws X.env)).any (·.1.isNone)) = false := by
    rw [Bool.or_eq_false_iff]
    exact ⟨rfl, hpl⟩
  refine PySem.W.callWith_KW0 (h₀ := X.base) I.ok.mod.kin hk hall (thn (hkw.run pos pins s σ H (fun xs H2 => ∃ ρ2, Le ρ H ρ2 H2 ∧ RS X.K ρ2 H2 st2 ∧ RepL X.K ρ2 H2 xs zs) I ⟨ρ, _, env, zs, st2, R, E, e4, fun ρ2 H2 vs l2 R2 r2 => ⟨ρ2, l2, R2, r2⟩⟩) fun ws s2 ⟨xs, H2, I2, rz, ρ2, l2, R2, r2⟩ => ⟨I2.kIn, ?_⟩) hpl'
  rw [hks]
  have d2 := repl_pm r2 pm
  refine run_g (args := ⟨[], ks.zip ws⟩) hu F hr I2 (hb s2 [] ws I2.kIn rfl ?_) (vals_pm rz pm) (by rw [d2.length]; exact ht) ⟨ρ2, st2, _, d, st', R2, d2, e7, fun ρ3 H3 v l3 R3 r3 => kk ρ3 H3 v (l2.trans l3) R3 r3⟩
  rw [← rz.length, r2.length]
  exact hz
end

/-! ### the body of a def -/
theorem guards_deeper {A : Around} {env : PySem.Env} (h : A.guards = some []) : (A.deeper env).guards = some [] := by
  first | exact h | (simp [Around.deeper, h])
/-- a def as it stands behind the top, whatever its defaults -/
structure FunX (K : PySem.W.Frag) (x qual : Str) (st : Stmt) (f : Addr) (fd : FuncData) : Prop where
  ex : ∃ (oc : Value) (od : Option Addr) (dV kV doc pm : Value) (an : Option Addr) (cdv ct : Value) (osl : Array (Option Value)),
    fd = PySem.W.fnOf x qual (defArgs st) (defBody st) (defScope st) dV kV doc pm an cdv ct ∧ K.lookup f = some ⟨oc, od, .func fd, osl⟩ ∧ PySem.W.codeIn K cdv qual = true
  kp : PySem.W.keepIn K (.ref f) = true
theorem FunX.of {K : PySem.W.Frag} {x qual : Str} {st : Stmt} {f : Addr} {fd : FuncData} (F : Fun K x qual st f fd) : FunX K x qual st f fd := by
  obtain ⟨oc, od, kV, doc, pm, an, cdv, ct, osl, h⟩ := F.ex
  exact ⟨⟨oc, od, .none, kV, doc, pm, an, cdv, ct, osl, h⟩, F.kp⟩
theorem fnG_of {P : Program} {w : World} {K : PySem.W.Frag} {mg : Str → Option Value} {base : Heap} {k : Nat} {name qual : Str} {st : Stmt} {f : Addr} {fd : FuncData} {N ps : List Str} {g : List D → M D} {body : Env → M (Fl × Env)} (F : FunX K name qual st f fd) (S : FnScope N ps (defScope st))
    (hbody : ∀ (cdv : Value) (A : Around) (outer : List PySem.Env) (s : Shared) (H : Hp), Room k (A.deeper (envOfC qual (defScope st) s.heap.objs.size f cdv)) → A.guards = some [] →
      PSsM (cxOf CX0 P w K mg base N qual (defScope st) f cdv A outer s H E0).nox body (defBody st))
    (hg : ∀ ds st r st', g ds st = some (r, st') → ds.length = ps.length ∧ ∃ fl env', body (startE N.length ds) st = some ((fl, env'), st') ∧ ((fl = .next ∧ r = .non) ∨ fl = .ret r)) : FnG P w K mg base (k + 1) f fd ps g := by
  obtain ⟨oc, od, dV, kV, doc, pm, an, cdv, ct, osl, rfl, lk, hcd⟩ := F.ex
  refine ⟨fun A outer s H args us vs Q hr hgd e0 hb r ⟨hl, ρ, st0, ds, d, st', R, rd, eg, kk⟩ => ?_⟩
  obtain ⟨hdl, fl, env', eb, hfl⟩ := hg ds st0 d st' eg
  have hK : K.In s.heap := e0.mod.kin.keeps (fun b o z => (e0.bs b o z).1)
  have hL : s.heap.NoLimit := e0.mod.nolimit.keeps (fun b o z => (e0.bs b o z).1)
  have kinds : ∀ y ∈ ps.zip us, (defScope st).names.lookup y.1 = some .local ∨ ((defScope st).names.lookup y.1 = some .cell ∧ ((cellsFrom (s.heap.objs.size + 1) (defScope st).names []).lookup y.1).isSome = true) := by
    rintro ⟨n, v⟩ hy
    rcases S.par n (List.of_mem_zip hy).1 with z | z
    · exact .inl z
    · exact .inr ⟨z, PySem.W.cellsFrom_some _ _ _ (.inl z)⟩
  refine codeAny_call_function hr.depth (hK _ _ lk) rfl S.co S.gen rfl (PySem.W.codeRec_of hK hcd) (hb _ _ _ _ (wpAny_newFunctionEnv_cells S.kind kinds fun env he s1 x => ?_))
  subst he
  refine ⟨hL.keeps x.toInCall.keep, codeAny_func ?_⟩
  have hB := hbody cdv A outer s H (hr.deeper _) hgd
  have I0 : Inv (cxOf CX0 P w K mg base N qual (defScope st) f cdv A outer s H E0) [] (L2.start N vs) H s1 := inv_start S hr.hd e0 hl r x
  have E0' : ER K ρ H (L2.start N vs) (startE N.length ds) := by
    have hvl := rd.length
    refine ⟨?_, fun i dd hi => ?_⟩
    · unfold L2.start startE
      rw [List.length_append, List.length_append, List.length_map, List.length_map, List.length_replicate, List.length_replicate, hvl]
    · unfold startE at hi
      by_cases hlt : i < ds.length
      · rw [List.getElem?_append_left (by simpa using hlt), List.getElem?_map] at hi
        cases e1 : ds[i]? with
        | none => rw [e1] at hi; cases hi
        | some d1 =>
          rw [e1] at hi
          cases hi
          obtain ⟨v, h1, h2⟩ := rd.get e1
          refine ⟨v, ?_, h2⟩
          unfold L2.start
          rw [List.getElem?_append_left (by rw [List.length_map, hvl]; exact hlt), List.getElem?_map, h1]
          rfl
      · rw [List.getElem?_append_right (by simpa using hlt), List.getElem?_replicate] at hi
        split at hi <;> cases hi
  refine wpAny_mono (hB.nox.run [] s1 (L2.start N vs) H { nx := fun _ H' => Q .non H', rt := Q } I0 ⟨ρ, st0, _, _, st', R, E0', eb, fun ρ1 H1 σ1 l1 R1 E1 => ?_⟩) (fun fl2 s' hs => ?_) fun e s' hs => hs
  · rcases hfl with ⟨rfl, rfl⟩ | rfl
    · exact kk ρ1 H1 _ l1 R1 .non
    · exact fun v rv => kk ρ1 H1 v l1 R1 rv
  · match fl2, hs with
    | .ret u, ⟨v, σ', H', J, rv, q⟩ => exact ⟨v, H', J.os, J.bare, J.base, J.hok, rv, q⟩
    | .next, ⟨σ', H', J, q⟩ => exact ⟨.non, H', J.os, J.bare, J.base, J.hok, rfl, q⟩
    | .brk, ⟨_, _, _, q⟩ => exact False.elim q
    | .cont, ⟨_, _, _, q⟩ => exact False.elim q
end
end MP

set_option Elab.async false
set_option linter.all false
set_option maxRecDepth 100000
/-! M9: the check that a text in the small language is what stands in the program. -/
namespace MP
open PySem L2 PyProof.Rows
structure FT where
  name : Str
  ps : List Str
  kws : List (Nat × List Str × List Nat)
  dfl : List V
structure Tab where
  funs : List FT
  cons : List (Str × V)
  blts : List Str
  mths : List (Str × Bf)
structure TabOk (T : Tab) (P : Program) (w : World) (K : PySem.W.Frag) (mg : Str → Option Value) (base : Heap) (k : Nat) (Γ : Gam) : Prop where
  blt : ∀ x ∈ T.blts, mg x = none
  con : ∀ q ∈ T.cons, ∃ u, mg q.1 = some u ∧ RelV q.2 u
  mth : ∀ q ∈ T.mths, mg q.1 = some (.builtin q.2.id)
  fn : ∀ F ∈ T.funs, ∃ f fd, mg F.name = some (.ref f) ∧ PySem.W.keepIn K (.ref f) = true ∧ Binds K fd F.ps [] ∧ (∀ q ∈ F.kws, KwB K fd F.ps q.1 q.2.1 q.2.2) ∧ (∀ j, j < F.dfl.length → ∃ df, Vals (F.dfl.drop j) df ∧ Binds K fd F.ps df) ∧ FnG P w K mg base k f fd F.ps (Γ F.name)
structure Cok (T : Tab) (N : List Str) (sc : Scope) (fnB : Str → Bool) (X : Cx) (k : Nat) (Γ : Gam) : Prop where
  hN : X.N = N
  hsc : X.env.scope = sc
  hfn : X.fn = fnB
  nd : N.Nodup
  rm : Rm X
  room : Room k X.A
  tab : TabOk T X.prog X.w X.K X.mg X.base k Γ
  own : PassesOwn (model X.prog X.w) X.A X.env X.xe

/-! ### checks of shapes -/
def noStar : Expr → Bool
  | .Starred .. => false
  | _ => true
def noComp : Expr → Bool
  | .ListComp .. => false
  | .SetComp .. => false
  | .DictComp .. => false
  | _ => true
def noSet : Expr → Bool
  | .Set .. => false
  | _ => true
def noSlice : Expr → Bool
  | .Slice .. => false
  | _ => true
def noCall : Expr → Bool
  | .Call .. => false
  | _ => true
def plainT : Expr → Bool
  | .UnaryOp .Not .. => false
  | .BoolOp .. => false
  | .IfExp .. => false
  | .Compare .. => false
  | _ => true
theorem star_cons {e : Expr} {es : List Expr} {env : PySem.Env} (h : noStar e = true) : starEach (e :: es) env = (false, eval e env) :: starEach es env := by
  cases e <;> first | rfl | cases h
theorem star_any {pos : Pos} {env : PySem.Env} : ∀ {es : List Expr}, es.all noStar = true → (backTo pos (starEach es env)).any (·.1) = false
  | [], _ => rfl
  | e :: es, h => by
    rw [List.all_cons, Bool.and_eq_true] at h
    rw [star_cons h.1]
    show (false || (backTo pos (starEach es env)).any (·.1)) = false
    rw [star_any h.2]
    rfl
theorem star_all {pos : Pos} {env : PySem.Env} : ∀ {es : List Expr}, es.all noStar = true → (backTo pos (starEach es env)).all (fun x => !x.1) = true
  | [], _ => rfl
  | e :: es, h => by
    rw [List.all_cons, Bool.and_eq_true] at h
    rw [star_cons h.1]
    show ((!false) && (backTo pos (starEach es env)).all (fun x => !x.1)) = true
    rw [star_all h.2]
    rfl
theorem swaps_no {e : Expr} {t : Option Expr} {l : Nat} {env : PySem.Env} (h : noComp e = true) : swapsWith e t l env = pure false := by
  cases e <;> first | rfl | cases h
theorem swapsSole_no {t e : Expr} {l : Nat} {env : PySem.Env} (h : noComp e = true) : swapsWithSole [t] e l env = pure false := swaps_no h
theorem set_no {e : Expr} {env : PySem.Env} (h : noSet e = true) (x : Value) : foldedSetIterable e env x = pure x := by
  cases e <;> first | rfl | cases h
theorem mark_no {e : Expr} {op : CmpOp} (h : noSet e = true) : behindInMarks op e = false := by
  cases e <;> first | rfl | cases h
theorem plainIx_no {b : Expr} (h : noSlice b = true) : PlainIx b := by
  cases b <;> first | exact fun _ _ => rfl | cases h
theorem base_no {o : Expr} {name : Str} {env : PySem.Env} {whole : Sem Value} (h : noCall o = true) : attributeBase o name env whole = whole := by
  cases o <;> first | rfl | cases h
theorem test_plain {e : Expr} {env : PySem.Env} (h : plainT e = true) (whole : Sem Value) : isTrue e env whole = (do let v ← whole; standAt e.pos; holding [v] (truthy v)) := by
  cases e with
  | UnaryOp op x p => cases op <;> first | rfl | cases h
  | BoolOp => cases h
  | IfExp => cases h
  | Compare => cases h
  | _ => rfl
def visB (sc : Scope) (x : Str) : Bool := match sc.names.lookup x with
  | some .local => true
  | some .cell => true
  | some .free => true
  | _ => false
theorem visB_ok {sc : Scope} {x : Str} (h : visB sc x = true) : Vis sc x := by
  unfold visB at h
  split at h
  · exact .inl (by assumption)
  · exact .inr (.inl (by assumption))
  · exact .inr (.inr (by assumption))
  · cases h
def slotB (N : List Str) (sc : Scope) (i : Nat) (x : Str) : Bool := decide (N[i]? = some x) && visB sc x && !(x == ("__debug__" : Str)) && !(x == ("__classdict__" : Str))
def putB (N : List Str) (sc : Scope) (fnB : Str → Bool) (i : Nat) (x : Str) : Bool := decide (N[i]? = some x) && (decide (sc.names.lookup x = some .local) || (decide (sc.names.lookup x = some .cell) && fnB x))
def glB (sc : Scope) (x : Str) : Bool := decide (sc.names.lookup x = some .globalImplicit) && !(x == ("__debug__" : Str))
def constV : Const → Option V
  | .none => some .non
  | .bool b => some (.bl b)
  | .int i => some (.int i)
  | .str s => some (.str s)
  | _ => none
def T.pos : Expr → Pos := Expr.pos
def isiT : List String := ["int", "bool", "tuple", "str", "list", "dict"]

/-! ### the check -/
section
variable (T : Tab)
def tgB (N : List Str) (sc : Scope) (fnB : Str → Bool) : List Nat → Expr → Bool
  | [i], .Name x _ => putB N sc fnB i x
  | l, .Tuple es _ _ => decide (l.length ≠ 1) && decide (l.length = es.length) && (l.zip es).all fun q => match q.2 with
    | .Name x _ => putB N sc fnB q.1 x
    | _ => false
  | _, _ => false
def tgNames : Expr → List Str
  | .Name x _ => [x]
  | .Tuple es _ _ => es.filterMap fun e => match e with | .Name x _ => some x | _ => none
  | _ => []
def ofO {α : Type} (o : Option α) (p : α → Bool) : Bool := match o with
  | some a => p a
  | none => false
theorem ofO_some {α : Type} {o : Option α} {p : α → Bool} (h : ofO o p = true) : ∃ a, o = some a ∧ p a = true := by
  cases o with
  | none => cases h
  | some a => exact ⟨a, rfl, h⟩
def nameV : Expr → Option Str
  | .Name x _ => some x
  | _ => none
def constE : Expr → Option Const
  | .Constant c _ _ => some c
  | _ => none
def binV : Expr → Option (Expr × Operator × Expr)
  | .BinOp l o r _ => some (l, o, r)
  | _ => none
def unV : Expr → Option (UnaryOp × Expr)
  | .UnaryOp o e _ => some (o, e)
  | _ => none
def cmpV : Expr → Option (Expr × CmpOp × Expr)
  | .Compare l [o] [r] _ => some (l, o, r)
  | _ => none
def chainV : Expr → Option (Expr × CmpOp × Expr × CmpOp × Expr)
  | .Compare l [o, o'] [r, r'] _ => some (l, o, r, o', r')
  | _ => none
def boolV : Expr → Option (BoolOp × Expr × Expr)
  | .BoolOp op [v, w] _ => some (op, v, w)
  | .BoolOp op (v :: w :: u :: rest) p => some (op, v, .BoolOp op (w :: u :: rest) p)
  | _ => none
def iteV : Expr → Option (Expr × Expr × Expr)
  | .IfExp t x y _ => some (t, x, y)
  | _ => none
def callV : Expr → Option (Str × List Expr × List Keyword)
  | .Call (.Name x _) args kws _ => some (x, args, kws)
  | _ => none
def methV : Expr → Option (Expr × Str × Pos × List Expr × List Keyword × Pos)
  | .Call (.Attribute e nm ap) args kws p => some (e, nm, ap, args, kws, p)
  | _ => none
def tupV : Expr → Option (List Expr)
  | .Tuple xs _ _ => some xs
  | _ => none
def lstV : Expr → Option (List Expr)
  | .List xs _ => some xs
  | _ => none
def subV : Expr → Option (Expr × Expr)
  | .Subscript x y _ => some (x, y)
  | _ => none
def slcV : Expr → Option (Expr × Option Expr × Option Expr)
  | .Subscript x (.Slice l h none _) _ => some (x, l, h)
  | _ => none
def revV : Expr → Option (Expr × Int)
  | .Subscript x (.Slice none none (some (.UnaryOp .USub (.Constant (.int i) _ _) _)) _) _ => some (x, i)
  | _ => none
def compV : Expr → Option (Expr × Expr × Expr × List Expr × Int × Scope)
  | .ListComp x [⟨t, i, ifs, as⟩] scope _ => some (x, t, i, ifs, as, scope)
  | _ => none
theorem nameV_ok {e : Expr} {x : Str} (h : nameV e = some x) : ∃ p, e = .Name x p := by
  unfold nameV at h
  split at h <;> cases h
  exact ⟨_, rfl⟩
theorem constE_ok {e : Expr} {x : Const} (h : constE e = some x) : ∃ j p, e = .Constant x j p := by
  unfold constE at h
  split at h <;> cases h
  exact ⟨_, _, rfl⟩
theorem binV_ok {e : Expr} {q : Expr × Operator × Expr} (h : binV e = some q) : ∃ p, e = .BinOp q.1 q.2.1 q.2.2 p := by
  unfold binV at h
  split at h <;> cases h
  exact ⟨_, rfl⟩
theorem unV_ok {e : Expr} {q : UnaryOp × Expr} (h : unV e = some q) : ∃ p, e = .UnaryOp q.1 q.2 p := by
  unfold unV at h
  split at h <;> cases h
  exact ⟨_, rfl⟩
theorem cmpV_ok {e : Expr} {q : Expr × CmpOp × Expr} (h : cmpV e = some q) : ∃ p, e = .Compare q.1 [q.2.1] [q.2.2] p := by
  unfold cmpV at h
  split at h <;> cases h
  exact ⟨_, rfl⟩
theorem chainV_ok {e : Expr} {q : Expr × CmpOp × Expr × CmpOp × Expr} (h : chainV e = some q) : ∃ p, e = .Compare q.1 [q.2.1, q.2.2.2.1] [q.2.2.1, q.2.2.2.2] p := by
  unfold chainV at h
  split at h <;> cases h
  exact ⟨_, rfl⟩
theorem boolV_ok {e : Expr} {q : BoolOp × Expr × Expr} (h : boolV e = some q) : (∃ p, e = .BoolOp q.1 [q.2.1, q.2.2] p) ∨ ∃ w rest p, e = .BoolOp q.1 (q.2.1 :: w :: rest) p ∧ q.2.2 = .BoolOp q.1 (w :: rest) p := by
  unfold boolV at h
  split at h <;> cases h
  · exact .inl ⟨_, rfl⟩
  · exact .inr ⟨_, _, _, rfl, rfl⟩
theorem iteV_ok {e : Expr} {q : Expr × Expr × Expr} (h : iteV e = some q) : ∃ p, e = .IfExp q.1 q.2.1 q.2.2 p := by
  unfold iteV at h
  split at h <;> cases h
  exact ⟨_, rfl⟩
theorem callV_ok {e : Expr} {q : Str × List Expr × List Keyword} (h : callV e = some q) : ∃ p p2, e = .Call (.Name q.1 p) q.2.1 q.2.2 p2 := by
  unfold callV at h
  split at h <;> cases h
  exact ⟨_, _, rfl⟩
theorem methV_ok {e : Expr} {q : Expr × Str × Pos × List Expr × List Keyword × Pos} (h : methV e = some q) : e = .Call (.Attribute q.1 q.2.1 q.2.2.1) q.2.2.2.1 q.2.2.2.2.1 q.2.2.2.2.2 := by
  unfold methV at h
  split at h <;> cases h
  rfl
theorem tupV_ok {e : Expr} {x : List Expr} (h : tupV e = some x) : ∃ j p, e = .Tuple x j p := by
  unfold tupV at h
  split at h <;> cases h
  exact ⟨_, _, rfl⟩
theorem lstV_ok {e : Expr} {x : List Expr} (h : lstV e = some x) : ∃ p, e = .List x p := by
  unfold lstV at h
  split at h <;> cases h
  exact ⟨_, rfl⟩
theorem subV_ok {e : Expr} {q : Expr × Expr} (h : subV e = some q) : ∃ p, e = .Subscript q.1 q.2 p := by
  unfold subV at h
  split at h <;> cases h
  exact ⟨_, rfl⟩
theorem slcV_ok {e : Expr} {q : Expr × Option Expr × Option Expr} (h : slcV e = some q) : ∃ p p2, e = .Subscript q.1 (.Slice q.2.1 q.2.2 none p2) p := by
  unfold slcV at h
  split at h <;> cases h
  exact ⟨_, _, rfl⟩
theorem revV_ok {e : Expr} {q : Expr × Int} (h : revV e = some q) : ∃ j p p1 p2 p3, e = .Subscript q.1 (.Slice none none (some (.UnaryOp .USub (.Constant (.int q.2) j p1) p2)) p3) p := by
  unfold revV at h
  split at h <;> cases h
  exact ⟨_, _, _, _, _, rfl⟩
theorem compV_ok {e : Expr} {q : Expr × Expr × Expr × List Expr × Int × Scope} (h : compV e = some q) : ∃ p, e = .ListComp q.1 [⟨q.2.1, q.2.2.1, q.2.2.2.1, q.2.2.2.2.1⟩] q.2.2.2.2.2 p := by
  unfold compV at h
  split at h <;> cases h
  exact ⟨_, rfl⟩
mutual
def IE.chk (N : List Str) (ie : IE) (sc : Scope) (f : Str → Bool) (x : Expr) : Bool := match ie with
  | .var i => ofO (nameV x) fun y => slotB N sc i y
  | .lit v => ofO (constE x) fun c => decide (constV c = some v)
  | .con y v => ofO (nameV x) fun z => decide (y = z) && glB sc y && T.cons.any (fun q => decide (q = (y, v)))
  | .bin op a b => ofO (binV x) fun q => decide (op.op = q.2.1) && a.chk N sc f q.1 && b.chk N sc f q.2.2
  | .neg a => ofO (unV x) fun q => decide (UnaryOp.USub = q.1) && a.chk N sc f q.2
  | .cmp op a b => ofO (cmpV x) fun q => decide (op.op = q.2.1) && noSet q.2.2 && a.chk N sc f q.1 && b.chk N sc f q.2.2
  | .chain op op' a b c => ofO (chainV x) fun q => decide (op.op = q.2.1) && decide (op'.op = q.2.2.2.1) && noSet q.2.2.2.2 && a.chk N sc f q.1 && b.chk N sc f q.2.2.1 && c.chk N sc f q.2.2.2.2
  | .and a b => ofO (boolV x) fun q => decide (BoolOp.And = q.1) && a.chk N sc f q.2.1 && b.chk N sc f q.2.2
  | .or a b => ofO (boolV x) fun q => decide (BoolOp.Or = q.1) && a.chk N sc f q.2.1 && b.chk N sc f q.2.2
  | .not a => ofO (unV x) fun q => decide (UnaryOp.Not = q.1) && a.chk N sc f q.2
  | .ite c a b => ofO (iteV x) fun q => c.chk N sc f q.1 && a.chk N sc f q.2.1 && b.chk N sc f q.2.2
  | .call g n as => ofO (callV x) fun q => decide (g = q.1) && glB sc g && q.2.1.all noStar && q.2.2.isEmpty && T.funs.any (fun F => decide (F.name = g) && decide (F.ps.length = n)) && as.chk N sc f q.2.1
  | .callk g n as ks pm kas => ofO (callV x) fun q => decide (g = q.1) && glB sc g && q.2.1.all noStar && T.funs.any (fun F => decide (F.name = g) && decide (F.ps.length = n) && F.kws.any (fun q => decide (q = (as.len, ks, pm)))) && as.chk N sc f q.2.1 && kas.chkK N ks sc f q.2.2
  | .calld g n as dv => ofO (callV x) fun q => decide (g = q.1) && glB sc g && q.2.1.all noStar && q.2.2.isEmpty && !q.2.1.isEmpty && dv.all MP.sc && T.funs.any (fun F => decide (F.name = g) && decide (F.ps.length = n) && (List.range F.dfl.length).any (fun j => decide (dv = F.dfl.drop j))) && as.chk N sc f q.2.1
  | .dead => true
  | .mth b as => ofO (callV x) fun q => glB sc q.1 && T.mths.any (fun y => decide (y = (q.1, b))) && q.2.2.isEmpty && !q.2.1.isEmpty && q.2.1.all noStar && as.chk N sc f q.2.1
  | .blt b as => ofO (callV x) fun q => decide (b.name = q.1) && glB sc b.name && T.blts.any (fun y => decide (y = b.name)) && q.2.2.isEmpty && !q.2.1.isEmpty && q.2.1.all noStar && as.chk N sc f q.2.1
  | .isi a t => ofO (callV x) fun q => ofO (match q.2.1 with | [e, n] => some (e, n) | _ => none) fun r => ofO (nameV r.2) fun y => decide (q.1 = ("isinstance" : Str)) && glB sc q.1 && decide (t = y) && glB sc y && T.blts.any (fun z => decide (z = q.1)) && T.blts.any (fun z => decide (z = y)) && isiT.any (fun z => decide (PySem.Str.ofString z = y)) && noStar r.1 && q.2.2.isEmpty && a.chk N sc f r.1
  | .meth m o as => ofO (methV x) fun q => decide (m.name = q.2.1) && noCall q.1 && q.2.2.2.2.1.isEmpty && !q.2.2.2.1.isEmpty && q.2.2.2.1.all noStar && decide (q.2.2.2.1.length < 29) && (q.2.2.1.endLine == q.2.2.2.2.2.line) && o.chk N sc f q.1 && as.chk N sc f q.2.2.2.1
  | .tup es => ofO (tupV x) fun xs => xs.all noStar && es.chk N sc f xs
  | .lst es => ofO (lstV x) fun xs => xs.all noStar && es.chk N sc f xs
  | .idx a i => ofO (subV x) fun q => noSlice q.2 && a.chk N sc f q.1 && i.chk N sc f q.2
  | .slc a lo hi => ofO (slcV x) fun q => a.chk N sc f q.1 && lo.chkO N sc f q.2.1 && hi.chkO N sc f q.2.2
  | .rev a => ofO (revV x) fun q => decide (q.2 = 1) && a.chk N sc f q.1
  | .comp tg it c e => ofO (compV x) fun q => decide (q.2.2.2.2.1 = 0) && noSet q.2.2.1 && blkC N sc q.2.2.2.2.2 ((tgNames q.2.1).zip tg) && decide ((tgNames q.2.1).length = tg.length) && it.chk N sc f q.2.1 q.2.2.1 &&
      tgB N (relS q.2.2.2.2.2 sc) (fun x => q.2.2.2.2.2.names.lookup x == some .cell) tg q.2.1 && c.chkT N (relS q.2.2.2.2.2 sc) (fun x => q.2.2.2.2.2.names.lookup x == some .cell) q.2.2.2.1 && e.chk N (relS q.2.2.2.2.2 sc) (fun x => q.2.2.2.2.2.names.lookup x == some .cell) q.1
def IEs.chk (N : List Str) (es : IEs) (sc : Scope) (f : Str → Bool) (xs : List Expr) : Bool := match es with
  | .nil => xs.isEmpty
  | .cons e es => match xs with
    | x :: xs => e.chk N sc f x && noStar x && es.chk N sc f xs
    | [] => false
def IEs.chkK (N : List Str) (es : IEs) (ks : List Str) (sc : Scope) (f : Str → Bool) (xs : List Keyword) : Bool := match es with
  | .nil => xs.isEmpty && ks.isEmpty
  | .cons e es => match xs, ks with
    | ⟨nm, x, _⟩ :: xs, k :: ks => decide (nm = some k) && e.chk N sc f x && es.chkK N ks sc f xs
    | _, _ => false
def IEs.chkO (N : List Str) (es : IEs) (sc : Scope) (f : Str → Bool) (o : Option Expr) : Bool := match es with
  | .nil => o.isNone
  | .cons e es => ofO o fun x => e.chk N sc f x && (match es with | .nil => true | .cons _ _ => false)
def IEs.chkT (N : List Str) (es : IEs) (sc : Scope) (f : Str → Bool) (xs : List Expr) : Bool := match es with
  | .nil => xs.isEmpty
  | .cons e es => ofO (match xs with | [x] => some x | _ => none) fun x => e.chk N sc f x && (match es with | .nil => true | .cons _ _ => false)
def II.chk (N : List Str) (it : II) (sc : Scope) (f : Str → Bool) (t x : Expr) : Bool := match it with
  | .seq a => noSet x && a.chk N sc f x
  | .range as => ofO (callV x) fun q => decide (q.1 = ("range" : Str)) && glB sc q.1 && T.blts.any (fun z => decide (z = q.1)) && q.2.2.isEmpty && decide (1 ≤ q.2.1.length) && decide (q.2.1.length ≤ 3) && as.chk N sc f q.2.1
  | .enum _ => false
end
end
end MP

set_option Elab.async false
set_option linter.all false
set_option maxRecDepth 100000
/-! M10: what is checked does in the model what the small language says: expressions. -/
namespace MP
open PySem L2 PyProof.Rows
section
variable {T : Tab} {N : List Str} {sc : Scope} {f : Str → Bool} {X : Cx} {k : Nat} {Γ : Gam}
theorem Cok.gl (C : Cok T N sc f X k Γ) {x : Str} (h : glB sc x = true) : Gl X x ∧ (x == ("__debug__" : Str)) = false := by
  unfold glB at h
  rw [Bool.and_eq_true] at h
  refine ⟨?_, by simpa using h.2⟩
  show X.env.scope.names.lookup x = _
  rw [C.hsc]
  exact of_decide_eq_true h.1
theorem any_eq {α : Type} [DecidableEq α] {l : List α} {x : α} (h : l.any (fun y => decide (y = x)) = true) : x ∈ l := by
  rw [List.any_eq_true] at h
  obtain ⟨y, hy, e⟩ := h
  rw [← of_decide_eq_true e]
  exact hy
theorem Cok.pg (C : Cok T N sc f X k Γ) {i : Nat} {x : Str} {pos : Pos} (h : putB N sc f i x = true) : PG X (.Name x pos) (gName i) := by
  unfold putB at h
  rw [Bool.and_eq_true, Bool.or_eq_true, Bool.and_eq_true] at h
  have h1 := of_decide_eq_true h.1
  refine pg_name (by rw [C.hN]; exact C.nd) (by rw [C.hN]; exact h1) ?_ ?_
  · rcases h.2 with h2 | h2
    · exact .inl (by rw [C.hsc]; exact of_decide_eq_true h2)
    · exact .inr (by rw [C.hsc]; exact of_decide_eq_true h2.1)
  · rcases h.2 with h2 | h2
    · exact .inr (by rw [C.hsc]; exact of_decide_eq_true h2)
    · exact .inl (by rw [C.hfn]; exact h2.2)
theorem Cok.pgs (C : Cok T N sc f X k Γ) : ∀ {l : List Nat} {es : List Expr}, l.length = es.length → ((l.zip es).all fun q => match q.2 with
    | .Name x _ => putB N sc f q.1 x
    | _ => false) = true → PGs X es (gsOf l) ∧ (assignEach es X.env).length = l.length ∧ (assignEach es X.env).findIdx? (·.1) = none
  | [], [], _, _ => ⟨pgs_nil, rfl, rfl⟩
  | i :: l, e :: es, hl, h => by
    rw [List.zip_cons_cons, List.all_cons, Bool.and_eq_true] at h
    obtain ⟨h1, h2, h3⟩ := C.pgs (by simpa using hl) h.2
    cases e with
    | Name x pos =>
      refine ⟨gsm_cons (C.pg h.1) h1, ?_, ?_⟩
      · show (assignEach es X.env).length + 1 = l.length + 1
        rw [h2]
      · show List.findIdx? (·.1) ((false, assign (.Name x pos) X.env) :: assignEach es X.env) = none
        rw [List.findIdx?_cons, h3]
        rfl
    | _ => exact absurd h.1 Bool.false_ne_true
  | [], _ :: _, hl, _ => by simp at hl
  | _ :: _, [], hl, _ => by simp at hl
theorem Cok.tg (C : Cok T N sc f X k Γ) {l : List Nat} {t : Expr} (h : tgB N sc f l t = true) : PGM X l t := by
  unfold tgB at h
  split at h
  · exact pgm_one (C.pg h)
  · rename_i es _ _ 
    rw [Bool.and_eq_true, Bool.and_eq_true] at h
    obtain ⟨h1, h2, h3⟩ := C.pgs (of_decide_eq_true h.1.2) h.2
    exact pgm_tup C.rm.calm (of_decide_eq_true h.1.1) h1 h2 h3
  · cases h
theorem Cok.fun_ (C : Cok T N sc f X k Γ) {g : Str} {n : Nat} (h : T.funs.any (fun F => decide (F.name = g) && decide (F.ps.length = n)) = true) : ∃ fn fd ps, X.mg g = some (.ref fn) ∧ PySem.W.keepIn X.K (.ref fn) = true ∧ Binds X.K fd ps [] ∧ ps.length = n ∧ FnG X.prog X.w X.K X.mg X.base k fn fd ps (Γ g) := by
  rw [List.any_eq_true] at h
  obtain ⟨F, hF, e⟩ := h
  rw [Bool.and_eq_true] at e
  obtain ⟨fn, fd, h1, h2, h3, _, _, h5⟩ := C.tab.fn F hF
  have e1 := of_decide_eq_true e.1
  subst e1
  exact ⟨fn, fd, F.ps, h1, h2, h3, of_decide_eq_true e.2, h5⟩
theorem Cok.funk (C : Cok T N sc f X k Γ) {g : Str} {n : Nat} {q : Nat × List Str × List Nat} (h : T.funs.any (fun F => decide (F.name = g) && decide (F.ps.length = n) && F.kws.any (fun r => decide (r = q))) = true) :
    ∃ fn fd ps, X.mg g = some (.ref fn) ∧ PySem.W.keepIn X.K (.ref fn) = true ∧ KwB X.K fd ps q.1 q.2.1 q.2.2 ∧ ps.length = n ∧ FnG X.prog X.w X.K X.mg X.base k fn fd ps (Γ g) := by
  rw [List.any_eq_true] at h
  obtain ⟨F, hF, e⟩ := h
  rw [Bool.and_eq_true, Bool.and_eq_true] at e
  obtain ⟨fn, fd, h1, h2, h3, h4, _, h5⟩ := C.tab.fn F hF
  have e1 := of_decide_eq_true e.1.1
  subst e1
  exact ⟨fn, fd, F.ps, h1, h2, h4 q (any_eq e.2), of_decide_eq_true e.1.2, h5⟩
theorem Cok.fund (C : Cok T N sc f X k Γ) {g : Str} {n : Nat} {dv : List V} (h : T.funs.any (fun F => decide (F.name = g) && decide (F.ps.length = n) && (List.range F.dfl.length).any (fun j => decide (dv = F.dfl.drop j))) = true) :
    ∃ fn fd ps, X.mg g = some (.ref fn) ∧ PySem.W.keepIn X.K (.ref fn) = true ∧ (∃ df, Vals dv df ∧ Binds X.K fd ps df) ∧ ps.length = n ∧ FnG X.prog X.w X.K X.mg X.base k fn fd ps (Γ g) := by
  rw [List.any_eq_true] at h
  obtain ⟨F, hF, e⟩ := h
  rw [Bool.and_eq_true, Bool.and_eq_true, List.any_eq_true] at e
  obtain ⟨⟨e1, e2⟩, j, hj, ej⟩ := e
  obtain ⟨fn, fd, h1, h2, h3, h4, h6, h5⟩ := C.tab.fn F hF
  have e1 := of_decide_eq_true e1
  subst e1
  have ej := of_decide_eq_true ej
  subst ej
  exact ⟨fn, fd, F.ps, h1, h2, h6 j (List.mem_range.mp hj), of_decide_eq_true e2, h5⟩
theorem pem_dead {e : Expr} : PEM X (fun _ => M.fail) e := ⟨fun pins s σ H Q I h => by
  obtain ⟨ρ, st, env, d, st', R, E, ev, kk⟩ := h
  cases ev⟩
theorem ptm_dead {e : Expr} : PTM X (testM fun _ => M.fail) e := ⟨fun pins s σ H Q I h => by
  obtain ⟨ρ, st, env, d, st', R, E, ev, kk⟩ := h
  cases ev⟩
theorem kw_some {env : PySem.Env} {pos : Pos} {sc : Scope} {f : Str → Bool} : ∀ {es : IEs} {ks : List Str} {kws : List Keyword}, es.chkK T N ks sc f kws = true →
    (backToKw pos (keywordEach kws env)).all (·.1.isSome) = true ∧ (backToKw pos (keywordEach kws env)).filterMap (·.1) = ks ∧ (backToKw pos (keywordEach kws env)).any (·.1.isNone) = false
  | .nil, ks, kws, h => by
    unfold IEs.chkK at h
    rw [Bool.and_eq_true, List.isEmpty_iff, List.isEmpty_iff] at h
    obtain ⟨rfl, rfl⟩ := h
    exact ⟨rfl, rfl, rfl⟩
  | .cons e es, ks, kws, h => by
    unfold IEs.chkK at h
    split at h
    · rename_i nm x p kws k ks
      rw [Bool.and_eq_true, Bool.and_eq_true] at h
      have e1 := of_decide_eq_true h.1.1
      subst e1
      obtain ⟨h1, h2, h3⟩ := kw_some h.2
      refine ⟨?_, ?_, ?_⟩
      · show (true && (backToKw pos (keywordEach kws env)).all (·.1.isSome)) = true
        rw [h1]; rfl
      · show k :: (backToKw pos (keywordEach kws env)).filterMap (·.1) = k :: ks
        rw [h2]
      · show (false || (backToKw pos (keywordEach kws env)).any (·.1.isNone)) = false
        rw [h3]; rfl
    · cases h
theorem chk_len {sc : Scope} {f : Str → Bool} : ∀ {es : IEs} {xs : List Expr}, es.chk T N sc f xs = true → es.len = xs.length
  | .nil, xs, h => by
    unfold IEs.chk at h
    rw [List.isEmpty_iff] at h
    subst h
    rfl
  | .cons e es, [], h => by
    unfold IEs.chk at h
    cases h
  | .cons e es, x :: xs, h => by
    unfold IEs.chk at h
    simp only [Bool.and_eq_true] at h
    show es.len + 1 = xs.length + 1
    rw [chk_len h.2]
theorem IEs.stars {sc : Scope} {f : Str → Bool} : ∀ (es : IEs) (xs : List Expr), es.chk T N sc f xs = true → xs.all noStar = true
  | .nil, xs, h => by
    unfold IEs.chk at h
    rw [List.isEmpty_iff] at h
    subst h
    rfl
  | .cons e es, [], h => rfl
  | .cons e es, x :: xs, h => by
    unfold IEs.chk at h
    simp only [Bool.and_eq_true] at h
    rw [List.all_cons, Bool.and_eq_true]
    exact ⟨h.1.2, IEs.stars es xs h.2⟩
theorem lit_ok {c : Const} {v : V} {j : Nat} {pos : Pos} (h : constV c = some v) : PE X (.Constant c j pos) (tC v) := by
  cases c <;> first
    | (cases h; exact pe_non)
    | (cases h; exact pe_bl)
    | (cases h; exact pe_int)
    | (cases h; exact pe_str)
    | cases h
theorem PT.pw {op : BoolOp} {es : List Expr} {pos : Pos} {t : TT} (h : PT X (.BoolOp op es pos) t) : PW X (.BoolOp op es pos) t := ⟨fun whole pins s σ H Q I q => h.run pins s σ H Q I q⟩
/-- both: as a value, as a test -/
structure Both (X : Cx) (g : Env → M D) (e : Expr) : Prop where
  val : PEM X g e
  tst : PTM X (testM g) e
theorem Both.plain {g : Env → M D} {e : Expr} (h : PEM X g e) (hp : plainT e = true) : Both X g e := ⟨h, ptm_truth h fun w => test_plain hp w⟩
theorem ptm_ite {cc a b : Expr} {fc fa fb : Env → M D} {pos : Pos} (hc : PTM X (testM fc) cc) (ha : PTM X (testM fa) a) (hb : PTM X (testM fb) b) : PTM X (testM (iteM fc fa fb)) (.IfExp cc a b pos) := by
  refine ⟨fun pins s σ H Q I h => ?_⟩
  obtain ⟨ρ, st, env, t, st', R, E, ev, kk⟩ := h
  obtain ⟨d, st1, e1, e2⟩ := M.bind_some ev
  obtain ⟨x, st2, e3, e4⟩ := M.bind_some e1
  obtain ⟨b0, st3, e5, e6⟩ := M.bind_some e4
  show wpAny (model X.prog X.w) X.A (do if ← isTrue cc X.env (eval cc X.env) then isTrue a X.env (eval a X.env) else isTrue b X.env (eval b X.env)) (TP X pins σ Q) X.xe s
  refine wpAny_bind (thn (hc.run pins s σ H (fun b1 H1 => b1 = b0 ∧ ∃ ρ1, Le ρ H ρ1 H1 ∧ RS X.K ρ1 H1 st3) I ⟨ρ, st, env, b0, st3, R, E, by unfold testM M.bind; rw [e3]; exact e5, fun ρ1 H1 l1 R1 => ⟨rfl, ρ1, l1, R1⟩⟩) fun b1 s1 ⟨H1, I1, hb1, ρ1, l1, R1⟩ => ?_)
  subst hb1
  cases b1 with
  | true => exact ha.run pins s1 σ H1 Q I1 ⟨ρ1, st3, env, t, st', R1, E.le l1, by unfold testM M.bind; rw [show fa env st3 = some (d, st1) from e6]; exact e2, fun ρ2 H2 l2 R2 => kk ρ2 H2 (l1.trans l2) R2⟩
  | false => exact hb.run pins s1 σ H1 Q I1 ⟨ρ1, st3, env, t, st', R1, E.le l1, by unfold testM M.bind; rw [show fb env st3 = some (d, st1) from e6]; exact e2, fun ρ2 H2 l2 R2 => kk ρ2 H2 (l1.trans l2) R2⟩

/-- the block of a comprehension, as a context -/
theorem Cok.blk (C : Cok T N sc f X k Γ) {scope : Scope} {own : List (Str × Nat)} (ok : BlkOk X.N X.env.scope scope own) (s : Shared) (H : Hp) (A : Addr) (cl : List (Str × Addr)) (fp : List Addr) :
    Cok T N (relS scope sc) (fun x => scope.names.lookup x == some .cell) (X.blk s H scope (compEnvC scope cl A X.env) fp) k Γ :=
  ⟨C.hN, by rw [← C.hsc]; rfl, rfl, C.nd, ⟨C.rm.calm, C.rm.un, C.rm.gd⟩, C.room, C.tab, PassesOwn.never⟩
mutual
theorem IE.ok (ie : IE) {sc : Scope} {f : Str → Bool} {X : Cx} (C : Cok T N sc f X k Γ) (x : Expr) (hx : ie.chk T N sc f x = true) : Both X (ie.den Γ) x := by
  cases ie with
  | var i =>
    obtain ⟨y, e, h⟩ := ofO_some (p := fun y => slotB N sc i y) hx
    obtain ⟨p, rfl⟩ := nameV_ok e
    unfold slotB at h
    simp only [Bool.and_eq_true] at h
    exact Both.plain (pem_var (pe_var (by rw [C.hN]; exact of_decide_eq_true h.1.1.1) (by rw [C.hsc]; exact visB_ok h.1.1.2) (by simpa using h.1.2) (by simpa using h.2))) rfl
  | lit v =>
    obtain ⟨c, e, h⟩ := ofO_some (p := fun c => decide (constV c = some v)) hx
    obtain ⟨j, p, rfl⟩ := constE_ok e
    exact Both.plain (pem_lit (lit_ok (of_decide_eq_true h))) rfl
  | con y v =>
    obtain ⟨z, e, h⟩ := ofO_some (p := fun z => decide (y = z) && glB sc y && T.cons.any (fun q => decide (q = (y, v)))) hx
    obtain ⟨p, rfl⟩ := nameV_ok e
    simp only [Bool.and_eq_true] at h
    have e1 := of_decide_eq_true h.1.1
    subst e1
    obtain ⟨g1, g2⟩ := C.gl h.1.2
    obtain ⟨u, hu, r⟩ := C.tab.con _ (any_eq h.2)
    exact Both.plain (pem_lit (pe_glob g1 hu r g2)) rfl
  | bin op a b =>
    obtain ⟨⟨l, o, r⟩, e, h⟩ := ofO_some (p := fun q : Expr × Operator × Expr => decide (op.op = q.2.1) && a.chk T N sc f q.1 && b.chk T N sc f q.2.2) hx
    obtain ⟨p, rfl⟩ := binV_ok e
    simp only [Bool.and_eq_true] at h
    have e1 := of_decide_eq_true h.1.1
    subst e1
    exact Both.plain (pem_bin (IE.ok a C l h.1.2).val (IE.ok b C r h.2).val) rfl
  | neg a =>
    obtain ⟨⟨o, y⟩, e, h⟩ := ofO_some (p := fun q : UnaryOp × Expr => decide (UnaryOp.USub = q.1) && a.chk T N sc f q.2) hx
    obtain ⟨p, rfl⟩ := unV_ok e
    simp only [Bool.and_eq_true] at h
    have e1 := of_decide_eq_true h.1
    subst e1
    exact Both.plain (pem_neg (IE.ok a C y h.2).val) rfl
  | cmp op a b =>
    obtain ⟨⟨l, o, r⟩, e, h⟩ := ofO_some (p := fun q : Expr × CmpOp × Expr => decide (op.op = q.2.1) && noSet q.2.2 && a.chk T N sc f q.1 && b.chk T N sc f q.2.2) hx
    obtain ⟨p, rfl⟩ := cmpV_ok e
    simp only [Bool.and_eq_true] at h
    have e1 := of_decide_eq_true h.1.1.1
    subst e1
    have ha := (IE.ok a C l h.1.2).val
    have hb := (IE.ok b C r h.2).val
    exact ⟨pem_cmp C.rm ha hb (mark_no h.1.1.2), ptm_cmp C.rm ha hb (mark_no h.1.1.2)⟩
  | chain op op' a b c =>
    obtain ⟨⟨l, o, r, o', r'⟩, e, h⟩ := ofO_some (p := fun q : Expr × CmpOp × Expr × CmpOp × Expr => decide (op.op = q.2.1) && decide (op'.op = q.2.2.2.1) && noSet q.2.2.2.2 && a.chk T N sc f q.1 && b.chk T N sc f q.2.2.1 && c.chk T N sc f q.2.2.2.2) hx
    obtain ⟨p, rfl⟩ := chainV_ok e
    simp only [Bool.and_eq_true] at h
    have e1 := of_decide_eq_true h.1.1.1.1.1
    have e2 := of_decide_eq_true h.1.1.1.1.2
    subst e1 e2
    have ha := (IE.ok a C l h.1.1.2).val
    have hb := (IE.ok b C r h.1.2).val
    have hc := (IE.ok c C r' h.2).val
    have hm : lastMarks [op.op, op'.op] [r, r'] = false := mark_no h.1.1.1.2
    exact ⟨pem_chain C.rm ha hb hc hm, ptm_chain C.rm ha hb hc hm⟩
  | and a b =>
    obtain ⟨⟨o, v, w⟩, e, h⟩ := ofO_some (p := fun q : BoolOp × Expr × Expr => decide (BoolOp.And = q.1) && a.chk T N sc f q.2.1 && b.chk T N sc f q.2.2) hx
    simp only [Bool.and_eq_true] at h
    have e1 := of_decide_eq_true h.1.1
    subst e1
    have ha := IE.ok a C v h.1.2
    have hb := IE.ok b C w h.2
    rcases boolV_ok e with ⟨p, rfl⟩ | ⟨w', rest, p, rfl, ew⟩
    · exact ⟨pem_and ha.val (pe_one hb.val), (pwm_and ha.tst (pwm_and1 hb.tst)).pt⟩
    · dsimp only at ew
      subst ew
      exact ⟨pem_and ha.val hb.val, (pwm_and ha.tst (PT.pw hb.tst)).pt⟩
  | or a b =>
    obtain ⟨⟨o, v, w⟩, e, h⟩ := ofO_some (p := fun q : BoolOp × Expr × Expr => decide (BoolOp.Or = q.1) && a.chk T N sc f q.2.1 && b.chk T N sc f q.2.2) hx
    simp only [Bool.and_eq_true] at h
    have e1 := of_decide_eq_true h.1.1
    subst e1
    have ha := IE.ok a C v h.1.2
    have hb := IE.ok b C w h.2
    rcases boolV_ok e with ⟨p, rfl⟩ | ⟨w', rest, p, rfl, ew⟩
    · exact ⟨pem_or ha.val (pe_one hb.val), (pwm_or ha.tst (pwm_or1 hb.tst)).pt⟩
    · dsimp only at ew
      subst ew
      exact ⟨pem_or ha.val hb.val, (pwm_or ha.tst (PT.pw hb.tst)).pt⟩
  | not a =>
    obtain ⟨⟨o, y⟩, e, h⟩ := ofO_some (p := fun q : UnaryOp × Expr => decide (UnaryOp.Not = q.1) && a.chk T N sc f q.2) hx
    obtain ⟨p, rfl⟩ := unV_ok e
    simp only [Bool.and_eq_true] at h
    have e1 := of_decide_eq_true h.1
    subst e1
    have ha := IE.ok a C y h.2
    exact ⟨pem_not ha.val, ptm_not ha.tst⟩
  | ite c a b =>
    obtain ⟨⟨t, y, z⟩, e, h⟩ := ofO_some (p := fun q : Expr × Expr × Expr => c.chk T N sc f q.1 && a.chk T N sc f q.2.1 && b.chk T N sc f q.2.2) hx
    obtain ⟨p, rfl⟩ := iteV_ok e
    simp only [Bool.and_eq_true] at h
    have hc := IE.ok c C t h.1.1
    have ha := IE.ok a C y h.1.2
    have hb := IE.ok b C z h.2
    exact ⟨pem_ite hc.tst ha.val hb.val, ptm_ite hc.tst ha.tst hb.tst⟩
  | call g n as =>
    obtain ⟨⟨x', args, kws⟩, e, h⟩ := ofO_some (p := fun q : Str × List Expr × List Keyword => decide (g = q.1) && glB sc g && q.2.1.all noStar && q.2.2.isEmpty && T.funs.any (fun F => decide (F.name = g) && decide (F.ps.length = n)) && as.chk T N sc f q.2.1) hx
    obtain ⟨p, pos, rfl⟩ := callV_ok e
    rw [Bool.and_eq_true, Bool.and_eq_true, Bool.and_eq_true, Bool.and_eq_true, Bool.and_eq_true] at h
    obtain ⟨⟨⟨⟨⟨h1, h2⟩, h3⟩, h0⟩, h4⟩, h5⟩ := h
    have e1 := of_decide_eq_true h1
    have e0 : kws = [] := List.isEmpty_iff.mp h0
    subst e1 e0
    obtain ⟨g1, g2⟩ := C.gl h2
    obtain ⟨fn, fd, ps, q1, q2, q3, q4, q5⟩ := C.fun_ h4
    subst q4
    have ha := IEs.ok as C args h5
    cases args with
    | nil =>
      have hn : as.len = 0 := chk_len h5
      cases as with
      | nil => exact Both.plain (pem_call0 C.rm q5 C.room g1 q1 q2 q3 g2) rfl
      | cons e es => cases hn
    | cons e es =>
      dsimp only at h3
      rw [List.all_cons, Bool.and_eq_true] at h3
      exact Both.plain (pem_call C.rm q5 C.room g1 q1 q2 q3 ha g2 (star_cons h3.1) (star_any h3.2)) rfl
  | callk g n as ks pm kas =>
    obtain ⟨⟨x', args, kws⟩, e, h⟩ := ofO_some (p := fun q : Str × List Expr × List Keyword => decide (g = q.1) && glB sc g && q.2.1.all noStar && T.funs.any (fun F => decide (F.name = g) && decide (F.ps.length = n) && F.kws.any (fun q => decide (q = (as.len, ks, pm)))) && as.chk T N sc f q.2.1 && kas.chkK T N ks sc f q.2.2) hx
    obtain ⟨p, pos, rfl⟩ := callV_ok e
    rw [Bool.and_eq_true, Bool.and_eq_true, Bool.and_eq_true, Bool.and_eq_true, Bool.and_eq_true] at h
    obtain ⟨⟨⟨⟨⟨h1, h2⟩, h3⟩, h4⟩, h5⟩, h6⟩ := h
    have e1 := of_decide_eq_true h1
    subst e1
    obtain ⟨g1, g2⟩ := C.gl h2
    obtain ⟨fn, fd, ps, q1, q2, q3, q4, q5⟩ := C.funk (q := (as.len, ks, pm)) h4
    subst q4
    have ha := IEs.ok as C args h5
    have hk := IEs.okK kas ks C kws h6
    obtain ⟨k1, k2, k3⟩ := kw_some (env := X.env) (pos := pos) h6
    have hl : as.len = args.length := chk_len h5
    cases args with
    | nil =>
      cases as with
      | nil => exact Both.plain (pem_callk0 C.rm q5 C.room g1 q1 q2 q3 hk k1 k2 g2 k3) rfl
      | cons e es => cases hl
    | cons e es =>
      dsimp only at h3
      rw [List.all_cons, Bool.and_eq_true] at h3
      have key := pem_callk (ps := ps) (pos := pos) (p := p) C.rm q5 C.room g1 q1 q2 (by rw [← hl]; exact q3) ha hk k1 k2 g2 (star_cons h3.1) (by
        rw [star_cons h3.1]
        show ((false || (backTo pos (starEach es X.env)).any (·.1)) || (backToKw pos (keywordEach kws X.env)).any (·.1.isNone)) = false
        rw [star_any h3.2, k3]
        rfl)
      rw [← hl] at key
      exact Both.plain key rfl
  | dead => exact ⟨pem_dead, ptm_dead⟩
  | mth b as =>
    obtain ⟨⟨x', args, kws⟩, e, h⟩ := ofO_some (p := fun q : Str × List Expr × List Keyword => glB sc q.1 && T.mths.any (fun y => decide (y = (q.1, b))) && q.2.2.isEmpty && !q.2.1.isEmpty && q.2.1.all noStar && as.chk T N sc f q.2.1) hx
    obtain ⟨p, pos, rfl⟩ := callV_ok e
    rw [Bool.and_eq_true, Bool.and_eq_true, Bool.and_eq_true, Bool.and_eq_true, Bool.and_eq_true] at h
    obtain ⟨⟨⟨⟨⟨h2, h3⟩, h0⟩, h4⟩, h5⟩, h6⟩ := h
    have e0 : kws = [] := List.isEmpty_iff.mp h0
    subst e0
    obtain ⟨g1, g2⟩ := C.gl h2
    have ha := IEs.ok as C args h6
    cases args with
    | nil => cases h4
    | cons e es =>
      dsimp only at h5
      rw [List.all_cons, Bool.and_eq_true] at h5
      exact Both.plain (pem_mth g1 (C.tab.mth _ (any_eq h3)) g2 ha (star_cons h5.1) (star_any h5.2)) rfl
  | calld g n as dv =>
    obtain ⟨⟨x', args, kws⟩, e, h⟩ := ofO_some (p := fun q : Str × List Expr × List Keyword => decide (g = q.1) && glB sc g && q.2.1.all noStar && q.2.2.isEmpty && !q.2.1.isEmpty && dv.all MP.sc && T.funs.any (fun F => decide (F.name = g) && decide (F.ps.length = n) && (List.range F.dfl.length).any (fun j => decide (dv = F.dfl.drop j))) && as.chk T N sc f q.2.1) hx
    obtain ⟨p, pos, rfl⟩ := callV_ok e
    rw [Bool.and_eq_true, Bool.and_eq_true, Bool.and_eq_true, Bool.and_eq_true, Bool.and_eq_true, Bool.and_eq_true, Bool.and_eq_true] at h
    obtain ⟨⟨⟨⟨⟨⟨⟨h1, h2⟩, h3⟩, h0⟩, hne⟩, hsc⟩, h4⟩, h5⟩ := h
    have e1 := of_decide_eq_true h1
    have e0 : kws = [] := List.isEmpty_iff.mp h0
    subst e1 e0
    obtain ⟨g1, g2⟩ := C.gl h2
    obtain ⟨fn, fd, ps, q1, q2, q3, q4, q5⟩ := C.fund h4
    subst q4
    have ha := IEs.ok as C args h5
    cases args with
    | nil => cases hne
    | cons e es =>
      dsimp only at h3
      rw [List.all_cons, Bool.and_eq_true] at h3
      exact Both.plain (pem_calld C.rm q5 C.room g1 q1 q2 q3 hsc ha g2 (star_cons h3.1) (star_any h3.2)) rfl
  | blt b as =>
    obtain ⟨⟨x', args, kws⟩, e, h⟩ := ofO_some (p := fun q : Str × List Expr × List Keyword => decide (b.name = q.1) && glB sc b.name && T.blts.any (fun y => decide (y = b.name)) && q.2.2.isEmpty && !q.2.1.isEmpty && q.2.1.all noStar && as.chk T N sc f q.2.1) hx
    obtain ⟨p, pos, rfl⟩ := callV_ok e
    rw [Bool.and_eq_true, Bool.and_eq_true, Bool.and_eq_true, Bool.and_eq_true, Bool.and_eq_true, Bool.and_eq_true] at h
    obtain ⟨⟨⟨⟨⟨⟨h1, h2⟩, h3⟩, h0⟩, h4⟩, h5⟩, h6⟩ := h
    have e1 := of_decide_eq_true h1
    have e0 : kws = [] := List.isEmpty_iff.mp h0
    dsimp only at e1
    subst e1 e0
    obtain ⟨g1, g2⟩ := C.gl h2
    have ha := IEs.ok as C args h6
    cases args with
    | nil => cases h4
    | cons e es =>
      dsimp only at h5
      rw [List.all_cons, Bool.and_eq_true] at h5
      exact Both.plain (pem_blt C.rm g1 (C.tab.blt _ (any_eq h3)) ha (star_cons h5.1) (star_any h5.2)) rfl
  | isi a t =>
    obtain ⟨⟨x', args, kws⟩, e, h⟩ := ofO_some (p := fun q : Str × List Expr × List Keyword => ofO (match q.2.1 with | [e, n] => some (e, n) | _ => none) fun r => ofO (nameV r.2) fun y => decide (q.1 = ("isinstance" : Str)) && glB sc q.1 && decide (t = y) && glB sc y && T.blts.any (fun z => decide (z = q.1)) && T.blts.any (fun z => decide (z = y)) && isiT.any (fun z => decide (PySem.Str.ofString z = y)) && noStar r.1 && q.2.2.isEmpty && a.chk T N sc f r.1) hx
    obtain ⟨p, pos, rfl⟩ := callV_ok e
    obtain ⟨⟨e1, e2⟩, er, hb⟩ := ofO_some h
    clear h
    obtain ⟨y, ey, h⟩ := ofO_some hb
    clear hb
    have ea : args = [e1, e2] := by
      dsimp only at er
      split at er <;> cases er
      rfl
    subst ea
    obtain ⟨p2, rfl⟩ := nameV_ok ey
    rw [Bool.and_eq_true, Bool.and_eq_true, Bool.and_eq_true, Bool.and_eq_true, Bool.and_eq_true, Bool.and_eq_true, Bool.and_eq_true, Bool.and_eq_true, Bool.and_eq_true] at h
    obtain ⟨⟨⟨⟨⟨⟨⟨⟨⟨h1, h2⟩, h3⟩, h4⟩, h5⟩, h6⟩, h7⟩, h8⟩, h0⟩, h9⟩ := h
    have f1 := of_decide_eq_true h1
    have f3 := of_decide_eq_true h3
    have e0 : kws = [] := List.isEmpty_iff.mp h0
    dsimp only at f1
    subst f1 f3 e0
    rw [List.any_eq_true] at h7
    obtain ⟨z, hz, ez⟩ := h7
    have ez := of_decide_eq_true ez
    subst ez
    obtain ⟨g1, _⟩ := C.gl h2
    obtain ⟨g3, _⟩ := C.gl h4
    refine Both.plain (pem_isi ?_ g1 (C.tab.blt _ (any_eq h5)) g3 (C.tab.blt _ (any_eq h6)) (IE.ok a C e1 h9).val (star_cons h8)) rfl
    simpa [isiT] using hz
  | meth m o as =>
    obtain ⟨⟨y, nm, ap, args, kws, pos⟩, e, h⟩ := ofO_some (p := fun q : Expr × Str × Pos × List Expr × List Keyword × Pos => decide (m.name = q.2.1) && noCall q.1 && q.2.2.2.2.1.isEmpty && !q.2.2.2.1.isEmpty && q.2.2.2.1.all noStar && decide (q.2.2.2.1.length < 29) && (q.2.2.1.endLine == q.2.2.2.2.2.line) && o.chk T N sc f q.1 && as.chk T N sc f q.2.2.2.1) hx
    obtain rfl := methV_ok e
    rw [Bool.and_eq_true, Bool.and_eq_true, Bool.and_eq_true, Bool.and_eq_true, Bool.and_eq_true, Bool.and_eq_true, Bool.and_eq_true, Bool.and_eq_true] at h
    obtain ⟨⟨⟨⟨⟨⟨⟨⟨h1, h2⟩, h0⟩, h3⟩, h4⟩, h5⟩, h6⟩, h7⟩, h8⟩ := h
    have e1 := of_decide_eq_true h1
    have e0 : kws = [] := List.isEmpty_iff.mp h0
    dsimp only at e1
    subst e1 e0
    have ho := IE.ok o C y h7
    have ha := IEs.ok as C args h8
    cases args with
    | nil => cases h3
    | cons x xs =>
      have hall := star_all (pos := pos) (env := X.env) h4
      dsimp only at h4
      rw [List.all_cons, Bool.and_eq_true] at h4
      refine Both.plain (pem_meth ho.val ha (base_no h2) ?_ h6 (star_cons h4.1) (star_any h4.2)) rfl
      rw [hall]
      have h5' : (x :: xs).length < 29 := of_decide_eq_true h5
      show (true && true && decide ((x :: xs).length + 0 + 0 < 30)) = true
      rw [decide_eq_true (by omega)]
      rfl
  | tup es =>
    obtain ⟨xs, e, h⟩ := ofO_some (p := fun xs : List Expr => xs.all noStar && es.chk T N sc f xs) hx
    obtain ⟨j, p, rfl⟩ := tupV_ok e
    rw [Bool.and_eq_true] at h
    exact Both.plain (pem_tup (IEs.ok es C xs h.2)) rfl
  | lst es =>
    obtain ⟨xs, e, h⟩ := ofO_some (p := fun xs : List Expr => xs.all noStar && es.chk T N sc f xs) hx
    obtain ⟨p, rfl⟩ := lstV_ok e
    rw [Bool.and_eq_true] at h
    exact Both.plain (pem_lst (IEs.ok es C xs h.2)) rfl
  | idx a i =>
    obtain ⟨⟨y, z⟩, e, h⟩ := ofO_some (p := fun q : Expr × Expr => noSlice q.2 && a.chk T N sc f q.1 && i.chk T N sc f q.2) hx
    obtain ⟨p, rfl⟩ := subV_ok e
    simp only [Bool.and_eq_true] at h
    exact Both.plain (pem_idx (IE.ok a C y h.1.2).val (IE.ok i C z h.2).val (plainIx_no h.1.1)) rfl
  | slc a lo hi =>
    obtain ⟨⟨y, l, u⟩, e, h⟩ := ofO_some (p := fun q : Expr × Option Expr × Option Expr => a.chk T N sc f q.1 && lo.chkO T N sc f q.2.1 && hi.chkO T N sc f q.2.2) hx
    obtain ⟨p, p2, rfl⟩ := slcV_ok e
    simp only [Bool.and_eq_true] at h
    exact Both.plain (pem_slc (IE.ok a C y h.1.1).val (IEs.okO lo C l h.1.2) (IEs.okO hi C u h.2)) rfl
  | rev a =>
    obtain ⟨⟨y, i⟩, e, h⟩ := ofO_some (p := fun q : Expr × Int => decide (q.2 = 1) && a.chk T N sc f q.1) hx
    obtain ⟨j, p, p1, p2, p3, rfl⟩ := revV_ok e
    simp only [Bool.and_eq_true] at h
    have e1 := of_decide_eq_true h.1
    subst e1
    exact Both.plain (pem_rev (IE.ok a C y h.2).val) rfl
  | comp tg it c e =>
    obtain ⟨⟨y, t, i, ifs, as, scope⟩, ev, h⟩ := ofO_some (p := fun q : Expr × Expr × Expr × List Expr × Int × Scope => decide (q.2.2.2.2.1 = 0) && noSet q.2.2.1 && blkC N sc q.2.2.2.2.2 ((tgNames q.2.1).zip tg) && decide ((tgNames q.2.1).length = tg.length) && it.chk T N sc f q.2.1 q.2.2.1 &&
      tgB N (relS q.2.2.2.2.2 sc) (fun x => q.2.2.2.2.2.names.lookup x == some .cell) tg q.2.1 && c.chkT T N (relS q.2.2.2.2.2 sc) (fun x => q.2.2.2.2.2.names.lookup x == some .cell) q.2.2.2.1 && e.chk T N (relS q.2.2.2.2.2 sc) (fun x => q.2.2.2.2.2.names.lookup x == some .cell) q.1) hx
    obtain ⟨p, rfl⟩ := compV_ok ev
    rw [Bool.and_eq_true, Bool.and_eq_true, Bool.and_eq_true, Bool.and_eq_true, Bool.and_eq_true, Bool.and_eq_true, Bool.and_eq_true] at h
    obtain ⟨⟨⟨⟨⟨⟨⟨h1, h2⟩, h3⟩, h4⟩, h5⟩, h6⟩, h7⟩, h8⟩ := h
    have e1 := of_decide_eq_true h1
    dsimp only at e1
    subst e1
    have bk : BlkOk X.N X.env.scope scope ((tgNames t).zip tg) := by
      rw [C.hN, C.hsc]
      exact blkOk_by h3
    have hl : ((tgNames t).zip tg).map (·.2) = tg := List.map_snd_zip (Nat.le_of_eq (of_decide_eq_true h4).symm)
    exact Both.plain (pem_comp hl C.rm.calm (by rw [C.hN]; exact C.nd) (II.ok it C t i h5) bk (fun s H A cl fp => (C.blk bk s H A cl fp).tg h6) (fun s H A cl fp => IEs.okT c (C.blk bk s H A cl fp) ifs h7) (fun s H A cl fp => (IE.ok e (C.blk bk s H A cl fp) y h8).val) (set_no h2)) rfl
theorem IEs.ok (es : IEs) {sc : Scope} {f : Str → Bool} {X : Cx} (C : Cok T N sc f X k Γ) (xs : List Expr) (hx : es.chk T N sc f xs = true) : PAM X (es.den Γ) xs := by
  cases es with
  | nil =>
    have e : xs = [] := List.isEmpty_iff.mp hx
    subst e
    exact pam_nil
  | cons e es =>
    cases xs with
    | nil => cases hx
    | cons x xs =>
      have h : (e.chk T N sc f x && noStar x && es.chk T N sc f xs) = true := hx
      simp only [Bool.and_eq_true] at h
      exact pam_cons (IE.ok e C x h.1.1).val (IEs.ok es C xs h.2) (star_cons h.1.2)
theorem IEs.okK (es : IEs) (ks : List Str) {sc : Scope} {f : Str → Bool} {X : Cx} (C : Cok T N sc f X k Γ) (xs : List Keyword) (hx : es.chkK T N ks sc f xs = true) : PKM X (es.den Γ) xs := by
  cases es with
  | nil =>
    have h : (xs.isEmpty && ks.isEmpty) = true := hx
    rw [Bool.and_eq_true, List.isEmpty_iff] at h
    rw [h.1]
    exact pkm_nil
  | cons e es =>
    cases xs with
    | nil => cases hx
    | cons x xs =>
      obtain ⟨nm, x, p⟩ := x
      cases ks with
      | nil => exact absurd (show false = true from hx) Bool.false_ne_true
      | cons kk ks =>
        have h : (decide (nm = some kk) && e.chk T N sc f x && es.chkK T N ks sc f xs) = true := hx
        simp only [Bool.and_eq_true] at h
        exact pkm_cons (IE.ok e C x h.1.2).val (IEs.okK es ks C xs h.2)
theorem IEs.okO (es : IEs) {sc : Scope} {f : Str → Bool} {X : Cx} (C : Cok T N sc f X k Γ) (o : Option Expr) (hx : es.chkO T N sc f o = true) : POM X (es.part Γ) o := by
  cases es with
  | nil =>
    cases o with
    | none => exact pom_none
    | some x => cases hx
  | cons e es =>
    cases es with
    | nil =>
      obtain ⟨x, ex, h⟩ := ofO_some (p := fun x => e.chk T N sc f x && true) hx
      subst ex
      rw [Bool.and_eq_true] at h
      exact pom_some (IE.ok e C x h.1).val
    | cons _ _ =>
      obtain ⟨x, ex, h⟩ := ofO_some (p := fun x => e.chk T N sc f x && false) hx
      rw [Bool.and_eq_true] at h
      cases h.2
theorem IEs.okT (es : IEs) {sc : Scope} {f : Str → Bool} {X : Cx} (C : Cok T N sc f X k Γ) (xs : List Expr) (hx : es.chkT T N sc f xs = true) : PTs X xs (TbM X.K (es.test Γ)) := by
  cases es with
  | nil =>
    have e : xs = [] := List.isEmpty_iff.mp hx
    subst e
    exact pts_nilM
  | cons e es =>
    cases es with
    | nil =>
      obtain ⟨x, ex, h⟩ := ofO_some (o := match xs with | [x] => some x | _ => none) (p := fun x => e.chk T N sc f x && true) hx
      have exs : xs = [x] := by
        split at ex <;> cases ex
        rfl
      subst exs
      rw [Bool.and_eq_true] at h
      exact pts_one (IE.ok e C x h.1).tst
    | cons _ _ =>
      obtain ⟨x, ex, h⟩ := ofO_some (o := match xs with | [x] => some x | _ => none) (p := fun x => e.chk T N sc f x && false) hx
      rw [Bool.and_eq_true] at h
      cases h.2
theorem II.ok (it : II) {sc : Scope} {f : Str → Bool} {X : Cx} (C : Cok T N sc f X k Γ) (t x : Expr) (hx : it.chk T N sc f t x = true) : PIM X t (it.den Γ) x := by
  cases it with
  | seq a =>
    have h : (noSet x && a.chk T N sc f x) = true := hx
    rw [Bool.and_eq_true] at h
    exact pim_seq (IE.ok a C x h.2).val
  | range as =>
    obtain ⟨⟨x', args, kws⟩, e, h⟩ := ofO_some (p := fun q : Str × List Expr × List Keyword => decide (q.1 = ("range" : Str)) && glB sc q.1 && T.blts.any (fun z => decide (z = q.1)) && q.2.2.isEmpty && decide (1 ≤ q.2.1.length) && decide (q.2.1.length ≤ 3) && as.chk T N sc f q.2.1) hx
    obtain ⟨p, pos, rfl⟩ := callV_ok e
    rw [Bool.and_eq_true, Bool.and_eq_true, Bool.and_eq_true, Bool.and_eq_true, Bool.and_eq_true, Bool.and_eq_true] at h
    obtain ⟨⟨⟨⟨⟨⟨h1, h2⟩, h3⟩, h0⟩, h4⟩, h5⟩, h6⟩ := h
    have e1 := of_decide_eq_true h1
    have e0 : kws = [] := List.isEmpty_iff.mp h0
    dsimp only at e1
    subst e1 e0
    obtain ⟨g1, _⟩ := C.gl h2
    have hm := C.tab.blt _ (any_eq h3)
    have ha := IEs.ok as C args h6
    have hl := chk_len h6
    have hs : args.all noStar = true := IEs.stars as args h6
    show PIM X t (fun env => M.bind (as.den Γ env) (rngAs as.len)) _
    match args, hl, hs, ha, h4, h5 with
    | [], _, _, _, h4, _ => exact absurd (of_decide_eq_true h4) (by simp)
    | [a], hl, hs, ha, _, _ =>
      rw [hl]
      simp only [List.all_cons, List.all_nil, Bool.and_true] at hs
      exact pim_rng1 g1 hm ha (star_cons hs)
    | [a, b], hl, hs, ha, _, _ =>
      rw [hl]
      simp only [List.all_cons, List.all_nil, Bool.and_true, Bool.and_eq_true] at hs
      exact pim_rng2 g1 hm ha (by rw [star_cons hs.1, star_cons hs.2]; rfl) (star_cons hs.2)
    | [a, b, c], hl, hs, ha, _, _ =>
      rw [hl]
      simp only [List.all_cons, List.all_nil, Bool.and_true, Bool.and_eq_true] at hs
      exact pim_rng3 g1 hm ha (star_cons hs.1) (star_any (by simp [hs.2.1, hs.2.2]))
    | _ :: _ :: _ :: _ :: _, _, _, _, _, h5 => exact absurd (of_decide_eq_true h5) (by simp)
  | enum e => cases hx
end
end
end MP

set_option Elab.async false
set_option linter.all false
set_option maxRecDepth 100000
/-! M11: statements: the check, and that it holds. -/
namespace MP
open PySem L2 PyProof.Rows
def noTup : Expr → Bool
  | .Tuple .. => false
  | _ => true
theorem noTup_swap {t e : Expr} {env : PySem.Env} (h : noTup e = true) : swappedStores [t] e env = pure none := by
  cases e <;> first | (cases t <;> rfl) | cases h
theorem name_swap {x : Str} {p : Pos} {e : Expr} {env : PySem.Env} : swappedStores [.Name x p] e env = pure none := by
  cases e <;> rfl
theorem sub_swap {a b : Expr} {p : Pos} {e : Expr} {env : PySem.Env} : swappedStores [.Subscript a b p] e env = pure none := by
  cases e <;> rfl
def isStar : Expr → Bool
  | .Starred .. => true
  | _ => false
/-- x, y = a, b stored from the right -/
def swp2 (sc : Scope) (x y : Str) (px py : Pos) (a b : Expr) : Bool := decide (sc.names.lookup x = some .local) && decide (sc.names.lookup y = some .local) && (py.line == px.line) && !(x == y) && noStar a && noStar b && !(foldedForSure 8 a && foldedForSure 8 b) && !(constantsAlone 8 a && constantsAlone 8 b)
theorem noStar_any {e : Expr} : noStar e = true → (match e with | .Starred .. => true | _ => false) = false := by
  intro h
  cases e <;> first | rfl | cases h
theorem swp2_ok {env : PySem.Env} {sc : Scope} {x y : Str} {px py pt pt2 : Pos} {kt k2 : Nat} {a b : Expr} (hs : env.scope = sc) (hk : env.scope.kind = .function) (h : swp2 sc x y px py a b = true) :
    swappedStores [.Tuple [.Name x px, .Name y py] kt pt] (.Tuple [a, b] k2 pt2) env = pure (some [x, y]) := by
  unfold swp2 at h
  simp only [Bool.and_eq_true, Bool.not_eq_true', decide_eq_true_eq] at h
  obtain ⟨⟨⟨⟨⟨⟨⟨h1, h2⟩, h3⟩, h4⟩, h5⟩, h6⟩, h7⟩, h8⟩ := h
  have kx : env.kindOf x = some .local := by show env.scope.names.lookup x = _; rw [hs]; exact h1
  have ky : env.kindOf y = some .local := by show env.scope.names.lookup y = _; rw [hs]; exact h2
  have hb : env.blockKind = .function := by unfold Env.blockKind; rw [hk]; rfl
  have e1 := noStar_any h5
  have e2 := noStar_any h6
  have e4 : (y == x) = false := by
    rw [beq_eq_false_iff_ne] at h4 ⊢
    exact fun z => h4 z.symm
  unfold swappedStores
  have h3' : py.line = px.line := by simpa using h3
  have ne1 : ¬ x = y := by simpa using h4
  have ne2 : ¬ y = x := fun z => ne1 z.symm
  simp only [List.filterMap_cons, List.filterMap_nil, List.all_cons, List.all_nil, List.any_cons, List.any_nil, Bool.or_false, Bool.and_true, kx, ky, e1, e2, Expr.pos, h3', beq_self_eq_true, List.head?_cons, Option.map_some, Option.getD_some, List.length_cons, List.length_nil, hb, if_true, h7, h8, Bool.false_eq_true, if_false, Bool.true_and]
  simp [List.eraseDups, List.eraseDupsBy, List.eraseDupsBy.loop, ne1, ne2]
  split
  · cases h5
  · split
    · cases h6
    · simp [e4]
def isCell (env : PySem.Env) (t : Expr) : Bool := match t with
  | .Name id _ => !(env.kindOf id == some .local)
  | _ => true
theorem cell_none {env : PySem.Env} {l : Nat} : ∀ t : Expr, isCell env t = true → (match t with | .Name id pos => if env.kindOf id == some .local && pos.line == l then some id else none | _ => none) = (none : Option Str) := by
  intro t h
  cases t with
  | Name id pos =>
    have h' : (env.kindOf id == some .local) = false := by simpa [isCell] using h
    show (if (env.kindOf id == some .local && pos.line == l) = true then some id else none) = none
    rw [h']
    rfl
  | _ => rfl
theorem len_lt {env : PySem.Env} {l : Nat} : ∀ {ts : List Expr}, ts.any (isCell env) = true → (ts.filterMap fun
    | .Name id pos => if env.kindOf id == some .local && pos.line == l then some id else none
    | _ => none).length < ts.length
  | [], h => by cases h
  | t :: ts, h => by
    have le : ∀ us : List Expr, (us.filterMap fun
      | .Name id pos => if env.kindOf id == some .local && pos.line == l then some id else none
      | _ => none).length ≤ us.length := fun us => List.length_filterMap_le _ _
    rw [List.any_cons, Bool.or_eq_true] at h
    rcases h with h | h
    · rw [List.filterMap_cons]
      have hn := cell_none (l := l) t h
      split
      · exact Nat.lt_succ_of_le (le ts)
      · rename_i y e
        rw [hn] at e
        cases e
    · rw [List.filterMap_cons]
      split
      · exact Nat.lt_succ_of_lt (len_lt h)
      · exact Nat.succ_lt_succ (len_lt h)
theorem swap_cell {env : PySem.Env} {ts vs : List Expr} {k k2 : Nat} {p p2 : Pos} (h : ts.any (isCell env) = true) : swappedStores [.Tuple ts k p] (.Tuple vs k2 p2) env = pure none := by
  have hl := len_lt (l := (ts.head?.map (·.pos.line)).getD 0) h
  unfold swappedStores
  dsimp only
  split
  · rfl
  · split
    · rfl
    · rename_i h1 h2
      split
      · rfl
      · rename_i h3
        exfalso
        apply h3
        rw [Bool.or_eq_true]
        left
        simp only [bne_iff_ne, ne_eq]
        exact Nat.ne_of_lt hl
/-- what the check of a text's scope gives of the names at hand -/
def cellB (sc : Scope) (t : Expr) : Bool := match t with
  | .Name id _ => !decide (sc.names.lookup id = some .local)
  | _ => true
theorem cellB_any {env : PySem.Env} {sc : Scope} (hs : env.scope = sc) {ts : List Expr} (h : ts.any (cellB sc) = true) : ts.any (isCell env) = true := by
  rw [List.any_eq_true] at h ⊢
  obtain ⟨t, ht, e⟩ := h
  refine ⟨t, ht, ?_⟩
  cases t with
  | Name id pos =>
    have e' : ¬ sc.names.lookup id = some .local := by simpa [cellB] using e
    show (!(env.scope.names.lookup id == some .local)) = true
    rw [hs]
    simpa using e'
  | _ => rfl
end MP

set_option Elab.async false
set_option linter.all false
set_option maxRecDepth 100000
/-! M12: the check of statements, and that it holds. -/
namespace MP
open PySem L2 PyProof.Rows
def swB (sc : Scope) (y : Str) (py : Pos) (v : Expr) : Bool := match v with
  | .ListComp _ _ s p => decide (sc.names.lookup y = some .local) && (py.line == p.line) && !(s.names.any fun (n, k) => n == y && (k == .local || k == .cell))
  | .SetComp .. => true
  | .DictComp .. => true
  | _ => false
theorem swB_no {env : PySem.Env} {sc : Scope} {y : Str} {py : Pos} {v : Expr} {l : Nat} (hs : env.scope = sc) (hk : env.scope.kind = .function) (h : swB sc y py v = false) : swapsWith v (some (.Name y py)) l env = pure false := by
  cases v <;> first
    | rfl
    | cases h
    | skip
  rename_i elt gs s p
  have hb : env.blockKind = .function := by unfold Env.blockKind; rw [hk]; rfl
  have e : (env.blockKind == .function && env.kindOf y == some .local && py.line == p.line && !(s.names.any fun (n, k) => n == y && (k == .local || k == .cell))) = false := by
    have h' : (decide (sc.names.lookup y = some .local) && (py.line == p.line) && !(s.names.any fun (n, k) => n == y && (k == .local || k == .cell))) = false := h
    have hk' : (env.kindOf y == some .local) = decide (sc.names.lookup y = some .local) := by
      show (env.scope.names.lookup y == some .local) = _
      rw [hs]
      by_cases z : sc.names.lookup y = some .local
      · simp [z]
      · simp [z]
    rw [hb, hk']
    simpa using h'
  show (pure (env.blockKind == .function && env.kindOf y == some .local && py.line == p.line && !(s.names.any fun (n, k) => n == y && (k == .local || k == .cell))) : Sem Bool) = pure false
  rw [e]
theorem swB_yes {env : PySem.Env} {sc : Scope} {y : Str} {py p : Pos} {elt : Expr} {gs : List Comprehension} {s : Scope} {l : Nat} (hs : env.scope = sc) (hk : env.scope.kind = .function) (h : swB sc y py (.ListComp elt gs s p) = true) :
    env.scope.names.lookup y = some .local ∧ swapsWith (.ListComp elt gs s p) (some (.Name y py)) l env = pure true := by
  have h' : (decide (sc.names.lookup y = some .local) && (py.line == p.line) && !(s.names.any fun (n, k) => n == y && (k == .local || k == .cell))) = true := h
  simp only [Bool.and_eq_true, Bool.not_eq_true', decide_eq_true_eq] at h'
  have hy : env.scope.names.lookup y = some .local := by rw [hs]; exact h'.1.1
  exact ⟨hy, sw_true hk hy h'.1.2 h'.2⟩
def asgV : Stmt → Option (Expr × Expr × Pos)
  | .Assign [t] v p => some (t, v, p)
  | _ => none
theorem asgV_ok {x : Stmt} {q : Expr × Expr × Pos} (h : asgV x = some q) : x = .Assign [q.1] q.2.1 q.2.2 := by
  unfold asgV at h
  split at h <;> cases h
  rfl
def augV : Stmt → Option (Expr × Operator × Expr)
  | .AugAssign t o v _ => some (t, o, v)
  | _ => none
theorem augV_ok {x : Stmt} {q : Expr × Operator × Expr} (h : augV x = some q) : ∃ p, x = .AugAssign q.1 q.2.1 q.2.2 p := by
  unfold augV at h
  split at h <;> cases h
  exact ⟨_, rfl⟩
def nmV : Expr → Option (Str × Pos)
  | .Name x p => some (x, p)
  | _ => none
theorem nmV_ok {e : Expr} {q : Str × Pos} (h : nmV e = some q) : e = .Name q.1 q.2 := by
  unfold nmV at h
  split at h <;> cases h
  rfl
def ifV : Stmt → Option (Expr × List Stmt × List Stmt)
  | .If c a b _ => some (c, a, b)
  | _ => none
theorem ifV_ok {x : Stmt} {q : Expr × List Stmt × List Stmt} (h : ifV x = some q) : ∃ p, x = .If q.1 q.2.1 q.2.2 p := by
  unfold ifV at h
  split at h <;> cases h
  exact ⟨_, rfl⟩
def whileV : Stmt → Option (Expr × List Stmt)
  | .While c a [] _ => some (c, a)
  | _ => none
theorem whileV_ok {x : Stmt} {q : Expr × List Stmt} (h : whileV x = some q) : ∃ p, x = .While q.1 q.2 [] p := by
  unfold whileV at h
  split at h <;> cases h
  exact ⟨_, rfl⟩
def forV : Stmt → Option (Expr × Expr × List Stmt)
  | .For t i a [] _ => some (t, i, a)
  | _ => none
theorem forV_ok {x : Stmt} {q : Expr × Expr × List Stmt} (h : forV x = some q) : ∃ p, x = .For q.1 q.2.1 q.2.2 [] p := by
  unfold forV at h
  split at h <;> cases h
  exact ⟨_, rfl⟩
def retV : Stmt → Option Expr
  | .Return (some e) _ => some e
  | _ => none
theorem retV_ok {x : Stmt} {e : Expr} (h : retV x = some e) : ∃ p, x = .Return (some e) p := by
  unfold retV at h
  split at h <;> cases h
  exact ⟨_, rfl⟩
def exprV : Stmt → Option Expr
  | .Expr e _ => some e
  | _ => none
theorem exprV_ok {x : Stmt} {e : Expr} (h : exprV x = some e) : ∃ p, x = .Expr e p := by
  unfold exprV at h
  split at h <;> cases h
  exact ⟨_, rfl⟩
def isPass : Stmt → Bool
  | .Pass _ => true
  | _ => false
def isCont : Stmt → Bool
  | .Continue _ => true
  | _ => false
def isBrk : Stmt → Bool
  | .Break _ => true
  | _ => false
def subN : Expr → Option (Expr × Expr × Str)
  | .Tuple [.Subscript a b _, .Name x _] _ _ => some (a, b, x)
  | _ => none
theorem subN_ok {e : Expr} {q : Expr × Expr × Str} (h : subN e = some q) : ∃ p p2 k p3, e = .Tuple [.Subscript q.1 q.2.1 p, .Name q.2.2 p2] k p3 := by
  unfold subN at h
  split at h <;> cases h
  exact ⟨_, _, _, _, rfl⟩
/-- which pairs of targets and values are stored how -/
def parB (N : List Str) (sc : Scope) (f : Str → Bool) (l : List Nat) (t v : Expr) : Bool := match t, v with
  | .Tuple ts _ _, .Tuple vs _ _ => (ts.any (cellB sc) && tgB N sc f l t && decide (l.length ≠ 1)) ||
      (match l, ts, vs with
        | [i, j], [.Name x px, .Name y py], [a, b] => decide (N[i]? = some x) && decide (N[j]? = some y) && decide (i ≠ j) && swp2 sc x y px py a b
        | _, _, _ => false)
  | _, _ => false
section
variable (T : Tab)
mutual
def IS.chk (N : List Str) (s : IS) (sc : Scope) (f : Str → Bool) (x : Stmt) : Bool := match s with
  | .set i e => ofO (asgV x) fun q => ofO (nmV q.1) fun y => putB N sc f i y.1 && !(swB sc y.1 y.2 q.2.1) && e.chk T N sc f q.2.1
  | .setc i tg it c e => ofO (asgV x) fun q => ofO (nmV q.1) fun y => decide (N[i]? = some y.1) && swB sc y.1 y.2 q.2.1 && (IE.comp tg it c e).chk T N sc f q.2.1
  | .setT l e => ofO (asgV x) fun q => decide (l.length ≠ 1) && tgB N sc f l q.1 && noComp q.2.1 && noTup q.2.1 && e.chk T N sc f q.2.1
  | .setP l es => ofO (asgV x) fun q => ofO (tupV q.2.1) fun vs => parB N sc f l q.1 q.2.1 && vs.all noStar && es.chk T N sc f vs
  | .setS a i e => ofO (asgV x) fun q => ofO (subV q.1) fun r => noSlice r.2 && noComp q.2.1 && a.chk T N sc f r.1 && i.chk T N sc f r.2 && e.chk T N sc f q.2.1
  | .setST a i j e => ofO (asgV x) fun q => ofO (subN q.1) fun r => noSlice r.2.1 && noComp q.2.1 && noTup q.2.1 && putB N sc f j r.2.2 && a.chk T N sc f r.1 && i.chk T N sc f r.2.1 && e.chk T N sc f q.2.1
  | .aug i op e => ofO (augV x) fun q => ofO (nmV q.1) fun y => decide (op.op = q.2.1) && putB N sc f i y.1 && e.chk T N sc f q.2.2
  | .augS a i op e => ofO (augV x) fun q => ofO (subV q.1) fun r => decide (op.op = q.2.1) && noSlice r.2 && a.chk T N sc f r.1 && i.chk T N sc f r.2 && e.chk T N sc f q.2.2
  | .expr e => ofO (exprV x) fun q => noComp q && e.chk T N sc f q
  | .ret e => ofO (retV x) fun q => e.chk T N sc f q
  | .ite c t e => ofO (ifV x) fun q => c.chk T N sc f q.1 && t.chk N sc f q.2.1 && e.chk N sc f q.2.2
  | .while c b => ofO (whileV x) fun q => c.chk T N sc f q.1 && b.chk N sc f q.2
  | .for tg it b => ofO (forV x) fun q => noSet q.2.1 && tgB N sc f tg q.1 && it.chk T N sc f q.1 q.2.1 && b.chk N sc f q.2.2
  | .raise => true
  | .pass => isPass x
  | .cont => isCont x
  | .brk => isBrk x
def ISs.chk (N : List Str) (ss : ISs) (sc : Scope) (f : Str → Bool) (xs : List Stmt) : Bool := match ss with
  | .nil => xs.isEmpty
  | .cons s ss => match xs with
    | x :: xs => s.chk N sc f x && ss.chk N sc f xs
    | [] => false
end
end
section
variable {T : Tab} {N : List Str} {sc : Scope} {f : Str → Bool} {X : Cx} {k : Nat} {Γ : Gam}
theorem psm_par {l : List Nat} {i j : Nat} {x y : Str} {a b : Expr} {px py pt : Pos} {kt k2 : Nat} {pt2 pos : Pos} {fs : Env → M (List D)} (hij : i ≠ j) (h : PS X (.Assign [.Tuple [.Name x px, .Name y py] kt pt] (.Tuple [a, b] k2 pt2) pos) (tPar i j (TaM X.K fs))) :
    PSM X (fun env => M.bind (fs env) fun ds => M.when (sizeOk ds.length) (M.opt (putAll [i, j] ds env) fun env1 => M.ret (.next, env1))) (.Assign [.Tuple [.Name x px, .Name y py] kt pt] (.Tuple [a, b] k2 pt2) pos) := by
  refine PS_imp h fun Dn σ H h => ?_
  obtain ⟨ρ, st, env, r, st', R, E, ev, kk⟩ := h
  obtain ⟨ds, st1, e1, e2⟩ := M.bind_some ev
  obtain ⟨hz, e2a⟩ := M.when_some e2
  obtain ⟨env1, e3, e4⟩ := M.opt_some e2a
  obtain ⟨rfl, rfl⟩ := M.ret_some e4
  refine ⟨ρ, st, env, ds, _, R, E, e1, fun ρ1 H1 vs l1 R1 r1 => ?_⟩
  have hl := putAll_len e3
  match ds, hl, r1, e3 with
  | [d1, d2], _, r1, e3 =>
    obtain ⟨v1, _, rfl, q1, q2⟩ := r1.of_cons
    obtain ⟨v2, _, rfl, q3, q4⟩ := q2.of_cons
    obtain rfl := q4.of_nil
    cases e3
    exact ⟨v1, v2, rfl, kk ρ1 H1 _ l1 R1 (((E.le l1).set q1).set q3)⟩
theorem psm_parT {l : List Nat} {ts vs : List Expr} {pt : Pos} {kt k2 : Nat} {pt2 pos : Pos} {fs : Env → M (List D)} (hl : l.length ≠ 1) (h : PS X (.Assign [.Tuple ts kt pt] (.Tuple vs k2 pt2) pos) (tAsg (tTup (TaM X.K fs)) (gOf X.K l))) :
    PSM X (fun env => M.bind (fs env) fun ds => M.when (sizeOk ds.length) (M.opt (putAll l ds env) fun env1 => M.ret (.next, env1))) (.Assign [.Tuple ts kt pt] (.Tuple vs k2 pt2) pos) := by
  refine PS_imp h fun Dn σ H h => ?_
  obtain ⟨ρ, st, env, r, st', R, E, ev, kk⟩ := h
  obtain ⟨ds, st1, e1, e2⟩ := M.bind_some ev
  obtain ⟨hz, e2a⟩ := M.when_some e2
  obtain ⟨env1, e3, e4⟩ := M.opt_some e2a
  obtain ⟨rfl, rfl⟩ := M.ret_some e4
  have e5 : putT l (.tup ds) env st1 = some (env1, st1) := by
    unfold putT
    split
    · exact absurd rfl hl
    · unfold putM tupOf M.opt
      simp only [e3]
      rfl
  refine ⟨ρ, st, env, ds, _, R, E, e1, fun ρ1 H1 vs l1 R1 r1 => ⟨?_, lay_tup (Q := fun x H1 => gOf X.K l x σ H1 Dn.nx) R1 r1 fun ρ2 H2 v l2 R2 r2 => ?_⟩⟩
  · rw [r1.length]
    exact line_nat hz
  · exact g_read (E.le (l1.trans l2)) r2 e5 fun σ' E' _ => kk ρ2 H2 σ' (l1.trans l2) R2 E'

theorem Cok.kd (C : Cok T N sc f X k Γ) (hk : sc.kind = .function) : X.env.scope.kind = .function := by rw [C.hsc]; exact hk
theorem comp_inv {tg : List Nat} {it : II} {c : IEs} {e : IE} (C : Cok T N sc f X k Γ) {x : Expr} (hx : (IE.comp tg it c e).chk T N sc f x = true) : ∃ y t i ifs scope p own, x = .ListComp y [⟨t, i, ifs, 0⟩] scope p ∧ own.map (·.2) = tg ∧ PIM X t (it.den Γ) i ∧ BlkOk X.N X.env.scope scope own ∧
    (∀ (s : Shared) (H : Hp) (A : Addr) (cl : List (Str × Addr)) (fp : List Addr), PGM (X.blk s H scope (compEnvC scope cl A X.env) fp) tg t) ∧
    (∀ (s : Shared) (H : Hp) (A : Addr) (cl : List (Str × Addr)) (fp : List Addr), PTs (X.blk s H scope (compEnvC scope cl A X.env) fp) ifs (TbM X.K (c.test Γ))) ∧
    (∀ (s : Shared) (H : Hp) (A : Addr) (cl : List (Str × Addr)) (fp : List Addr), PEM (X.blk s H scope (compEnvC scope cl A X.env) fp) (e.den Γ) y) ∧ (∀ z, foldedSetIterable i X.env z = pure z) := by
  obtain ⟨⟨y, t, i, ifs, as, scope⟩, ev, h⟩ := ofO_some (p := fun q : Expr × Expr × Expr × List Expr × Int × Scope => decide (q.2.2.2.2.1 = 0) && noSet q.2.2.1 && blkC N sc q.2.2.2.2.2 ((tgNames q.2.1).zip tg) && decide ((tgNames q.2.1).length = tg.length) && it.chk T N sc f q.2.1 q.2.2.1 &&
      tgB N (relS q.2.2.2.2.2 sc) (fun x => q.2.2.2.2.2.names.lookup x == some .cell) tg q.2.1 && c.chkT T N (relS q.2.2.2.2.2 sc) (fun x => q.2.2.2.2.2.names.lookup x == some .cell) q.2.2.2.1 && e.chk T N (relS q.2.2.2.2.2 sc) (fun x => q.2.2.2.2.2.names.lookup x == some .cell) q.1) hx
  obtain ⟨p, rfl⟩ := compV_ok ev
  rw [Bool.and_eq_true, Bool.and_eq_true, Bool.and_eq_true, Bool.and_eq_true, Bool.and_eq_true, Bool.and_eq_true, Bool.and_eq_true] at h
  obtain ⟨⟨⟨⟨⟨⟨⟨h1, h2⟩, h3⟩, h4⟩, h5⟩, h6⟩, h7⟩, h8⟩ := h
  have e1 := of_decide_eq_true h1
  dsimp only at e1
  subst e1
  have bk : BlkOk X.N X.env.scope scope ((tgNames t).zip tg) := by
    rw [C.hN, C.hsc]
    exact blkOk_by h3
  exact ⟨y, t, i, ifs, scope, p, (tgNames t).zip tg, rfl, List.map_snd_zip (Nat.le_of_eq (of_decide_eq_true h4).symm), II.ok it C t i h5, bk, fun s H A cl fp => (C.blk bk s H A cl fp).tg h6,
    fun s H A cl fp => IEs.okT c (C.blk bk s H A cl fp) ifs h7, fun s H A cl fp => (IE.ok e (C.blk bk s H A cl fp) y h8).val, set_no h2⟩
theorem tg_each {l : List Nat} {t : Expr} {env : PySem.Env} (h : tgB N sc f l t = true) : (assignEach [t] env).map (·.2) = [assign t env] := by
  unfold tgB at h
  split at h
  · rfl
  · rfl
  · cases h
theorem sub_assign {a b : Expr} {p : Pos} {env : PySem.Env} (h : noSlice b = true) (v : Value) : assign (.Subscript a b p) env v = (do
      let ov ← holding [v] (eval a env)
      let iv ← holding [v, ov] (eval b env)
      standAt p
      holding [v, ov, iv] (setItem ov iv v)
      release [v, ov, iv] []) := by
  cases b <;> first | rfl | cases h
theorem sub_aug {b : Expr} (h : noSlice b = true) (ov iv new : Value) : augStore b ov iv new = (do holding [new, ov, iv] (setItem ov iv new); release [new, ov, iv] []; pure .next) := by
  cases b <;> first | rfl | cases h
mutual
theorem IS.ok (s : IS) (C : Cok T N sc f X k Γ) (hk : sc.kind = .function) (x : Stmt) (hx : s.chk T N sc f x = true) : PSM X (s.den Γ) x := by
  cases s with
  | set i e =>
    obtain ⟨⟨t, v, pos⟩, e1, h1⟩ := ofO_some (p := fun q : Expr × Expr × Pos => ofO (nmV q.1) fun y => putB N sc f i y.1 && !(swB sc y.1 y.2 q.2.1) && e.chk T N sc f q.2.1) hx
    obtain rfl := asgV_ok e1
    obtain ⟨⟨y, py⟩, e2, h⟩ := ofO_some h1
    obtain rfl := nmV_ok e2
    simp only [Bool.and_eq_true, Bool.not_eq_true'] at h
    exact psm_asg (ps_asg (IE.ok e C v h.2).val (C.pg h.1.1) (swB_no (l := pos.line) C.hsc (C.kd hk) h.1.2) name_swap rfl)
  | setc i tg it c e =>
    obtain ⟨⟨t, v, pos⟩, e1, h1⟩ := ofO_some (p := fun q : Expr × Expr × Pos => ofO (nmV q.1) fun y => decide (N[i]? = some y.1) && swB sc y.1 y.2 q.2.1 && (IE.comp tg it c e).chk T N sc f q.2.1) hx
    obtain rfl := asgV_ok e1
    obtain ⟨⟨y, py⟩, e2, h⟩ := ofO_some h1
    obtain rfl := nmV_ok e2
    simp only [Bool.and_eq_true] at h
    obtain ⟨z, t, j, ifs, scope, p, own, rfl, g1, g2, g3, g4, g5, g6, g7⟩ := comp_inv C h.2
    obtain ⟨h4, h5⟩ := swB_yes (l := pos.line) C.hsc (C.kd hk) h.1.2
    exact psm_comp g1 C.rm.calm (by rw [C.hN]; exact C.nd) (by rw [C.hN]; exact of_decide_eq_true h.1.1) h4 h5 g2 g3 g4 g5 g6 g7
  | setT l e =>
    obtain ⟨⟨t, v, pos⟩, e1, h⟩ := ofO_some (p := fun q : Expr × Expr × Pos => decide (l.length ≠ 1) && tgB N sc f l q.1 && noComp q.2.1 && noTup q.2.1 && e.chk T N sc f q.2.1) hx
    obtain rfl := asgV_ok e1
    simp only [Bool.and_eq_true] at h
    have hl := of_decide_eq_true h.1.1.1.1
    exact psm_asgT hl (ps_asg (IE.ok e C v h.2).val (C.tg h.1.1.1.2) (swapsSole_no h.1.1.2) (noTup_swap h.1.2) (tg_each h.1.1.1.2))
  | setP l es =>
    obtain ⟨⟨t, v, pos⟩, e1, h1⟩ := ofO_some (p := fun q : Expr × Expr × Pos => ofO (tupV q.2.1) fun vs => parB N sc f l q.1 q.2.1 && vs.all noStar && es.chk T N sc f vs) hx
    obtain rfl := asgV_ok e1
    obtain ⟨vs, e2, h⟩ := ofO_some h1
    obtain ⟨k2, pt2, rfl⟩ := tupV_ok e2
    simp only [Bool.and_eq_true] at h
    have ha := IEs.ok es C vs h.2
    have hp := h.1.1
    unfold parB at hp
    split at hp
    · rename_i ts kt pt vs' k2' pt2' ev
      cases ev
      rw [Bool.or_eq_true] at hp
      rcases hp with hp | hp
      · simp only [Bool.and_eq_true] at hp
        exact psm_parT (of_decide_eq_true hp.2) (ps_asg (pe_tup ha) (C.tg hp.1.2) rfl (swap_cell (cellB_any C.hsc hp.1.1)) rfl)
      · split at hp
        · rename_i i j x px y py a b
          simp only [Bool.and_eq_true] at hp
          obtain ⟨⟨⟨q1, q2⟩, q3⟩, q4⟩ := hp
          have q4' := q4
          unfold swp2 at q4'
          simp only [Bool.and_eq_true] at q4'
          exact psm_par (l := [i, j]) (of_decide_eq_true q3) (ps_par C.rm.calm (by rw [C.hN]; exact C.nd) (by rw [C.hN]; exact of_decide_eq_true q1) (by rw [C.hN]; exact of_decide_eq_true q2) (of_decide_eq_true q3)
            (by rw [C.hsc]; exact of_decide_eq_true q4'.1.1.1.1.1.1.1) (by rw [C.hsc]; exact of_decide_eq_true q4'.1.1.1.1.1.1.2) ha (swp2_ok C.hsc (C.kd hk) q4) rfl)
        · cases hp
    · cases hp
  | setS a i e =>
    obtain ⟨⟨t, v, pos⟩, e1, h1⟩ := ofO_some (p := fun q : Expr × Expr × Pos => ofO (subV q.1) fun r => noSlice r.2 && noComp q.2.1 && a.chk T N sc f r.1 && i.chk T N sc f r.2 && e.chk T N sc f q.2.1) hx
    obtain rfl := asgV_ok e1
    obtain ⟨⟨y, z⟩, e2, h⟩ := ofO_some h1
    obtain ⟨p, rfl⟩ := subV_ok e2
    simp only [Bool.and_eq_true] at h
    exact psm_setS (IE.ok a C y h.1.1.2).val (IE.ok i C z h.1.2).val (IE.ok e C v h.2).val (fun g hg => ps_asg (IE.ok e C v h.2).val hg (swapsSole_no h.1.1.1.2) sub_swap rfl) (sub_assign h.1.1.1.1)
  | setST a i j e =>
    obtain ⟨⟨t, v, pos⟩, e1, h1⟩ := ofO_some (p := fun q : Expr × Expr × Pos => ofO (subN q.1) fun r => noSlice r.2.1 && noComp q.2.1 && noTup q.2.1 && putB N sc f j r.2.2 && a.chk T N sc f r.1 && i.chk T N sc f r.2.1 && e.chk T N sc f q.2.1) hx
    obtain rfl := asgV_ok e1
    obtain ⟨⟨y, z, nm⟩, e2, h⟩ := ofO_some h1
    obtain ⟨p, p2, kk, p3, rfl⟩ := subN_ok e2
    simp only [Bool.and_eq_true] at h
    obtain ⟨⟨⟨⟨⟨⟨h1, h2⟩, h3⟩, h4⟩, h5⟩, h6⟩, h7⟩ := h
    exact psm_setST C.rm.calm (IE.ok a C y h5).val (IE.ok i C z h6).val (IE.ok e C v h7).val (C.pg h4) (fun g hg => ps_asg (IE.ok e C v h7).val hg (swapsSole_no h2) (noTup_swap h3) rfl) (sub_assign h1)
  | aug i op e =>
    obtain ⟨⟨t, o, v⟩, e1, h1⟩ := ofO_some (p := fun q : Expr × Operator × Expr => ofO (nmV q.1) fun y => decide (op.op = q.2.1) && putB N sc f i y.1 && e.chk T N sc f q.2.2) hx
    obtain ⟨p, rfl⟩ := augV_ok e1
    obtain ⟨⟨y, py⟩, e2, h⟩ := ofO_some h1
    obtain rfl := nmV_ok e2
    simp only [Bool.and_eq_true] at h
    have eo := of_decide_eq_true h.1.1
    try dsimp only at eo
    subst eo
    have hp := h.1.2
    unfold putB at hp
    rw [Bool.and_eq_true, Bool.or_eq_true, Bool.and_eq_true] at hp
    refine psm_aug (ps_aug (by rw [C.hN]; exact C.nd) (by rw [C.hN]; exact of_decide_eq_true hp.1) ?_ (IE.ok e C v h.2).val (pip_M op) ?_)
    · rcases hp.2 with h2 | h2
      · exact .inl (by rw [C.hsc]; exact of_decide_eq_true h2)
      · exact .inr (by rw [C.hsc]; exact of_decide_eq_true h2.1)
    · rcases hp.2 with h2 | h2
      · exact .inr (by rw [C.hsc]; exact of_decide_eq_true h2)
      · exact .inl (by rw [C.hfn]; exact h2.2)
  | augS a i op e =>
    obtain ⟨⟨t, o, v⟩, e1, h1⟩ := ofO_some (p := fun q : Expr × Operator × Expr => ofO (subV q.1) fun r => decide (op.op = q.2.1) && noSlice r.2 && a.chk T N sc f r.1 && i.chk T N sc f r.2 && e.chk T N sc f q.2.2) hx
    obtain ⟨p, rfl⟩ := augV_ok e1
    obtain ⟨⟨y, z⟩, e2, h⟩ := ofO_some h1
    obtain ⟨p2, rfl⟩ := subV_ok e2
    simp only [Bool.and_eq_true] at h
    obtain ⟨⟨⟨⟨h1, h2⟩, h3⟩, h4⟩, h5⟩ := h
    have eo := of_decide_eq_true h1
    try dsimp only at eo
    subst eo
    exact psm_augS (IE.ok a C y h3).val (IE.ok i C z h4).val (IE.ok e C v h5).val (sub_aug h2)
  | expr e =>
    obtain ⟨v, e1, h⟩ := ofO_some (p := fun q : Expr => noComp q && e.chk T N sc f q) hx
    obtain ⟨p, rfl⟩ := exprV_ok e1
    rw [Bool.and_eq_true] at h
    exact psm_expr (IE.ok e C v h.2).val (swaps_no h.1)
  | ret e =>
    obtain ⟨v, e1, h⟩ := ofO_some (p := fun q : Expr => e.chk T N sc f q) hx
    obtain ⟨p, rfl⟩ := retV_ok e1
    exact psm_ret (IE.ok e C v h).val
  | ite c t e =>
    obtain ⟨⟨cc, a, b⟩, e1, h⟩ := ofO_some (p := fun q : Expr × List Stmt × List Stmt => c.chk T N sc f q.1 && t.chk T N sc f q.2.1 && e.chk T N sc f q.2.2) hx
    obtain ⟨p, rfl⟩ := ifV_ok e1
    simp only [Bool.and_eq_true] at h
    exact psm_if (IE.ok c C cc h.1.1).tst (ISs.ok t C hk a h.1.2) (ISs.ok e C hk b h.2)
  | «while» c b =>
    obtain ⟨⟨cc, a⟩, e1, h⟩ := ofO_some (p := fun q : Expr × List Stmt => c.chk T N sc f q.1 && b.chk T N sc f q.2) hx
    obtain ⟨p, rfl⟩ := whileV_ok e1
    simp only [Bool.and_eq_true] at h
    exact psm_while C.own (IE.ok c C cc h.1).tst (ISs.ok b C hk a h.2)
  | «for» tg it b =>
    obtain ⟨⟨t, i, a⟩, e1, h⟩ := ofO_some (p := fun q : Expr × Expr × List Stmt => noSet q.2.1 && tgB N sc f tg q.1 && it.chk T N sc f q.1 q.2.1 && b.chk T N sc f q.2.2) hx
    obtain ⟨p, rfl⟩ := forV_ok e1
    simp only [Bool.and_eq_true] at h
    exact psm_for C.own C.rm.calm (II.ok it C t i h.1.2) (C.tg h.1.1.2) (ISs.ok b C hk a h.2) (set_no h.1.1.1)
  | raise => exact psm_fail
  | pass =>
    cases x <;> first | cases hx | skip
    refine PS_imp ps_pass fun Dn σ H h => ?_
    obtain ⟨ρ, st, env, r, st', R, E, ev, kk⟩ := h
    obtain ⟨rfl, rfl⟩ := M.ret_some ev
    exact kk ρ H σ .refl R E
  | cont =>
    cases x <;> first | cases hx | skip
    refine PS_imp ps_continue fun Dn σ H h => ?_
    obtain ⟨ρ, st, env, r, st', R, E, ev, kk⟩ := h
    obtain ⟨rfl, rfl⟩ := M.ret_some ev
    exact kk ρ H σ .refl R E
  | brk =>
    cases x <;> first | cases hx | skip
    refine PS_imp ps_break fun Dn σ H h => ?_
    obtain ⟨ρ, st, env, r, st', R, E, ev, kk⟩ := h
    obtain ⟨rfl, rfl⟩ := M.ret_some ev
    exact kk ρ H σ .refl R E
theorem ISs.ok (ss : ISs) (C : Cok T N sc f X k Γ) (hk : sc.kind = .function) (xs : List Stmt) (hx : ss.chk T N sc f xs = true) : PSsM X (ss.den Γ) xs := by
  cases ss with
  | nil =>
    have e : xs = [] := List.isEmpty_iff.mp hx
    subst e
    exact pssm_nil
  | cons s ss =>
    cases xs with
    | nil => cases hx
    | cons x xs =>
      have h : (s.chk T N sc f x && ss.chk T N sc f xs) = true := hx
      rw [Bool.and_eq_true] at h
      exact pssm_cons (IS.ok s C hk x h.1) (ISs.ok ss C hk xs h.2)
end
end
end MP

set_option Elab.async false
set_option linter.all false
set_option maxRecDepth 100000
/-! M13: all defs of a text at once; the end of a law's row. -/
namespace MP
open PySem L2 PyProof.Rows
/-- a def with the ways of keywords by which it is called -/
structure Fw where
  fn : Fn
  kws : List (Nat × List Str × List Nat)
  dfl : List V
def Fw.ft (F : Fw) : FT := ⟨F.fn.name, F.fn.ps, F.kws, F.dfl⟩
def tabOf (Fs : List Fw) (cons : List (Str × V)) (blts : List Str) (mths : List (Str × Bf)) : Tab := ⟨Fs.map Fw.ft, cons, blts, mths⟩
def gam (Fs : List Fw) (k : Nat) : Gam := callN (Fs.map Fw.fn) k
/-- what must be known of a def of the text -/
structure FnS (T : Tab) (K : PySem.W.Frag) (mg : Str → Option Value) (F : Fw) : Prop where
  ex : ∃ (f : Addr) (fd : FuncData) (qual : Str) (st : Stmt), mg F.fn.name = some (.ref f) ∧ FunX K F.fn.name qual st f fd ∧ FnScope F.fn.slots F.fn.ps (defScope st) ∧ Binds K fd F.fn.ps [] ∧
    (∀ q ∈ F.kws, KwB K fd F.fn.ps q.1 q.2.1 q.2.2) ∧ (∀ j, j < F.dfl.length → ∃ df, Vals (F.dfl.drop j) df ∧ Binds K fd F.fn.ps df) ∧ F.fn.body.chk T F.fn.slots (defScope st) (fun _ => true) (defBody st) = true
theorem find_self {Fs : List Fw} {F : Fw} (hn : (Fs.map fun F => F.fn.name).Nodup) (hF : F ∈ Fs) : (Fs.map Fw.fn).find? (fun G : Fn => G.name == F.fn.name) = some F.fn := by
  induction Fs with
  | nil => cases hF
  | cons G Gs ih =>
    rw [List.map_cons, List.nodup_cons] at hn
    rw [List.map_cons, List.find?_cons]
    rcases List.mem_cons.mp hF with e | hF
    · subst e
      simp
    · have ne : (G.fn.name == F.fn.name) = false := by
        rw [beq_eq_false_iff_ne]
        intro z
        exact hn.1 (by rw [z]; exact List.mem_map.mpr ⟨F, hF, rfl⟩)
      rw [ne]
      exact ih hn.2 hF
section
variable {P : Program} {w : World} {K : PySem.W.Frag} {mg : Str → Option Value} {base : Heap} {Fs : List Fw} {cons : List (Str × V)} {blts : List Str} {mths : List (Str × Bf)}
theorem all_ok (hn : (Fs.map fun F => F.fn.name).Nodup) (hS : ∀ F ∈ Fs, FnS (tabOf Fs cons blts mths) K mg F) (hb : ∀ x ∈ blts, mg x = none) (hc : ∀ q ∈ cons, ∃ u, mg q.1 = some u ∧ RelV q.2 u) (hm : ∀ q ∈ mths, mg q.1 = some (.builtin q.2.id)) :
    ∀ k, TabOk (tabOf Fs cons blts mths) P w K mg base k (gam Fs k)
  | 0 => by
    refine ⟨hb, hc, hm, fun T hT => ?_⟩
    obtain ⟨F, hF, rfl⟩ := List.mem_map.mp hT
    obtain ⟨f, fd, qual, st, h1, h2, h3, h4, h5, h7, h6⟩ := (hS F hF).ex
    refine ⟨f, fd, h1, h2.kp, h4, h5, h7, ⟨fun A outer s H args us vs Q hr hg e0 hbd r hsp => ?_⟩⟩
    obtain ⟨_, ρ, st0, ds, d, st', _, _, e, _⟩ := hsp
    cases e
  | k + 1 => by
    have ih := all_ok hn hS hb hc hm k
    refine ⟨hb, hc, hm, fun T hT => ?_⟩
    obtain ⟨F, hF, rfl⟩ := List.mem_map.mp hT
    obtain ⟨f, fd, qual, st, h1, h2, h3, h4, h5, h7, h6⟩ := (hS F hF).ex
    refine ⟨f, fd, h1, h2.kp, h4, h5, h7, ?_⟩
    refine fnG_of (N := F.fn.slots) (body := F.fn.body.den (gam Fs k)) h2 h3 (fun cdv A outer s H hr hg => ?_) fun ds st0 r st' e => ?_
    · refine ISs.ok F.fn.body (T := tabOf Fs cons blts mths) (N := F.fn.slots) (sc := defScope st) (f := fun _ => true) (k := k) ⟨rfl, rfl, rfl, h3.nd, ⟨rfl, ?_, guards_deeper (env := envOfC qual (defScope st) s.heap.objs.size f cdv) hg⟩, hr, ih, PassesOwn.never⟩ h3.kind _ h6
      have := hr.un
      show (A.deeper (envOfC qual (defScope st) s.heap.objs.size f cdv)).units + 200 < cLine
      omega
    · have e' : (match (Fs.map Fw.fn).find? (fun G : Fn => G.name == F.fn.name) with
        | some G => G.run (gam Fs k) ds
        | none => M.fail) st0 = some (r, st') := e
      rw [find_self hn hF] at e'
      have e2 : F.fn.run (gam Fs k) ds st0 = some (r, st') := e'
      unfold Fn.run at e2
      split at e2
      · rename_i hl
        refine ⟨hl, ?_⟩
        split at e2
        · rename_i d env' st'' eb
          cases e2
          exact ⟨_, _, eb, .inr rfl⟩
        · rename_i env' st'' eb
          cases e2
          exact ⟨_, _, eb, .inl ⟨rfl, rfl⟩⟩
        · cases e2
      · cases e2
end

/-! ### the end -/
theorem repl_of_ints {K : PySem.W.Frag} {ρ : List Addr} {H : Hp} : ∀ ns : List Int, RepL K ρ H (ns.map V.int) (ns.map D.int)
  | [] => .nil
  | n :: ns => .cons .int (repl_of_ints ns)
theorem law_end {P : Program} {w : World} {K : PySem.W.Frag} {mg mb : Str → Option Value} {k : Nat} {fa a : Addr} {x : Str} {g : List D → M D} {s₁ : Shared} {vs : List Value} {ns : List Int}
    (hK : K.In s₁.heap) (hmg : s₁.heap.Ns mainGlobals mg) (hmb : s₁.heap.Ns builtinsNs mb) (hboot : ∀ y : Str, y ≠ "__name__" → mb y = bootBuiltins y) (hnl : s₁.heap.NoLimit) (hgen : s₁.gens = #[])
    (ha : s₁.heap.get? a = some { cls := .type "list", data := .seq vs.toArray }) (hi : IntsAre vs ns) (hl : ns.length ≤ sizeLine) (hr : Room k callerA)
    (F : ∀ base : Heap, K.In base → base.Ns mainGlobals mg → ∃ fd : FuncData, Binds K fd [x] [] ∧ FnG P w K mg base k fa fd [x] g)
    (hg : ∃ st', g [.rl (ns.map D.int)] [] = some (.bl true, st')) :
    codeAny (model P w) callerA (.call (.ref fa) ⟨[.ref a], []⟩) (fun r s' => r = .ok (.ret (.bool true)) ∧ OldK s₁.heap s'.heap ∧ s'.os = s₁.os ∧ AllBare s'.gens) s₁ := by
  have rv := vals_ints hi
  have lv := hi.length
  obtain ⟨stE, hgE⟩ := hg
  have core : ∀ H : Hp, Only H → SqF K H a (ns.map V.int) → HOk P w H s₁.heap → (∀ b, H b ≠ none → b = a) → (H a ≠ none → K.lookup a = none) →
      codeAny (model P w) callerA (.call (.ref fa) ⟨[.ref a], []⟩) (fun r s' => r = .ok (.ret (.bool true)) ∧ OldK s₁.heap s'.heap ∧ s'.os = s₁.os ∧ AllBare s'.gens) s₁ := by
    intro H hO hS hok hA hKa
    have keep : ∀ {b : Addr} {o : Obj}, s₁.heap.get? b = some o → H b = none → (hidT s₁.heap H).get? b = some o := fun e n => hidT_get e n
    have nodict : ∀ {b : Addr} {o : Obj} {es : Array DictEntry} {ep : Nat}, s₁.heap.get? b = some o → o.data = .dict es ep → H b = none := by
      intro b o es ep e d
      cases q : H b with
      | none => rfl
      | some u =>
        obtain rfl : b = a := hA b (by rw [q]; simp)
        rw [ha] at e
        cases e
        cases (show Data.seq vs.toArray _ = Data.dict es ep from d)
    have nsk : ∀ {b : Addr} {m : Str → Option Value}, s₁.heap.Ns b m → (hidT s₁.heap H).Ns b m := by
      rintro b m ⟨o, es, ep, e, d, r⟩
      exact ⟨o, es, ep, keep e (nodict e d), d, r⟩
    have kin : K.In (hidT s₁.heap H) := by
      intro b o e
      refine keep (hK b o e) ?_
      cases q : H b with
      | none => rfl
      | some u =>
        obtain rfl : b = a := hA b (by rw [q]; simp)
        rw [hKa (by rw [q]; simp)] at e
        cases e
    obtain ⟨mc, n1, n2⟩ := hnl
    have md : Mod K mg (hidT s₁.heap H) := ⟨kin, nsk hmg, ⟨mb, nsk hmb, hboot⟩, mc, nsk n1, n2⟩
    have e0 : Env0 P w K mg (hidT s₁.heap H) callerA [] s₁ H := ⟨rfl, md, fun b o e => of_hidT e, Nat.le_of_eq (hidT_size _ _), trivial, fun b z => absurd (show b ∈ ([] : List Addr) from z) (by simp), hok, .of_eq hgen⟩
    have rs : RS K [] H [] := ⟨rfl, fun i j b z => by simp at z, fun i b o z => by simp at z⟩
    obtain ⟨fd, hbd, hF⟩ := F _ kin (nsk hmg)
    have go := hF.go callerA [] s₁ H ⟨[.ref a], []⟩ [.ref a] [.ref a] (fun v _ => v = .bl true) hr rfl e0 (hbd s₁ [.ref a] hK rfl) (.cons rfl .nil)
      ⟨rfl, [], [], [.rl (ns.map D.int)], .bl true, stE, rs, .cons (.rl hS (repl_of_ints ns)) .nil, hgE, fun ρ' H' v _ _ r => (Rep.of_v r).1⟩
    refine codeAny_mono go fun r s' h => ?_
    match r, h with
    | .error e, h => exact False.elim h
    | .ok .next, h => exact False.elim h
    | .ok .brk, h => exact False.elim h
    | .ok .cont, h => exact False.elim h
    | .ok (.ret u), ⟨v, H', os, bare, un, hok', rv', ev⟩ =>
      subst ev
      obtain rfl : u = Value.bool true := rv'
      refine ⟨rfl, OldK.of_keep fun b o e => ?_, os, bare⟩
      cases q : H b with
      | none => exact un.keep b o e q (fun z => absurd (show b ∈ ([] : List Addr) from z) (by simp)) (by simp)
      | some u =>
        rcases hO b with z | ⟨ob, xs, z⟩
        · rw [q] at z; cases z
        · obtain ⟨e1, _⟩ := hok b _ z
          obtain ⟨e2, _⟩ := hok' b _ (un.frzs b ob _ z)
          rw [e] at e1
          cases e1
          exact e2
  cases hk : K.lookup a with
  | some o =>
    have e := hK a o hk
    rw [ha] at e
    cases e
    exact core (fun _ => none) (fun _ => .inl rfl) (.inr ⟨_, vs.toArray, _, hk, rfl, rfl, rfl, by rw [List.size_toArray, lv]; exact hl, by simpa using rv⟩) (fun b u z => by cases (show (none : Option HO) = some u from z)) (fun b z => absurd rfl z) fun z => absurd rfl z
  | none =>
    refine core (fun b => if b = a then some (.frz { cls := .type "list", data := .seq vs.toArray } (.lst (ns.map V.int))) else none) (fun b => ?_) (.inl ⟨_, if_pos rfl⟩) (fun b u z => ?_) (fun b z => ?_) fun _ => hk
    · by_cases hb : b = a
      · exact .inr ⟨_, _, if_pos hb⟩
      · exact .inl (if_neg hb)
    · by_cases hb : b = a
      · have z' := (if_pos hb).symm.trans z
        cases z'
        subst hb
        exact ⟨ha, by rw [List.length_map]; exact hl, vs, _, rv, ha⟩
      · have z' := (if_neg hb).symm.trans z
        cases z'
    · by_cases hb : b = a
      · exact hb
      · exact absurd (if_neg hb) z
/-- the row: from the law's def, and that it gives True at every script -/
theorem walkM {l : PySem.W.OpenLaw} {n k : Nat} {q : Program} {loose : List Str} {XP : (Str → Option Value) → Heap → Prop} {YP : World → Heap → Prop} {d : DefRec} {K : Params → PySem.W.Frag} {x : Str} {g : List D → M D}
    (hn : l.most = some n) (hn2 : n ≤ sizeLine) (hdf : d.params.defaults = []) (hr : Room k callerA)
    (hY : ∀ (w : World) (h : Heap), YP w h → (K w.params).In h)
    (F : ∀ (w : World) (mg : Str → Option Value) (fa : Addr) (h : Heap), (K w.params).In h → h.Ns mainGlobals mg → mg d.name = some (.ref fa) →
      ∀ base : Heap, (K w.params).In base → base.Ns mainGlobals mg → ∃ fd : FuncData, Binds (K w.params) fd [x] [] ∧ FnG l.prog w (K w.params) mg base k fa fd [x] g)
    (hg : ∀ ns : List Int, ns.length ≤ n → ∃ st', g [.rl (ns.map D.int)] [] = some (.bl true, st')) :
    PySem.W.WalkO q loose XP YP l.row.toRowW d [] (fun f vs => PySem.call f vs) := by
  refine Att.attach_call hn hdf fun w s₀ s₁ mg mb fa o pm cd doc a vs ns G Y ho hd hcd hmg hobj hints hlen hgn => ?_
  exact law_end (hY w _ Y) G.T.g G.T.b G.T.builtins G.T.nolimit hgn hobj hints (Nat.le_trans hlen hn2) hr (F w mg fa _ (hY w _ Y) G.T.g hmg) (hg ns hlen)
/-- how a def's keywords bind -/
theorem kwb_of {K : PySem.W.Frag} {x qual : Str} {st : Stmt} {f : Addr} {fd : FuncData} {ps ks : List Str} {n : Nat} {pm : List Nat} (F : Fun K x qual st f fd)
    (h : ∀ (kV doc pmV : Value) (an : Option Addr) (cdv ct : Value) (us ws : List Value), us.length = n → ws.length = ks.length → bindArgs (PySem.W.fnOf x qual (defArgs st) (defBody st) (defScope st) .none kV doc pmV an cdv ct) ⟨us, ks.zip ws⟩ = pure (ps.zip (us ++ pm.filterMap (ws[·]?)))) : KwB K fd ps n ks pm := by
  obtain ⟨oc, od, kV, doc, pmV, an, cdv, ct, osl, rfl, lk, hcd⟩ := F.ex
  exact fun s us ws hK h1 h2 => .of_eq (h kV doc pmV an cdv ct us ws h1 h2)
end MP

set_option Elab.async false
set_option linter.all false
set_option maxRecDepth 100000
/-! M14: what a run in the small language comes to: wishes, rule by rule. -/
namespace MP
open PySem L2
def Wp {α : Type} (m : M α) (st : Store) (Q : α → Store → Prop) : Prop := ∃ a st', m st = some (a, st') ∧ Q a st'
section
variable {α β : Type} {st : Store}
theorem Wp.mono {m : M α} {Q Q' : α → Store → Prop} (h : Wp m st Q) (i : ∀ a s, Q a s → Q' a s) : Wp m st Q' :=
  let ⟨a, s, e, q⟩ := h; ⟨a, s, e, i a s q⟩
theorem wp_bind {m : M α} {f : α → M β} {Q : β → Store → Prop} : Wp (M.bind m f) st Q ↔ Wp m st fun a s => Wp (f a) s Q := by
  constructor
  · rintro ⟨b, s, e, q⟩
    obtain ⟨a, s1, e1, e2⟩ := M.bind_some e
    exact ⟨a, s1, e1, b, s, e2, q⟩
  · rintro ⟨a, s1, e1, b, s, e2, q⟩
    exact ⟨b, s, by unfold M.bind; rw [e1]; exact e2, q⟩
theorem wp_ret {a : α} {Q : α → Store → Prop} : Wp (M.ret a) st Q ↔ Q a st :=
  ⟨fun ⟨b, s, e, q⟩ => by cases e; exact q, fun q => ⟨a, st, rfl, q⟩⟩
theorem wp_fail {Q : α → Store → Prop} : Wp (M.fail) st Q ↔ False := ⟨fun ⟨b, s, e, q⟩ => (by cases e), False.elim⟩
theorem wp_opt_some {a : α} {f : α → M β} {Q : β → Store → Prop} : Wp (M.opt (some a) f) st Q ↔ Wp (f a) st Q := Iff.rfl
theorem wp_opt {o : Option α} {f : α → M β} {Q : β → Store → Prop} {a : α} (h : o = some a) : Wp (M.opt o f) st Q ↔ Wp (f a) st Q := by subst h; exact Iff.rfl
theorem wp_when {c : Bool} {f : M β} {Q : β → Store → Prop} : Wp (M.when c f) st Q ↔ c = true ∧ Wp f st Q := by
  cases c with
  | true => exact ⟨fun h => ⟨rfl, h⟩, fun h => h.2⟩
  | false => exact ⟨fun ⟨b, s, e, q⟩ => (by cases e), fun h => by cases h.1⟩
theorem wp_ite {c : Prop} [Decidable c] {f g : M α} {Q : α → Store → Prop} : Wp (if c then f else g) st Q ↔ if c then Wp f st Q else Wp g st Q := by
  split <;> exact Iff.rfl
theorem wp_newO {o : O} {Q : D → Store → Prop} : Wp (newO o) st Q ↔ Q (.loc st.length) (st ++ [o]) :=
  ⟨fun ⟨b, s, e, q⟩ => by cases e; exact q, fun q => ⟨_, _, rfl, q⟩⟩
theorem wp_getO {n : Nat} {o : O} {Q : O → Store → Prop} (h : st[n]? = some o) : Wp (getO n) st Q ↔ Q o st := by
  constructor
  · rintro ⟨b, s, e, q⟩
    obtain ⟨h', rfl⟩ := getO_some e
    rw [h] at h'
    cases h'
    exact q
  · exact fun q => ⟨o, st, by unfold getO; rw [h], q⟩
theorem lt_of_get {α : Type} {l : List α} {n : Nat} {a : α} (h : l[n]? = some a) : n < l.length := (List.getElem?_eq_some_iff.mp h).1
theorem wp_setO {n : Nat} {o : O} {Q : Unit → Store → Prop} (h : n < st.length) : Wp (setO n o) st Q ↔ Q () (st.set n o) := by
  constructor
  · rintro ⟨b, s, e, q⟩
    obtain ⟨h, rfl⟩ := setO_some e
    exact q
  · exact fun q => ⟨(), _, by unfold setO; rw [if_pos h], q⟩
theorem wp_itemsL {n : Nat} {ds : List D} {Q : List D → Store → Prop} (h : st[n]? = some (.lst ds)) : Wp (itemsOf (.loc n)) st Q ↔ Q ds st := by
  have e : itemsOf (.loc n) st = some (ds, st) := by
    show (match st[n]? with | some (.lst ds) => some (ds, st) | _ => none) = _
    rw [h]
  exact ⟨fun ⟨a, s, e', q⟩ => (by rw [e] at e'; cases e'; exact q), fun q => ⟨_, _, e, q⟩⟩
theorem wp_itemsT {ds : List D} {Q : List D → Store → Prop} : Wp (itemsOf (.tup ds)) st Q ↔ Q ds st := wp_ret
theorem wp_itemsR {ds : List D} {Q : List D → Store → Prop} : Wp (itemsOf (.rl ds)) st Q ↔ Q ds st := wp_ret
theorem wp_truthB {b : Bool} {Q : Bool → Store → Prop} : Wp (truth (.v (.bl b))) st Q ↔ Q b st := wp_ret
theorem wp_truthI {i : Int} {Q : Bool → Store → Prop} : Wp (truth (.v (.int i))) st Q ↔ Q (i != 0) st := wp_ret
theorem wp_listQ {n : Nat} {ds : List D} {Q : Unit → Store → Prop} (h : st[n]? = some (.lst ds)) : Wp (listQ (.loc n)) st Q ↔ Q () st := by
  unfold listQ
  rw [wp_bind, wp_itemsL h, wp_when, wp_ret]
  exact ⟨fun z => z.2, fun z => ⟨rfl, z⟩⟩
theorem wp_srcL {n : Nat} {ds : List D} {Q : Src → Store → Prop} (h : st[n]? = some (.lst ds)) : Wp (srcOf (.loc n)) st Q ↔ Q (.loc n) st := by
  show Wp (M.bind (listQ (.loc n)) fun _ => M.ret (.loc n)) st Q ↔ _
  rw [wp_bind, wp_listQ h, wp_ret]
theorem wp_srcT {ds : List D} {Q : Src → Store → Prop} : Wp (srcOf (.tup ds)) st Q ↔ Q (.fix ds) st := wp_ret
theorem wp_srcR {ds : List D} {Q : Src → Store → Prop} : Wp (srcOf (.rl ds)) st Q ↔ Q (.fix ds) st := wp_ret
/-- a block -/
def SQ (gr : Env → M (Fl × Env)) (Q : Fl × Env → Store → Prop) (r : Fl × Env) (s : Store) : Prop := match r with
  | (.next, env) => Wp (gr env) s Q
  | r => Q r s
theorem wp_seq {Γ : Gam} {s : IS} {ss : ISs} {env : Env} {Q : Fl × Env → Store → Prop} : Wp (ISs.den Γ (.cons s ss) env) st Q ↔ Wp (s.den Γ env) st (SQ (ss.den Γ) Q) := by
  show Wp (M.bind (s.den Γ env) fun r => match r with | (.next, env1) => ss.den Γ env1 | r => M.ret r) st Q ↔ _
  rw [wp_bind]
  constructor
  · refine fun h => h.mono fun ⟨fl, e⟩ s q => ?_
    cases fl with
    | next => exact q
    | brk => exact (wp_ret (a := (Fl.brk, e)) (Q := Q)).mp q
    | cont => exact (wp_ret (a := (Fl.cont, e)) (Q := Q)).mp q
    | ret d => exact (wp_ret (a := (Fl.ret d, e)) (Q := Q)).mp q
  · refine fun h => h.mono fun ⟨fl, e⟩ s q => ?_
    cases fl with
    | next => exact q
    | brk => exact (wp_ret (a := (Fl.brk, e)) (Q := Q)).mpr q
    | cont => exact (wp_ret (a := (Fl.cont, e)) (Q := Q)).mpr q
    | ret d => exact (wp_ret (a := (Fl.ret d, e)) (Q := Q)).mpr q
theorem wp_nil {Γ : Gam} {env : Env} {Q : Fl × Env → Store → Prop} : Wp (ISs.den Γ .nil env) st Q ↔ Q (.next, env) st := wp_ret
theorem sq_next {gr : Env → M (Fl × Env)} {Q : Fl × Env → Store → Prop} {env : Env} : SQ gr Q (.next, env) st ↔ Wp (gr env) st Q := Iff.rfl
theorem sq_ret {gr : Env → M (Fl × Env)} {Q : Fl × Env → Store → Prop} {env : Env} {d : D} : SQ gr Q (.ret d, env) st ↔ Q (.ret d, env) st := Iff.rfl
theorem sq_cont {gr : Env → M (Fl × Env)} {Q : Fl × Env → Store → Prop} {env : Env} : SQ gr Q (.cont, env) st ↔ Q (.cont, env) st := Iff.rfl
theorem sq_brk {gr : Env → M (Fl × Env)} {Q : Fl × Env → Store → Prop} {env : Env} : SQ gr Q (.brk, env) st ↔ Q (.brk, env) st := Iff.rfl
/-- a call's end -/
def RQ (Q : D → Store → Prop) (r : Fl × Env) (s : Store) : Prop := match r.1 with
  | .ret d => Q d s
  | .next => Q .non s
  | _ => False
theorem rq_ret {Q : D → Store → Prop} {env : Env} {d : D} : RQ Q (.ret d, env) st ↔ Q d st := Iff.rfl
theorem rq_next {Q : D → Store → Prop} {env : Env} : RQ Q (.next, env) st ↔ Q .non st := Iff.rfl
theorem wp_run {F : Fn} {Γ : Gam} {ds : List D} {Q : D → Store → Prop} (hl : ds.length = F.ps.length) (h : Wp (F.body.den Γ (startE F.slots.length ds)) st (RQ Q)) : Wp (F.run Γ ds) st Q := by
  obtain ⟨⟨fl, env⟩, s, e, q⟩ := h
  cases fl with
  | ret d => exact ⟨d, s, by unfold Fn.run; rw [if_pos hl, e], q⟩
  | next => exact ⟨_, s, by unfold Fn.run; rw [if_pos hl, e], q⟩
  | brk => exact False.elim q
  | cont => exact False.elim q
theorem gam_eq {Fs : List Fw} (hn : (Fs.map fun F => F.fn.name).Nodup) {F : Fw} (hF : F ∈ Fs) (k : Nat) (ds : List D) : gam Fs (k + 1) F.fn.name ds = F.fn.run (gam Fs k) ds := by
  show (match (Fs.map Fw.fn).find? (fun G : Fn => G.name == F.fn.name) with
        | some G => G.run (gam Fs k) ds
        | none => M.fail) = _
  rw [find_self hn hF]
/-- for: Inv by the turn; the source has n items as told -/
theorem wp_for {src : Src} {turn : D → Env → M (Fl × Env)} {env : Env} {Q : Fl × Env → Store → Prop} (n : Nat) (Inv : Nat → Env → Store → Prop) (h0 : Inv 0 env st) (hn : n < turns)
    (step : ∀ i env st, i < n → Inv i env st → ∃ d, src.at i st = some (some d) ∧ Wp (turn d env) st fun r s => match r.1 with
      | .next => Inv (i + 1) r.2 s
      | .cont => Inv (i + 1) r.2 s
      | .brk => Q (.next, r.2) s
      | .ret d => Q (.ret d, r.2) s)
    (fin : ∀ env st, Inv n env st → src.at n st = some none ∧ Q (.next, env) st) : Wp (forLoop src turn turns 0 env) st Q := by
  have key : ∀ (m i : Nat) (env : Env) (st : Store), m + i = n → Inv i env st → ∀ f, m < f → Wp (forLoop src turn f i env) st Q := by
    intro m
    induction m with
    | zero =>
      intro i env st hi hI f hf
      obtain rfl : i = n := by omega
      obtain ⟨f, rfl⟩ : ∃ g, f = g + 1 := ⟨f - 1, by omega⟩
      obtain ⟨h1, h2⟩ := fin env st hI
      exact ⟨_, st, by unfold forLoop; simp only [h1], h2⟩
    | succ m ih =>
      intro i env st hi hI f hf
      obtain ⟨f, rfl⟩ : ∃ g, f = g + 1 := ⟨f - 1, by omega⟩
      obtain ⟨d, h1, ⟨fl, env1⟩, s1, e1, q1⟩ := step i env st (by omega) hI
      cases fl with
      | next =>
        obtain ⟨a, s, e, q⟩ := ih (i + 1) env1 s1 (by omega) q1 f (by omega)
        exact ⟨a, s, by unfold forLoop; simp only [h1, e1]; exact e, q⟩
      | cont =>
        obtain ⟨a, s, e, q⟩ := ih (i + 1) env1 s1 (by omega) q1 f (by omega)
        exact ⟨a, s, by unfold forLoop; simp only [h1, e1]; exact e, q⟩
      | brk => exact ⟨(.next, env1), s1, by unfold forLoop; simp only [h1, e1], q1⟩
      | ret d => exact ⟨(.ret d, env1), s1, by unfold forLoop; simp only [h1, e1], q1⟩
  exact key n 0 env st (by omega) h0 turns hn
/-- a comprehension: Inv by the turn and what is made so far (as the store bears it at n) -/
theorem wp_lc {src : Src} {l : Nat} {turn : D → M (Option D)} {Q : Unit → Store → Prop} (n : Nat) (Inv : Nat → Store → Prop) (h0 : Inv 0 st) (hn : n < turns)
    (step : ∀ i st, i < n → Inv i st → ∃ d, src.at i st = some (some d) ∧ Wp (turn d) st fun r s => match r with
      | none => Inv (i + 1) s
      | some y => ∃ acc, s[l]? = some (.lst acc) ∧ acc.length < sizeLine ∧ Inv (i + 1) (s.set l (.lst (acc ++ [y]))))
    (fin : ∀ st, Inv n st → src.at n st = some none ∧ Q () st) : Wp (lcLoop src l turn turns 0) st Q := by
  have key : ∀ (m i : Nat) (st : Store), m + i = n → Inv i st → ∀ f, m < f → Wp (lcLoop src l turn f i) st Q := by
    intro m
    induction m with
    | zero =>
      intro i st hi hI f hf
      obtain rfl : i = n := by omega
      obtain ⟨f, rfl⟩ : ∃ g, f = g + 1 := ⟨f - 1, by omega⟩
      obtain ⟨h1, h2⟩ := fin st hI
      exact ⟨_, st, by unfold lcLoop; simp only [h1], h2⟩
    | succ m ih =>
      intro i st hi hI f hf
      obtain ⟨f, rfl⟩ : ∃ g, f = g + 1 := ⟨f - 1, by omega⟩
      obtain ⟨d, h1, r, s1, e1, q1⟩ := step i st (by omega) hI
      cases r with
      | none =>
        obtain ⟨a, s, e, q⟩ := ih (i + 1) s1 (by omega) q1 f (by omega)
        exact ⟨a, s, by unfold lcLoop; simp only [h1, e1]; exact e, q⟩
      | some y =>
        obtain ⟨acc, h2, h3, h4⟩ := q1
        obtain ⟨a, s, e, q⟩ := ih (i + 1) _ (by omega) h4 f (by omega)
        exact ⟨a, s, by unfold lcLoop; simp only [h1, e1, h2, h3, if_true]; exact e, q⟩
  exact key n 0 st (by omega) h0 turns hn
/-- while: a word and a number that falls -/
theorem wp_while {test : Env → M Bool} {body : Env → M (Fl × Env)} {env : Env} {Q : Fl × Env → Store → Prop} (Inv : Env → Store → Prop) (μ : Env → Store → Nat) (h0 : Inv env st) (hn : μ env st < turns)
    (step : ∀ env st, Inv env st → Wp (test env) st fun b s => if b = true then Wp (body env) s fun r s2 => match r.1 with
      | .next => Inv r.2 s2 ∧ μ r.2 s2 < μ env st
      | .cont => Inv r.2 s2 ∧ μ r.2 s2 < μ env st
      | .brk => Q (.next, r.2) s2
      | .ret d => Q (.ret d, r.2) s2 else Q (.next, env) s) : Wp (whileLoop test body turns env) st Q := by
  have key : ∀ (m : Nat) (env : Env) (st : Store), μ env st ≤ m → Inv env st → ∀ f, m < f → Wp (whileLoop test body f env) st Q := by
    intro m
    induction m with
    | zero =>
      intro env st hm hI f hf
      obtain ⟨f, rfl⟩ : ∃ g, f = g + 1 := ⟨f - 1, by omega⟩
      obtain ⟨b, s, e, q⟩ := step env st hI
      cases b with
      | false => exact ⟨(.next, env), s, by unfold whileLoop; simp only [e], by simpa using q⟩
      | true =>
        rw [if_pos rfl] at q
        obtain ⟨⟨fl, env1⟩, s2, e2, q2⟩ := q
        cases fl with
        | next => have := q2.2; omega
        | cont => have := q2.2; omega
        | brk => exact ⟨(.next, env1), s2, by unfold whileLoop; simp only [e, e2], q2⟩
        | ret d => exact ⟨(.ret d, env1), s2, by unfold whileLoop; simp only [e, e2], q2⟩
    | succ m ih =>
      intro env st hm hI f hf
      obtain ⟨f, rfl⟩ : ∃ g, f = g + 1 := ⟨f - 1, by omega⟩
      obtain ⟨b, s, e, q⟩ := step env st hI
      cases b with
      | false => exact ⟨(.next, env), s, by unfold whileLoop; simp only [e], by simpa using q⟩
      | true =>
        rw [if_pos rfl] at q
        obtain ⟨⟨fl, env1⟩, s2, e2, q2⟩ := q
        cases fl with
        | next =>
          obtain ⟨a, s3, e3, q3⟩ := ih env1 s2 (by have h' : μ env1 s2 < μ env st := q2.2; omega) q2.1 f (by omega)
          exact ⟨a, s3, by unfold whileLoop; simp only [e, e2]; exact e3, q3⟩
        | cont =>
          obtain ⟨a, s3, e3, q3⟩ := ih env1 s2 (by have h' : μ env1 s2 < μ env st := q2.2; omega) q2.1 f (by omega)
          exact ⟨a, s3, by unfold whileLoop; simp only [e, e2]; exact e3, q3⟩
        | brk => exact ⟨(.next, env1), s2, by unfold whileLoop; simp only [e, e2], q2⟩
        | ret d => exact ⟨(.ret d, env1), s2, by unfold whileLoop; simp only [e, e2], q2⟩
  exact key _ env st (Nat.le_refl _) h0 turns hn
end
/-- what stood stays -/
def Ext (st st' : Store) : Prop := ∀ (n : Nat) (o : O), st[n]? = some o → st'[n]? = some o
theorem Ext.refl (st : Store) : Ext st st := fun _ _ h => h
theorem Ext.trans {a b c : Store} (h : Ext a b) (i : Ext b c) : Ext a c := fun n o e => i n o (h n o e)
theorem Ext.push (st : Store) (o : O) : Ext st (st ++ [o]) := fun n u h => by rw [List.getElem?_append_left (lt_of_get h)]; exact h
theorem get_push (st : Store) (o : O) : (st ++ [o])[st.length]? = some o := by simp
/-- .. but at one place -/
def ExtB (w : Nat) (st st' : Store) : Prop := ∀ (n : Nat) (o : O), n ≠ w → st[n]? = some o → st'[n]? = some o
theorem Ext.b {w : Nat} {a b : Store} (h : Ext a b) : ExtB w a b := fun n o _ e => h n o e
theorem ExtB.trans {w : Nat} {a b c : Store} (h : ExtB w a b) (i : ExtB w b c) : ExtB w a c := fun n o ne e => i n o ne (h n o ne e)
end MP

set_option Elab.async false
set_option linter.all false
set_option maxRecDepth 100000
/-! M15: expressions and statements opened, as rewriting rules. -/
namespace MP
open PySem L2
section
variable {Γ : Gam} {env : Env}
theorem d_var {i : Nat} : (IE.var i).den Γ env = M.opt (getS env i) M.ret := rfl
theorem d_litI {i : Int} : (IE.lit (.int i)).den Γ env = M.ret (.v (.int i)) := rfl
theorem d_litB {b : Bool} : (IE.lit (.bl b)).den Γ env = M.ret (.v (.bl b)) := rfl
theorem d_litN : (IE.lit .non).den Γ env = M.ret (.v .non) := rfl
theorem d_litS {x : Str} : (IE.lit (.str x)).den Γ env = M.ret (.v (.str x)) := rfl
theorem d_conI {x : Str} {i : Int} : (IE.con x (.int i)).den Γ env = M.ret (.v (.int i)) := rfl
theorem d_conS {x y : Str} : (IE.con x (.str y)).den Γ env = M.ret (.v (.str y)) := rfl
theorem d_bin {op : Aop} {a b : IE} : (IE.bin op a b).den Γ env = M.bind (a.den Γ env) fun x => M.bind (b.den Γ env) fun y => binM op x y := rfl
theorem d_neg {a : IE} : (IE.neg a).den Γ env = M.bind (a.den Γ env) negM := rfl
theorem d_cmp {op : Cop} {a b : IE} : (IE.cmp op a b).den Γ env = M.bind (a.den Γ env) fun x => M.bind (b.den Γ env) fun y => cmpM op x y := rfl
def chK (t : D) (k : M D) : M D := match t with
    | .v (.bl true) => k
    | .v (.bl false) => M.ret (.v (.bl false))
    | _ => M.fail
theorem chK_bl {b : Bool} {k : M D} : chK (.v (.bl b)) k = if b then k else M.ret (.v (.bl false)) := by cases b <;> rfl
theorem d_chain {op op' : Cop} {a b c : IE} : (IE.chain op op' a b c).den Γ env = M.bind (a.den Γ env) fun x => M.bind (b.den Γ env) fun y => M.bind (cmpM op x y) fun t => chK t (M.bind (c.den Γ env) fun z => cmpM op' y z) := rfl
theorem d_and {a b : IE} : (IE.and a b).den Γ env = M.bind (a.den Γ env) fun x => M.bind (truth x) fun t => if t then b.den Γ env else M.ret x := rfl
theorem d_or {a b : IE} : (IE.or a b).den Γ env = M.bind (a.den Γ env) fun x => M.bind (truth x) fun t => if t then M.ret x else b.den Γ env := rfl
theorem d_not {a : IE} : (IE.not a).den Γ env = M.bind (a.den Γ env) fun x => M.bind (truth x) fun t => M.ret (.v (.bl (!t))) := rfl
theorem d_ite {c a b : IE} : (IE.ite c a b).den Γ env = M.bind (c.den Γ env) fun x => M.bind (truth x) fun t => if t then a.den Γ env else b.den Γ env := rfl
theorem d_call {f : Str} {n : Nat} {as : IEs} : (IE.call f n as).den Γ env = M.bind (as.den Γ env) fun ds => M.when (decide (ds.length = n)) (Γ f ds) := rfl
theorem d_callk {f : Str} {n : Nat} {as kas : IEs} {ks : List Str} {pm : List Nat} : (IE.callk f n as ks pm kas).den Γ env = M.bind (as.den Γ env) fun ds => M.when (decide (ds.length = as.len)) (M.bind (kas.den Γ env) fun zs => M.when (decide (zs.length = ks.length)) (M.when (decide ((ds ++ pm.filterMap (zs[·]?)).length = n)) (Γ f (ds ++ pm.filterMap (zs[·]?))))) := rfl
theorem d_calld {f : Str} {n : Nat} {as : IEs} {dv : List V} : (IE.calld f n as dv).den Γ env = M.bind (as.den Γ env) fun ds => M.when (decide (ds.length + dv.length = n)) (Γ f (ds ++ dv.map D.v)) := rfl
theorem d_mth {b : Bf} {as : IEs} : (IE.mth b as).den Γ env = M.bind (as.den Γ env) fun ds => mthM b ds := rfl
theorem d_dead : IE.dead.den Γ env = M.fail := rfl
theorem d_blt {b : B} {as : IEs} : (IE.blt b as).den Γ env = M.bind (as.den Γ env) fun ds => bltM b ds := rfl
theorem d_isi {a : IE} {t : Str} : (IE.isi a t).den Γ env = M.bind (a.den Γ env) fun x => isiM x t := rfl
theorem d_meth {m : Bm} {o : IE} {as : IEs} : (IE.meth m o as).den Γ env = M.bind (o.den Γ env) fun x => M.bind (listQ x) fun _ => M.bind (as.den Γ env) fun ds => methM m x ds := rfl
theorem d_tup {es : IEs} : (IE.tup es).den Γ env = M.bind (es.den Γ env) fun ds => if sizeOk ds.length then M.ret (.tup ds) else M.fail := rfl
theorem d_lst {es : IEs} : (IE.lst es).den Γ env = M.bind (es.den Γ env) fun ds => if sizeOk ds.length then newO (.lst ds) else M.fail := rfl
theorem d_idx {a i : IE} : (IE.idx a i).den Γ env = M.bind (a.den Γ env) fun x => M.bind (i.den Γ env) fun y => idxM x y := rfl
theorem d_slc {a : IE} {lo hi : IEs} : (IE.slc a lo hi).den Γ env = M.bind (a.den Γ env) fun x => M.bind (lo.part Γ env) fun l => M.bind (hi.part Γ env) fun h => slcM x l h := rfl
theorem d_rev {a : IE} : (IE.rev a).den Γ env = M.bind (a.den Γ env) revM := rfl
def lcK (tg : List Nat) (Γ : Gam) (env : Env) (src : Src) (c : IEs) (e : IE) (q : D) : M D := match q with
    | .loc n => M.bind (lcLoop src n (fun d => M.bind (putT tg d (wipeE env tg)) fun env1 => M.bind (c.test Γ env1) fun t => if t then M.bind (e.den Γ env1) fun y => M.ret (some y) else M.ret none) turns 0) fun _ => M.ret (.loc n)
    | _ => M.fail
theorem lcK_loc {tg : List Nat} {src : Src} {c : IEs} {e : IE} {n : Nat} : lcK tg Γ env src c e (.loc n) = M.bind (lcLoop src n (fun d => M.bind (putT tg d (wipeE env tg)) fun env1 => M.bind (c.test Γ env1) fun t => if t then M.bind (e.den Γ env1) fun y => M.ret (some y) else M.ret none) turns 0) fun _ => M.ret (.loc n) := rfl
theorem d_comp {tg : List Nat} {it : II} {c : IEs} {e : IE} : (IE.comp tg it c e).den Γ env = M.bind (it.den Γ env) fun src => M.bind (newO (.lst [])) fun q => lcK tg Γ env src c e q := rfl
theorem d_nil : IEs.nil.den Γ env = M.ret [] := rfl
theorem d_cons {e : IE} {es : IEs} : (IEs.cons e es).den Γ env = M.bind (e.den Γ env) fun x => M.bind (es.den Γ env) fun xs => M.ret (x :: xs) := rfl
theorem t_nil : IEs.nil.test Γ env = M.ret true := rfl
theorem t_one {e : IE} : (IEs.cons e .nil).test Γ env = M.bind (e.den Γ env) truth := rfl
theorem p_nil : IEs.nil.part Γ env = M.ret none := rfl
theorem p_one {e : IE} : (IEs.cons e .nil).part Γ env = M.bind (e.den Γ env) fun d => M.opt (intOf d) fun i => M.ret (some i) := rfl
theorem i_seq {e : IE} : (II.seq e).den Γ env = M.bind (e.den Γ env) srcOf := rfl
theorem i_rng {as : IEs} : (II.range as).den Γ env = M.bind (as.den Γ env) (rngAs as.len) := rfl
theorem s_set {i : Nat} {e : IE} : (IS.set i e).den Γ env = M.bind (e.den Γ env) fun d => M.ret (.next, env.set i (some d)) := rfl
theorem s_setc {i : Nat} {tg : List Nat} {it : II} {c : IEs} {e : IE} : (IS.setc i tg it c e).den Γ env = M.bind ((IE.comp tg it c e).den Γ env) fun d => M.ret (.next, env.set i (some d)) := rfl
theorem s_setT {l : List Nat} {e : IE} : (IS.setT l e).den Γ env = M.bind (e.den Γ env) fun d => M.bind (putM l d env) fun env1 => M.ret (.next, env1) := rfl
theorem s_setP {l : List Nat} {es : IEs} : (IS.setP l es).den Γ env = M.bind (es.den Γ env) fun ds => M.when (sizeOk ds.length) (M.opt (putAll l ds env) fun env1 => M.ret (.next, env1)) := rfl
theorem s_setS {a i e : IE} : (IS.setS a i e).den Γ env = M.bind (e.den Γ env) fun d => M.bind (a.den Γ env) fun x => M.bind (i.den Γ env) fun y => M.bind (setItemM x y d) fun _ => M.ret (.next, env) := rfl
theorem s_setST {a i e : IE} {j : Nat} : (IS.setST a i j e).den Γ env = M.bind (e.den Γ env) fun d => M.opt (pairOf d) fun q => M.bind (a.den Γ env) fun x => M.bind (i.den Γ env) fun y => M.bind (setItemM x y q.1) fun _ => M.ret (.next, env.set j (some q.2)) := rfl
theorem s_aug {i : Nat} {op : Aop} {e : IE} : (IS.aug i op e).den Γ env = M.opt (getS env i) fun x => M.bind (e.den Γ env) fun y => M.bind (iopM op x y) fun z => M.ret (.next, env.set i (some z)) := rfl
theorem s_augS {a i e : IE} {op : Aop} : (IS.augS a i op e).den Γ env = M.bind (a.den Γ env) fun x => M.bind (i.den Γ env) fun y => M.bind (idxM x y) fun z => M.bind (e.den Γ env) fun w => M.bind (iopM op z w) fun u => M.bind (setItemM x y u) fun _ => M.ret (.next, env) := rfl
theorem s_expr {e : IE} : (IS.expr e).den Γ env = M.bind (e.den Γ env) fun _ => M.ret (.next, env) := rfl
theorem s_ret {e : IE} : (IS.ret e).den Γ env = M.bind (e.den Γ env) fun d => M.ret (.ret d, env) := rfl
theorem s_ite {c : IE} {t e : ISs} : (IS.ite c t e).den Γ env = M.bind (c.den Γ env) fun x => M.bind (truth x) fun b => if b then t.den Γ env else e.den Γ env := rfl
theorem s_while {c : IE} {b : ISs} : (IS.while c b).den Γ env = whileLoop (fun env => M.bind (c.den Γ env) truth) (fun env => b.den Γ env) turns env := rfl
theorem s_for {tg : List Nat} {it : II} {b : ISs} : (IS.for tg it b).den Γ env = M.bind (it.den Γ env) fun src => forLoop src (fun d env => M.bind (putT tg d env) fun env1 => b.den Γ env1) turns 0 env := rfl
theorem s_raise : IS.raise.den Γ env = M.fail := rfl
theorem s_pass : IS.pass.den Γ env = M.ret (.next, env) := rfl
theorem s_cont : IS.cont.den Γ env = M.ret (.cont, env) := rfl
theorem s_brk : IS.brk.den Γ env = M.ret (.brk, env) := rfl
end
/-! operations on what is known -/
theorem b_addI {i j : Int} : binM .add (.v (.int i)) (.v (.int j)) = M.ret (.v (.int (i + j))) := rfl
theorem b_subI {i j : Int} : binM .sub (.v (.int i)) (.v (.int j)) = M.ret (.v (.int (i - j))) := rfl
theorem b_mulI {i j : Int} : binM .mul (.v (.int i)) (.v (.int j)) = if mulOk i j then M.ret (.v (.int (i * j))) else M.fail := rfl
theorem b_divI {i j : Int} : binM .fdiv (.v (.int i)) (.v (.int j)) = if decide (0 < j) && decide (j < 1073741824) then M.ret (.v (.int (i / j))) else M.fail := rfl
theorem b_modI {i j : Int} : binM .mod (.v (.int i)) (.v (.int j)) = if 0 < j then M.ret (.v (.int (i % j))) else M.fail := rfl
theorem b_powI {i j : Int} : binM .pow (.v (.int i)) (.v (.int j)) = if decide (0 ≤ j) && decide (j ≤ 1000000) && decide (i.natAbs < 2 ^ 64) then M.ret (.v (.int (i ^ j.toNat))) else M.fail := rfl
theorem b_addT {xs ys : List D} : binM .add (.tup xs) (.tup ys) = if sizeOk (xs.length + ys.length) then M.ret (.tup (xs ++ ys)) else M.fail := rfl
theorem i_addI {i j : Int} : iopM .add (.v (.int i)) (.v (.int j)) = M.ret (.v (.int (i + j))) := rfl
theorem i_subI {i j : Int} : iopM .sub (.v (.int i)) (.v (.int j)) = M.ret (.v (.int (i - j))) := rfl
theorem i_mulI {i j : Int} : iopM .mul (.v (.int i)) (.v (.int j)) = if mulOk i j then M.ret (.v (.int (i * j))) else M.fail := rfl
theorem n_I {i : Int} : negM (.v (.int i)) = M.ret (.v (.int (-i))) := rfl
theorem c_lt {i j : Int} : cmpM .lt (.v (.int i)) (.v (.int j)) = M.ret (.v (.bl (decide (i < j)))) := rfl
theorem c_le {i j : Int} : cmpM .le (.v (.int i)) (.v (.int j)) = M.ret (.v (.bl (decide (i ≤ j)))) := rfl
theorem c_gt {i j : Int} : cmpM .gt (.v (.int i)) (.v (.int j)) = M.ret (.v (.bl (decide (j < i)))) := rfl
theorem c_ge {i j : Int} : cmpM .ge (.v (.int i)) (.v (.int j)) = M.ret (.v (.bl (decide (j ≤ i)))) := rfl
theorem c_eqI {i j : Int} : cmpM .eq (.v (.int i)) (.v (.int j)) = M.ret (.v (.bl (i == j))) := rfl
theorem c_neI {i j : Int} : cmpM .ne (.v (.int i)) (.v (.int j)) = M.ret (.v (.bl (!(i == j)))) := rfl
theorem bl_len {x : D} : bltM .len [x] = M.bind (itemsOf x) fun ds => M.ret (.v (.int ds.length)) := rfl
theorem bl_int {i : Int} : bltM .int [.v (.int i)] = M.ret (.v (.int i)) := rfl
theorem bl_abs {i : Int} : bltM .abs [.v (.int i)] = M.ret (.v (.int (if i < 0 then -i else i))) := rfl
theorem bl_divmod {i j : Int} : bltM .divmod [.v (.int i), .v (.int j)] = if decide (0 < j) && decide (j < 1073741824) then M.ret (.tup [.v (.int (i / j)), .v (.int (i % j))]) else M.fail := rfl
theorem bl_list {x : D} : bltM .list [x] = M.bind (itemsOf x) fun ds => newO (.lst ds) := rfl
theorem bl_tuple {x : D} : bltM .tuple [x] = M.bind (itemsOf x) fun ds => M.ret (.tup ds) := rfl
theorem bl_min {i j : Int} : bltM .min [.v (.int i), .v (.int j)] = M.ret (.v (.int (if j < i then j else i))) := rfl
theorem bl_max {i j : Int} : bltM .max [.v (.int i), .v (.int j)] = M.ret (.v (.int (if j > i then j else i))) := rfl
theorem idx_I {x : D} {i : Int} : idxM x (.v (.int i)) = M.bind (itemsOf x) fun ds => M.opt (atN ds.length i) fun j => M.opt ds[j]? M.ret := rfl
theorem set_L {n : Nat} {k : Int} {v : D} : setItemM (.loc n) (.v (.int k)) v = M.bind (getO n) fun ob => M.opt (lstOf ob) fun ds => M.opt (atN ds.length k) fun j => setO n (.lst (ds.set j v)) := rfl
theorem put_1 {i : Nat} {d : D} {env : Env} : putT [i] d env = M.ret (env.set i (some d)) := rfl
theorem atN_nat {n : Nat} {i : Nat} (h : i < n) : atN n (i : Int) = some i := by
  unfold atN
  rw [if_pos (by omega), if_pos (by omega)]
  simp
theorem atN_pos {n : Nat} {i : Int} (h0 : 0 ≤ i) (h : i < n) : atN n i = some i.toNat := by
  unfold atN
  rw [if_pos h0, if_pos h]
theorem isi_int {i : Int} {t : Str} : isiM (.v (.int i)) t = M.ret (.v (.bl (t == "int"))) := rfl
theorem rng_1 {j : Int} : rngAs 1 [.v (.int j)] = M.when (small62 j) (M.ret (Src.rng 0 1 j.toNat)) := rfl
theorem rng_2 {i j : Int} : rngAs 2 [.v (.int i), .v (.int j)] = M.when (small62 i && small62 j) (M.ret (Src.rng i 1 (j - i).toNat)) := rfl
theorem small_ok {i : Int} (h0 : -1000000 ≤ i) (h : i ≤ 1000000) : small62 i = true := by
  unfold small62
  simp only [Bool.and_eq_true, decide_eq_true_eq]
  omega
theorem rng_3 {i j : Int} (h0 : -1000000 ≤ i) (h : i ≤ 1000000) (h1 : -1000000 ≤ j) (h2 : j ≤ 1000000) : rngAs 3 [.v (.int i), .v (.int j), .v (.int (-1))] = M.ret (Src.rng i (-1) (i - j).toNat) := by
  obtain ⟨r1, r2, r3, r4⟩ := RgC.neg (i := i) (j := j) (by omega) (by omega) (by omega) (by omega)
  show M.when (rng3 i j (-1)) (M.ret (Src.rng i (-1) (Builtin.Range.rangeSize i j (-1)).toNat)) = _
  have hc : rng3 i j (-1) = true := by
    unfold rng3
    rw [r3, r4]
    simp
  rw [hc, r4]
  show M.ret (Src.rng i (-1) (((i - j).toNat : Int).toNat)) = _
  rw [Int.toNat_natCast]
theorem sizeOk_of {n : Nat} (h : n ≤ 1000000) : sizeOk n = true := by
  unfold sizeOk
  exact decide_eq_true (by rw [sizeLine_eq]; omega)
end MP

set_option Elab.async false
set_option linter.all false
set_option maxRecDepth 100000
/-! M16: lists of ints in the store; slots. -/
namespace MP
open PySem L2
theorem we_nil {env : Env} : wipeE env [] = env := rfl
theorem we_cons {env : Env} {v : Nat} {vs : List Nat} : wipeE env (v :: vs) = (wipeE env vs).set v none := rfl
theorem ln_nil : IEs.nil.len = 0 := rfl
theorem ln_cons {e : IE} {es : IEs} : (IEs.cons e es).len = es.len + 1 := rfl
theorem gs_0 {d : D} {e : Env} : getS (some d :: e) 0 = some d := rfl
theorem gs_s {x : Option D} {e : Env} {n : Nat} : getS (x :: e) (n + 1) = getS e n := rfl
theorem pa_nil {env : Env} : putAll [] [] env = some env := rfl
theorem pa_cons {i : Nat} {is : List Nat} {d : D} {ds : List D} {env : Env} : putAll (i :: is) (d :: ds) env = putAll is ds (env.set i (some d)) := rfl
theorem st_eq {n : Nat} {ds : List D} : startE n ds = ds.map some ++ List.replicate (n - ds.length) none := rfl
theorem sz_0 : sizeOk 0 = true := sizeOk_of (by omega)
theorem sz_1 : sizeOk 1 = true := sizeOk_of (by omega)
theorem sz_2 : sizeOk 2 = true := sizeOk_of (by omega)
theorem sz_3 : sizeOk 3 = true := sizeOk_of (by omega)
theorem push_old {st : Store} {o u : O} {n : Nat} (h : st[n]? = some u) : (st ++ [o])[n]? = some u := Ext.push st o n u h
theorem Ext.set {st st' : Store} {m : Nat} {o : O} (h : Ext st st') (hm : st.length ≤ m) : Ext st (st'.set m o) := fun n u e => by
  have := lt_of_get e
  rw [List.getElem?_set_ne (by omega)]
  exact h n u e
theorem Ext.len {st st' : Store} (h : Ext st st') : st.length ≤ st'.length := by
  by_cases e : st.length = 0
  · omega
  · have h1 : st.length - 1 < st.length := by omega
    have := lt_of_get (h _ _ (List.getElem?_eq_getElem h1))
    omega
theorem get_set {st : Store} {m : Nat} {o u : O} (h : st[m]? = some u) : (st.set m o)[m]? = some o := List.getElem?_set_self (lt_of_get h)
theorem at_rng {lo step : Int} {n i : Nat} {st : Store} (h : i < n) : (Src.rng lo step n).at i st = some (some (.v (.int (lo + (i : Int) * step)))) := if_pos h
theorem rng_end {lo step : Int} {n : Nat} {st : Store} : (Src.rng lo step n).at n st = some none := if_neg (Nat.lt_irrefl n)
theorem wp_rng1 {st : Store} {j : Int} {Q : Src → Store → Prop} (h : -1000000 ≤ j) (h' : j ≤ 1000000) : Wp (rngAs 1 [.v (.int j)]) st Q ↔ Q (Src.rng 0 1 j.toNat) st := by
  rw [rng_1, wp_when, wp_ret]
  exact ⟨fun z => z.2, fun z => ⟨small_ok h h', z⟩⟩
theorem wp_rng2 {st : Store} {i j : Int} {Q : Src → Store → Prop} (h0 : -1000000 ≤ i) (h1 : i ≤ 1000000) (h : -1000000 ≤ j) (h' : j ≤ 1000000) : Wp (rngAs 2 [.v (.int i), .v (.int j)]) st Q ↔ Q (Src.rng i 1 (j - i).toNat) st := by
  rw [rng_2, wp_when, wp_ret, small_ok h0 h1, small_ok h h']
  exact ⟨fun z => z.2, fun z => ⟨rfl, z⟩⟩
theorem wp_rng3 {st : Store} {i j : Int} {Q : Src → Store → Prop} (h0 : -1000000 ≤ i) (h1 : i ≤ 1000000) (h : -1000000 ≤ j) (h' : j ≤ 1000000) : Wp (rngAs 3 [.v (.int i), .v (.int j), .v (.int (-1))]) st Q ↔ Q (Src.rng i (-1) (i - j).toNat) st := by
  rw [rng_3 h0 h1 h h', wp_ret]
theorem wp_mulI {st : Store} {i j : Int} {Q : D → Store → Prop} (h : -1000000000000000000 ≤ i) (h' : i ≤ 1000000000000000000) : Wp (binM .mul (.v (.int i)) (.v (.int j))) st Q ↔ Q (.v (.int (i * j))) st := by
  rw [b_mulI, if_pos (by unfold mulOk; rw [decide_eq_true (by omega : i.natAbs < 2 ^ 64)]; rfl), wp_ret]
theorem wp_mulJ {st : Store} {i j : Int} {Q : D → Store → Prop} (h : -1000000000000000000 ≤ j) (h' : j ≤ 1000000000000000000) : Wp (binM .mul (.v (.int i)) (.v (.int j))) st Q ↔ Q (.v (.int (i * j))) st := by
  rw [b_mulI, if_pos (by unfold mulOk; rw [decide_eq_true (by omega : j.natAbs < 2 ^ 64)]; simp), wp_ret]
theorem wp_modI {st : Store} {i j : Int} {Q : D → Store → Prop} (h : 0 < j) : Wp (binM .mod (.v (.int i)) (.v (.int j))) st Q ↔ Q (.v (.int (i % j))) st := by
  rw [b_modI, if_pos h, wp_ret]
theorem wp_divI {st : Store} {i j : Int} {Q : D → Store → Prop} (h : 0 < j) (h' : j < 1073741824) : Wp (binM .fdiv (.v (.int i)) (.v (.int j))) st Q ↔ Q (.v (.int (i / j))) st := by
  rw [b_divI, decide_eq_true h, decide_eq_true h']
  exact wp_ret
theorem below_line {n : Nat} (h : n ≤ 1000000) : n < sizeLine := by rw [sizeLine_eq]; omega
theorem turns_ok {n : Nat} (h : n ≤ 1000000) : n < turns := by unfold turns; omega
def il (xs : List Int) : List D := xs.map D.int
theorem il_length (xs : List Int) : (il xs).length = xs.length := List.length_map ..
theorem il_set (xs : List Int) (j : Nat) (v : Int) : (il xs).set j (.v (.int v)) = il (xs.set j v) := by
  unfold il
  rw [List.map_set]
theorem il_append (xs ys : List Int) : il xs ++ il ys = il (xs ++ ys) := by
  unfold il
  rw [List.map_append]
theorem il_get {xs : List Int} {j : Nat} (h : j < xs.length) : (il xs)[j]? = some (.v (.int (xs.getD j 0))) := by
  unfold il
  rw [List.getElem?_map, List.getElem?_eq_getElem h, List.getD_eq_getElem?_getD, List.getElem?_eq_getElem h]
  rfl
theorem il_ints : ∀ xs : List Int, intsOf (il xs) = some xs
  | [] => rfl
  | x :: xs => by
    show (match intsOf (il xs) with | some is => some (x :: is) | none => none) = _
    rw [il_ints xs]
theorem il_cons (x : Int) (xs : List Int) : il (x :: xs) = .v (.int x) :: il xs := rfl
theorem il_nil : il [] = [] := rfl
theorem il_take (xs : List Int) (n : Nat) : (il xs).take n = il (xs.take n) := by
  unfold il
  rw [List.map_take]
theorem il_rev (xs : List Int) : (il xs).reverse = il xs.reverse := by
  unfold il
  rw [List.map_reverse]
section
variable {st : Store} {n : Nat} {xs : List Int}
theorem wp_idx {x : D} {ds : List D} {k : Int} {j : Nat} {d : D} {Q : D → Store → Prop} (hi : ∀ {Q : List D → Store → Prop}, Wp (itemsOf x) st Q ↔ Q ds st) (hk : k = (j : Int)) (hd : ds[j]? = some d) : Wp (idxM x (.v (.int k))) st Q ↔ Q d st := by
  subst hk
  rw [idx_I, wp_bind, hi, wp_opt (atN_nat (lt_of_get hd)), wp_opt hd, wp_ret]
theorem wp_idxL {k : Int} {j : Nat} {Q : D → Store → Prop} (h : st[n]? = some (.lst (il xs))) (hk : k = (j : Int)) (hj : j < xs.length) : Wp (idxM (.loc n) (.v (.int k))) st Q ↔ Q (.v (.int (xs.getD j 0))) st :=
  wp_idx (wp_itemsL h) hk (il_get hj)
theorem wp_setL {k v : Int} {j : Nat} {Q : Unit → Store → Prop} (h : st[n]? = some (.lst (il xs))) (hk : k = (j : Int)) (hj : j < xs.length) : Wp (setItemM (.loc n) (.v (.int k)) (.v (.int v))) st Q ↔ Q () (st.set n (.lst (il (xs.set j v)))) := by
  subst hk
  rw [set_L, wp_bind, wp_getO h, wp_opt (show lstOf (O.lst (il xs)) = some (il xs) from rfl), wp_opt (atN_nat (by rw [il_length]; exact hj)), wp_setO (lt_of_get h), il_set]
theorem wp_lenL {Q : D → Store → Prop} (h : st[n]? = some (.lst (il xs))) : Wp (bltM .len [.loc n]) st Q ↔ Q (.v (.int (xs.length : Int))) st := by
  rw [bl_len, wp_bind, wp_itemsL h, wp_ret, il_length]
theorem wp_lenT {Q : D → Store → Prop} : Wp (bltM .len [.tup (il xs)]) st Q ↔ Q (.v (.int (xs.length : Int))) st := by
  rw [bl_len, wp_bind, wp_itemsT, wp_ret, il_length]
theorem wp_lenD {ds : List D} {Q : D → Store → Prop} (h : st[n]? = some (.lst ds)) : Wp (bltM .len [.loc n]) st Q ↔ Q (.v (.int (ds.length : Int))) st := by
  rw [bl_len, wp_bind, wp_itemsL h, wp_ret]
theorem wp_listL {ds : List D} {Q : D → Store → Prop} (h : st[n]? = some (.lst ds)) : Wp (bltM .list [.loc n]) st Q ↔ Q (.loc st.length) (st ++ [.lst ds]) := by
  rw [bl_list, wp_bind, wp_itemsL h, wp_newO]
theorem wp_tupleL {ds : List D} {Q : D → Store → Prop} (h : st[n]? = some (.lst ds)) : Wp (bltM .tuple [.loc n]) st Q ↔ Q (.tup ds) st := by
  rw [bl_tuple, wp_bind, wp_itemsL h, wp_ret]
theorem wp_min {i j : Nat} {Q : D → Store → Prop} : Wp (bltM .min [.v (.int i), .v (.int j)]) st Q ↔ Q (.v (.int (min i j : Nat))) st := by
  rw [bl_min, wp_ret, show (if (j : Int) < (i : Int) then (j : Int) else (i : Int)) = ((min i j : Nat) : Int) by split <;> omega]
theorem wp_maxL {m : Int} {Q : D → Store → Prop} (h : st[n]? = some (.lst (il xs))) (hm : xs.max? = some m) : Wp (bltM .max [.loc n]) st Q ↔ Q (.v (.int m)) st := by
  show Wp (M.bind (itemsOf (.loc n)) fun ds => M.when (isLoc (.loc n)) (M.opt (intsOf ds) fun is => M.opt is.max? fun m => M.ret (.int m))) st Q ↔ _
  rw [wp_bind, wp_itemsL h, wp_when, wp_opt (il_ints xs), wp_opt hm, wp_ret]
  exact ⟨fun z => z.2, fun z => ⟨rfl, z⟩⟩
theorem wp_addTT {xs ys : List D} {Q : D → Store → Prop} (h : xs.length + ys.length ≤ 1000000) : Wp (binM .add (.tup xs) (.tup ys)) st Q ↔ Q (.tup (xs ++ ys)) st := by
  rw [b_addT, if_pos (sizeOk_of h), wp_ret]
theorem wp_sumT {Q : D → Store → Prop} : Wp (bltM .sum [.tup (il xs)]) st Q ↔ Q (.v (.int xs.sum)) st := by
  show Wp (M.bind (itemsOf (.tup (il xs))) fun ds => M.opt (intsOf ds) fun is => M.ret (.int is.sum)) st Q ↔ _
  rw [wp_bind, wp_itemsT, wp_opt (il_ints xs), wp_ret]
theorem wp_sumL {Q : D → Store → Prop} (h : st[n]? = some (.lst (il xs))) : Wp (bltM .sum [.loc n]) st Q ↔ Q (.v (.int xs.sum)) st := by
  show Wp (M.bind (itemsOf (.loc n)) fun ds => M.opt (intsOf ds) fun is => M.ret (.int is.sum)) st Q ↔ _
  rw [wp_bind, wp_itemsL h, wp_opt (il_ints xs), wp_ret]
theorem wp_addL {m : Nat} {ds es : List D} {Q : D → Store → Prop} (h : st[n]? = some (.lst ds)) (i : st[m]? = some (.lst es)) (hz : ds.length + es.length ≤ 1000000) : Wp (binM .add (.loc n) (.loc m)) st Q ↔ Q (.loc st.length) (st ++ [.lst (ds ++ es)]) := by
  show Wp (M.bind (getO n) fun oa => M.bind (getO m) fun ob => match oa, ob with
    | .lst xs, .lst ys => if sizeOk (xs.length + ys.length) then newO (.lst (xs ++ ys)) else M.fail
    | _, _ => M.fail) st Q ↔ _
  rw [wp_bind, wp_getO h, wp_bind, wp_getO i]
  show Wp (if sizeOk (ds.length + es.length) then newO (.lst (ds ++ es)) else M.fail) st Q ↔ _
  rw [if_pos (sizeOk_of hz), wp_newO]
theorem wp_mulL {x : D} {k : Int} {Q : D → Store → Prop} (h : st[n]? = some (.lst [x])) (h0 : 0 ≤ k) (hz : k ≤ 1000000) : Wp (binM .mul (.loc n) (.v (.int k))) st Q ↔ Q (.loc st.length) (st ++ [.lst (List.replicate k.toNat x)]) := by
  show Wp (M.bind (getO n) fun oa => match oa with
    | .lst xs => if decide (-(2 ^ 63) ≤ k) && decide (k < 2 ^ 63) && sizeOk (xs.length * k.toNat) then newO (.lst (List.replicate k.toNat xs).flatten) else M.fail
    | _ => M.fail) st Q ↔ _
  rw [wp_bind, wp_getO h]
  show Wp (if decide (-(2 ^ 63) ≤ k) && decide (k < 2 ^ 63) && sizeOk ([x].length * k.toNat) then newO (.lst (List.replicate k.toNat [x]).flatten) else M.fail) st Q ↔ _
  rw [sizeOk_of (by simp only [List.length_cons, List.length_nil]; omega), decide_eq_true (by omega : -(2 ^ 63) ≤ k), decide_eq_true (by omega : k < 2 ^ 63), List.flatten_replicate_singleton]
  simp only [Bool.and_self, if_true, wp_newO]
theorem wp_cutL {ds : List D} {lo hi : Option Int} {Q : D → Store → Prop} (h : st[n]? = some (.lst ds)) : Wp (slcM (.loc n) lo hi) st Q ↔ Q (.loc st.length) (st ++ [.lst (cutD ds lo hi)]) := by
  show Wp (M.bind (itemsOf (.loc n)) fun ds => newO (.lst (cutD ds lo hi))) st Q ↔ _
  rw [wp_bind, wp_itemsL h, wp_newO]
theorem cut_to {ds : List D} {k : Nat} : cutD ds none (some (k : Int)) = ds.take k := by
  unfold cutD
  rw [HT.sIx_none, HT.sIx_nat, List.drop_zero, Nat.sub_zero]
  by_cases h : k ≤ ds.length
  · rw [Nat.min_eq_left h]
  · rw [Nat.min_eq_right (by omega), List.take_of_length_le (Nat.le_refl _), List.take_of_length_le (by omega)]
theorem wp_countL {k : Int} {Q : D → Store → Prop} (h : st[n]? = some (.lst (il xs))) : Wp (methM .count (.loc n) [.v (.int k)]) st Q ↔ Q (.v (.int (xs.count k : Nat))) st := by
  show Wp (M.bind (itemsOf (.loc n)) fun ds => M.opt (intsOf ds) fun is => M.ret (.int (is.count k : Nat))) st Q ↔ _
  rw [wp_bind, wp_itemsL h, wp_opt (il_ints xs), wp_ret]
end
theorem wp_i0 {w : Nat} {st : Store} {a b c : Int} {Q : D → Store → Prop} (h : st[w]? = some (.lst (il [a, b, c]))) : Wp (idxM (.loc w) (.v (.int 0))) st Q ↔ Q (.v (.int a)) st := wp_idxL h (k := 0) (j := 0) rfl (show 0 < 3 by omega)
theorem wp_i1 {w : Nat} {st : Store} {a b c : Int} {Q : D → Store → Prop} (h : st[w]? = some (.lst (il [a, b, c]))) : Wp (idxM (.loc w) (.v (.int 1))) st Q ↔ Q (.v (.int b)) st := wp_idxL h (k := 1) (j := 1) rfl (show 1 < 3 by omega)
theorem wp_i2 {w : Nat} {st : Store} {a b c : Int} {Q : D → Store → Prop} (h : st[w]? = some (.lst (il [a, b, c]))) : Wp (idxM (.loc w) (.v (.int 2))) st Q ↔ Q (.v (.int c)) st := wp_idxL h (k := 2) (j := 2) rfl (show 2 < 3 by omega)
theorem wp_s0 {w : Nat} {st : Store} {a b c v : Int} {Q : Unit → Store → Prop} (h : st[w]? = some (.lst (il [a, b, c]))) : Wp (setItemM (.loc w) (.v (.int 0)) (.v (.int v))) st Q ↔ Q () (st.set w (.lst (il [v, b, c]))) := wp_setL h (k := 0) (j := 0) rfl (show 0 < 3 by omega)
theorem wp_s1 {w : Nat} {st : Store} {a b c v : Int} {Q : Unit → Store → Prop} (h : st[w]? = some (.lst (il [a, b, c]))) : Wp (setItemM (.loc w) (.v (.int 1)) (.v (.int v))) st Q ↔ Q () (st.set w (.lst (il [a, v, c]))) := wp_setL h (k := 1) (j := 1) rfl (show 1 < 3 by omega)
theorem wp_s2 {w : Nat} {st : Store} {a b c v : Int} {Q : Unit → Store → Prop} (h : st[w]? = some (.lst (il [a, b, c]))) : Wp (setItemM (.loc w) (.v (.int 2)) (.v (.int v))) st Q ↔ Q () (st.set w (.lst (il [a, b, v]))) := wp_setL h (k := 2) (j := 2) rfl (show 2 < 3 by omega)
theorem ExtB.refl (w : Nat) (st : Store) : ExtB w st st := fun _ _ _ h => h
theorem ExtB.set {w : Nat} {st st' : Store} {o : O} (h : ExtB w st st') : ExtB w st (st'.set w o) := fun n u ne e => by
  rw [List.getElem?_set_ne (fun z => ne z.symm)]
  exact h n u ne e
theorem ite_t {c : Bool} {a b : Prop} (h : c = true) (x : a) : (if c = true then a else b) := by rw [if_pos h]; exact x
theorem ite_f {c : Bool} {a b : Prop} (h : c = false) (x : b) : (if c = true then a else b) := by rw [if_neg (by rw [h]; decide)]; exact x
theorem wp_cutR {st : Store} {ds : List D} {lo hi : Option Int} {Q : D → Store → Prop} : Wp (slcM (.rl ds) lo hi) st Q ↔ Q (.loc st.length) (st ++ [.lst (cutD ds lo hi)]) := wp_newO
theorem wp_idxR {st : Store} {xs : List Int} {k : Int} {j : Nat} {Q : D → Store → Prop} (hk : k = (j : Int)) (hj : j < xs.length) : Wp (idxM (.rl (il xs)) (.v (.int k))) st Q ↔ Q (.v (.int (xs.getD j 0))) st :=
  wp_idx wp_itemsR hk (il_get hj)
theorem wp_lenR {st : Store} {xs : List Int} {Q : D → Store → Prop} : Wp (bltM .len [.rl (il xs)]) st Q ↔ Q (.v (.int (xs.length : Int))) st := by
  rw [bl_len, wp_bind, wp_itemsR, wp_ret, il_length]
theorem wp_powI {st : Store} {i j : Int} {Q : D → Store → Prop} (h : 0 ≤ j) (h' : j ≤ 1000000) (hi : -1000000 ≤ i) (hi' : i ≤ 1000000) : Wp (binM .pow (.v (.int i)) (.v (.int j))) st Q ↔ Q (.v (.int (i ^ j.toNat))) st := by
  rw [b_powI, if_pos (by rw [decide_eq_true h, decide_eq_true h', decide_eq_true (by omega : i.natAbs < 2 ^ 64)]; rfl), wp_ret]
theorem at_loc {n i : Nat} {st : Store} {ds : List D} {d : D} (h : st[n]? = some (.lst ds)) (hd : ds[i]? = some d) : (Src.loc n).at i st = some (some d) := by
  show (match st[n]? with | some (.lst ds) => some ds[i]? | _ => none) = _
  rw [h, ← hd]
theorem loc_end {n i : Nat} {st : Store} {ds : List D} (h : st[n]? = some (.lst ds)) (hd : ds.length ≤ i) : (Src.loc n).at i st = some none := by
  show (match st[n]? with | some (.lst ds) => some ds[i]? | _ => none) = _
  rw [h, ← List.getElem?_eq_none hd]
theorem io_I {i : Int} : intOf (.v (.int i)) = some i := rfl
/-- a comprehension that makes what f says -/
theorem wp_lcD {src : Src} {st0 : Store} {turn : D → M (Option D)} {Q : Unit → Store → Prop} (n : Nat) (f : Nat → D) (hn : n ≤ 1000000)
    (hs : ∀ j st, Ext st0 st → j < n → ∃ d, src.at j st = some (some d) ∧ ∀ R : Option D → Store → Prop, (∀ st', Ext st st' → R (some (f j)) st') → Wp (turn d) st R)
    (he : ∀ st, Ext st0 st → src.at n st = some none)
    (q : ∀ st', Ext st0 st' → st'[st0.length]? = some (.lst ((List.range n).map f)) → Q () st') : Wp (lcLoop src st0.length turn turns 0) (st0 ++ [.lst []]) Q := by
  refine wp_lc n (fun j s => Ext st0 s ∧ s[st0.length]? = some (.lst ((List.range j).map f))) ⟨Ext.push _ _, get_push _ _⟩ (turns_ok hn) ?_ ?_
  · rintro j s hj ⟨e1, e2⟩
    obtain ⟨d, h1, h2⟩ := hs j s e1 hj
    refine ⟨d, h1, h2 _ fun s' e3 => ?_⟩
    refine ⟨_, e3 _ _ e2, below_line (by rw [List.length_map, List.length_range]; omega), (e1.trans e3).set (Nat.le_refl _), ?_⟩
    rw [get_set (e3 _ _ e2), List.range_succ, List.map_append]
    rfl
  · rintro s ⟨e1, e2⟩
    exact ⟨he s e1, q s e1 e2⟩
/-- a comprehension with a test -/
theorem wp_lcF {src : Src} {st0 : Store} {turn : D → M (Option D)} {Q : Unit → Store → Prop} (n : Nat) (f : Nat → D) (p : Nat → Bool) (hn : n ≤ 1000000)
    (hs : ∀ j st, Ext st0 st → j < n → ∃ d, src.at j st = some (some d) ∧ ∀ R : Option D → Store → Prop, (∀ st', Ext st st' → R (if p j = true then some (f j) else none) st') → Wp (turn d) st R)
    (he : ∀ st, Ext st0 st → src.at n st = some none)
    (q : ∀ st', Ext st0 st' → st'[st0.length]? = some (.lst (((List.range n).filter p).map f)) → Q () st') : Wp (lcLoop src st0.length turn turns 0) (st0 ++ [.lst []]) Q := by
  refine wp_lc n (fun j s => Ext st0 s ∧ s[st0.length]? = some (.lst (((List.range j).filter p).map f))) ⟨Ext.push _ _, get_push _ _⟩ (turns_ok hn) ?_ ?_
  · rintro j s hj ⟨e1, e2⟩
    obtain ⟨d, h1, h2⟩ := hs j s e1 hj
    refine ⟨d, h1, h2 _ fun s' e3 => ?_⟩
    have e5 : (List.range (j + 1)).filter p = (List.range j).filter p ++ (if p j = true then [j] else []) := by
      rw [List.range_succ, List.filter_append]
      by_cases h : p j = true
      · rw [if_pos h, List.filter_cons_of_pos h]; rfl
      · rw [if_neg h, List.filter_cons_of_neg h]; rfl
    by_cases h : p j = true
    · rw [if_pos h] at e5 ⊢
      refine ⟨_, e3 _ _ e2, below_line ?_, (e1.trans e3).set (Nat.le_refl _), ?_⟩
      · rw [List.length_map]
        have := List.length_filter_le p (List.range j)
        rw [List.length_range] at this
        omega
      · rw [get_set (e3 _ _ e2), e5, List.map_append]
        rfl
    · rw [if_neg h] at e5 ⊢
      refine ⟨e1.trans e3, ?_⟩
      rw [e3 _ _ e2, e5, List.append_nil]
  · rintro s ⟨e1, e2⟩
    exact ⟨he s e1, q s e1 e2⟩
theorem il_range (f : Nat → Int) (n : Nat) : (List.range n).map (fun j => D.v (.int (f j))) = il ((List.range n).map f) := by
  unfold il
  rw [List.map_map]
  rfl
theorem range_up {β : Type} (f : Nat → β) (i : Nat) : (List.range (i + 1)).map f = (List.range i).map f ++ [f i] := by
  rw [List.range_succ, List.map_append]
  rfl
theorem il_snoc (xs : List Int) (v : Int) : il xs ++ [D.v (.int v)] = il (xs ++ [v]) := il_append xs [v]
theorem map_getD (xs : List Int) (f : Int → Int) : (List.range xs.length).map (fun j => f (xs.getD j 0)) = xs.map f := by
  refine List.ext_getElem (by simp) fun i h1 h2 => ?_
  have : i < xs.length := by simpa using h2
  simp [List.getD_eq_getElem?_getD, this]
theorem wp_appL {st : Store} {n : Nat} {ds : List D} {x : D} {Q : D → Store → Prop} (h : st[n]? = some (.lst ds)) (hz : ds.length < 1000000) : Wp (methM .append (.loc n) [x]) st Q ↔ Q .non (st.set n (.lst (ds ++ [x]))) := by
  show Wp (M.bind (getO n) fun ob => M.opt (lstOf ob) fun ds => M.when (decide (ds.length < sizeLine)) (M.bind (setO n (.lst (ds ++ [x]))) fun _ => M.ret .non)) st Q ↔ _
  rw [wp_bind, wp_getO h, wp_opt (show lstOf (O.lst ds) = some ds from rfl), wp_when, wp_bind, wp_setO (lt_of_get h), wp_ret]
  exact ⟨fun z => z.2, fun z => ⟨decide_eq_true (by rw [sizeLine_eq]; omega), z⟩⟩
theorem wp_idxD {st : Store} {n : Nat} {ds : List D} {k : Int} {j : Nat} {d : D} {Q : D → Store → Prop} (h : st[n]? = some (.lst ds)) (hk : k = (j : Int)) (hd : ds[j]? = some d) : Wp (idxM (.loc n) (.v (.int k))) st Q ↔ Q d st := wp_idx (wp_itemsL h) hk hd
theorem wp_idxLast {st : Store} {n : Nat} {ds : List D} {d : D} {Q : D → Store → Prop} (h : st[n]? = some (.lst ds)) (hd : ds[ds.length - 1]? = some d) : Wp (idxM (.loc n) (.v (.int (-1)))) st Q ↔ Q d st := by
  have hl := lt_of_get hd
  rw [idx_I, wp_bind, wp_itemsL h, wp_opt (show atN ds.length (-1) = some (ds.length - 1) by unfold atN; rw [if_neg (by omega), if_pos (by omega)]; congr 1; omega), wp_opt hd, wp_ret]
theorem get_set_ne {st : Store} {m a : Nat} {o u : O} (h : st[a]? = some u) (ne : m ≠ a) : (st.set m o)[a]? = some u := by
  rw [List.getElem?_set_ne ne]
  exact h
/-- a list of new lists: its items' places -/
structure LL (st : Store) (n : Nat) (f : Nat → List Int) (m : Nat) (as : List Nat) : Prop where
  at' : st[n]? = some (.lst (as.map D.loc))
  ln : as.length = m
  el : ∀ j a, as[j]? = some a → a ≠ n ∧ st[a]? = some (.lst (il (f j)))
theorem LL.ext {st st' : Store} {n m : Nat} {f : Nat → List Int} {as : List Nat} (h : LL st n f m as) (e : Ext st st') : LL st' n f m as :=
  ⟨e _ _ h.at', h.ln, fun j a z => ⟨(h.el j a z).1, e _ _ (h.el j a z).2⟩⟩
theorem LL.get {st : Store} {n m j : Nat} {f : Nat → List Int} {as : List Nat} (h : LL st n f m as) (hj : j < m) : ∃ a, (as.map D.loc)[j]? = some (.loc a) ∧ st[a]? = some (.lst (il (f j))) := by
  have hl : j < as.length := by rw [h.ln]; exact hj
  refine ⟨as[j], ?_, (h.el j _ (List.getElem?_eq_getElem hl)).2⟩
  rw [List.getElem?_map, List.getElem?_eq_getElem hl]
  rfl
theorem LL.push {st : Store} {n m a : Nat} {f : Nat → List Int} {as : List Nat} (h : LL st n f m as) (hne : a ≠ n) (ha : st[a]? = some (.lst (il (f m)))) : LL (st.set n (.lst (as.map D.loc ++ [.loc a]))) n f (m + 1) (as ++ [a]) := by
  refine ⟨?_, by rw [List.length_append, h.ln]; rfl, fun j b z => ?_⟩
  · rw [get_set h.at', List.map_append]
    rfl
  · by_cases hj : j < as.length
    · rw [List.getElem?_append_left hj] at z
      obtain ⟨h1, h2⟩ := h.el j b z
      exact ⟨h1, get_set_ne h2 (fun e => h1 e.symm)⟩
    · rw [List.getElem?_append_right (by omega)] at z
      have hj0 : j - as.length = 0 := by
        have := lt_of_get z
        simp only [List.length_cons, List.length_nil] at this
        omega
      rw [hj0] at z
      cases z
      have : j = m := by rw [← h.ln]; omega
      subst this
      exact ⟨hne, get_set_ne ha (fun e => hne e.symm)⟩
theorem wp_fn {Fs : List Fw} (hn : (Fs.map fun F => F.fn.name).Nodup) {F : Fw} (hF : F ∈ Fs) {k : Nat} {ds : List D} {st : Store} {Q : D → Store → Prop} (hl : ds.length = F.fn.ps.length) (h : Wp (F.fn.body.den (gam Fs k) (startE F.fn.slots.length ds)) st (RQ Q)) : Wp (gam Fs (k + 1) F.fn.name ds) st Q := by
  rw [gam_eq hn hF]
  exact wp_run hl h
/-! what a list of ints is as data -/
def pyInts (xs : List Int) : List PyData := xs.map PyData.int
theorem toPy_ints (k : Nat) (st : Store) : ∀ xs : List Int, (il xs).mapM (toPy (k + 1) st) = some (pyInts xs)
  | [] => rfl
  | x :: xs => by
    rw [il_cons, List.mapM_cons, toPy_ints k st xs]
    rfl
end MP

set_option Elab.async false
set_option linter.all false
set_option maxRecDepth 100000
/-! M17: texts of data, and data that are alike. -/
namespace MP
open PySem L2
theorem lt_of_piled (ts : List Str) : (listText ts).length ≤ piled ts + 2 := by
  cases ts with
  | nil => decide +kernel
  | cons t r =>
    have h := textFrom_length_pos r 1 (("[" : Str) ++ (if (0 : Nat) > 0 then ", " else "" : String) ++ t) (Nat.succ_pos 0)
    have hb : ((("[" : Str) ++ (if (0 : Nat) > 0 then ", " else "" : String) ++ t)).length = 1 + t.length := by
      rw [strLen_append, strLen_append]
      rfl
    have hc : (listText (t :: r)).length = (textFrom 1 (("[" : Str) ++ (if (0 : Nat) > 0 then ", " else "" : String) ++ t) r).length + 1 := by
      show (textFrom 0 "[" (t :: r) ++ "]").length = _
      rw [strLen_append]
      rfl
    rw [hc, h, hb, piled_cons]
    omega
theorem tt_of_piled (ts : List Str) : (tupleText ts).length ≤ piled ts + 3 := by
  have hc : (((if ts.length == 1 then ",)" else ")" : String) : Str)).length ≤ 2 := by
    by_cases h : (ts.length == 1) = true
    · rw [if_pos h]; decide +kernel
    · rw [if_neg h]; decide +kernel
  have ho : (("(" : Str)).length = 1 := rfl
  have hj : (Str.join ", " ts).length ≤ piled ts := by
    cases ts with
    | nil => decide +kernel
    | cons t r =>
      have := join_length_add (t :: r) (by simp)
      omega
  show (("(" : Str) ++ Str.join ", " ts ++ (if ts.length == 1 then ",)" else ")" : String)).length ≤ _
  rw [strLen_append, strLen_append]
  omega
theorem ok_iff (x : Str) : PyData.strOk x = true ↔ ∀ n ∈ x.cps.toList, n < 0x110000 := by
  unfold PyData.strOk
  rw [Array.all_eq_true']
  simp only [decide_eq_true_eq, Array.mem_toList_iff]
theorem ok_str (s : String) : PyData.strOk (Str.ofString s) = true := by
  rw [ok_iff, PyProof.Rows.signs_ofString]
  intro n hn
  obtain ⟨c, _, rfl⟩ := List.mem_map.mp hn
  have := c.valid
  rcases this with h | h
  · show c.val.toNat < _
    omega
  · exact h.2
theorem ok_app {x y : Str} (h : PyData.strOk x = true) (i : PyData.strOk y = true) : PyData.strOk (x ++ y) = true := by
  rw [ok_iff] at *
  intro n hn
  have e : (x ++ y).cps.toList = x.cps.toList ++ y.cps.toList := by
    show (x.cps ++ y.cps).toList = _
    simp
  rw [e] at hn
  rcases List.mem_append.mp hn with z | z
  · exact h n z
  · exact i n z
theorem ok_from : ∀ (ts : List Str) (k : Nat) (acc : Str), (∀ t ∈ ts, PyData.strOk t = true) → PyData.strOk acc = true → PyData.strOk (textFrom k acc ts) = true
  | [], _, _, _, h => h
  | t :: r, k, acc, h, ha => ok_from r (k + 1) _ (fun u hu => h u (List.mem_cons_of_mem _ hu)) (ok_app (ok_app ha (ok_str _)) (h t List.mem_cons_self))
theorem ok_listText {ts : List Str} (h : ∀ t ∈ ts, PyData.strOk t = true) : PyData.strOk (listText ts) = true := ok_app (ok_from ts 0 _ h (ok_str _)) (ok_str _)
theorem ok_join : ∀ (ts : List Str), (∀ t ∈ ts, PyData.strOk t = true) → PyData.strOk (Str.join ", " ts) = true
  | [], _ => by decide +kernel
  | [t], h => h t List.mem_cons_self
  | t :: u :: r, h => ok_app (ok_app (h t List.mem_cons_self) (ok_str _)) (ok_join (u :: r) fun v hv => h v (List.mem_cons_of_mem _ hv))
theorem ok_tupleText {ts : List Str} (h : ∀ t ∈ ts, PyData.strOk t = true) : PyData.strOk (tupleText ts) = true := ok_app (ok_app (ok_str _) (ok_join ts h)) (ok_str _)
/-- ints that are not too great -/
def Few (xs : List Int) : Prop := ∀ i ∈ xs, i.natAbs < 10 ^ 20
theorem Few.tail {x : Int} {xs : List Int} (h : Few (x :: xs)) : Few xs := fun i hi => h i (List.mem_cons_of_mem _ hi)
theorem Few.head {x : Int} {xs : List Int} (h : Few (x :: xs)) : x.natAbs < 10 ^ 20 := h x List.mem_cons_self
theorem py_cons (x : Int) (xs : List Int) : pyInts (x :: xs) = .int x :: pyInts xs := rfl
theorem piled_ints : ∀ {xs : List Int}, Few xs → piled (PyData.shownAll (pyInts xs)) ≤ 23 * xs.length
  | [], _ => Nat.le_refl 0
  | x :: xs, h => by
    have h1 := piled_ints h.tail
    have h2 := int_text_length_le10 (a := x) (k := 20) (by decide) h.head
    rw [py_cons]
    unfold PyData.shownAll
    rw [piled_cons, List.length_cons]
    have h3 : (PyData.shown (.int x)).length ≤ 21 := by
      unfold PyData.shown
      rw [ofString_length]
      exact h2
    omega
theorem ok_ints : ∀ xs : List Int, ∀ t ∈ PyData.shownAll (pyInts xs), PyData.strOk t = true
  | [], t, h => by
    simp [pyInts, PyData.shownAll] at h
  | x :: xs, t, h => by
    rw [py_cons] at h
    unfold PyData.shownAll at h
    rcases List.mem_cons.mp h with rfl | h
    · unfold PyData.shown
      exact ok_str _
    · exact ok_ints xs t h
theorem showable_ints : ∀ {xs : List Int}, Few xs → PyData.showableAll (pyInts xs) = true
  | [], _ => by simp [pyInts, PyData.showableAll]
  | x :: xs, h => by
    rw [py_cons]
    unfold PyData.showableAll
    rw [showable_ints h.tail]
    unfold PyData.showable
    have h1 := h.head
    rw [Bool.and_true, decide_eq_true_eq]
    by_cases e : x.natAbs = 0
    · rw [e]; decide
    · rw [Nat.log2_lt e]
      exact Nat.lt_trans h1 (by decide +kernel)
theorem noDict_ints : ∀ xs : List Int, PyData.hasDictAll (pyInts xs) = false
  | [] => by simp [pyInts, PyData.hasDictAll]
  | x :: xs => by
    rw [py_cons]
    unfold PyData.hasDictAll PyData.hasDict
    rw [noDict_ints xs]
    rfl
theorem depth_ints : ∀ xs : List Int, PyData.depthAll (pyInts xs) = 0
  | [] => by simp [pyInts, PyData.depthAll]
  | x :: xs => by
    rw [py_cons]
    unfold PyData.depthAll PyData.depth
    rw [depth_ints xs]
    rfl
theorem lay_ints : ∀ xs : List Int, PyData.canLayAll0 (pyInts xs) = true
  | [] => by simp [pyInts, PyData.canLayAll0]
  | x :: xs => by
    rw [py_cons]
    unfold PyData.canLayAll0 PyData.canLay0
    rw [lay_ints xs]
    rfl
theorem eqv_ints : ∀ xs : List Int, PyData.eqvAll (pyInts xs) (pyInts xs) = true
  | [] => by simp [pyInts, PyData.eqvAll]
  | x :: xs => by
    rw [py_cons]
    unfold PyData.eqvAll PyData.eqv
    rw [eqv_ints xs]
    simp
/-- a tuple of ints as data -/
def pt (xs : List Int) : PyData := .tuple (pyInts xs)
theorem toPy_pt (k : Nat) (st : Store) (xs : List Int) : toPy (k + 2) st (.tup (il xs)) = some (pt xs) := by
  show (match (il xs).mapM (toPy (k + 1) st) with | some ps => some (PyData.tuple ps) | none => none) = _
  rw [toPy_ints]
  rfl
theorem pt_depth (xs : List Int) : (pt xs).depth ≤ 7 := by
  unfold pt PyData.depth
  rw [depth_ints]
  omega
structure Txt (p : PyData) (n : Nat) : Prop where
  sh : p.showable = true
  ln : p.shown.length ≤ n
  nd : p.hasDict = false
  dp : p.depth ≤ 8
  ok : PyData.strOk p.shown = true
theorem Txt.ints {xs : List Int} (h : Few xs) : Txt (pt xs) (23 * xs.length + 3) := by
  constructor
  · unfold pt PyData.showable
    exact showable_ints h
  · unfold pt PyData.shown
    have h1 := tt_of_piled (PyData.shownAll (pyInts xs))
    have h2 := piled_ints h
    omega
  · unfold pt PyData.hasDict
    exact noDict_ints xs
  · unfold pt PyData.depth
    rw [depth_ints]
    omega
  · unfold pt PyData.shown
    exact ok_tupleText (ok_ints xs)
theorem Txt.two {p q : PyData} {n m : Nat} (h : Txt p n) (i : Txt q m) (hp : p.depth ≤ 7) (hq : q.depth ≤ 7) : Txt (.list [p, q]) (n + m + 6) := by
  constructor
  · simp [PyData.showable, PyData.showableAll, h.sh, i.sh]
  · have h1 := lt_of_piled [p.shown, q.shown]
    simp only [piled_cons, piled_nil] at h1
    have h2 := h.ln
    have h3 := i.ln
    simp only [PyData.shown, PyData.shownAll]
    omega
  · simp [PyData.hasDict, PyData.hasDictAll, h.nd, i.nd]
  · simp only [PyData.depth, PyData.depthAll]
    omega
  · simp only [PyData.shown, PyData.shownAll]
    refine ok_listText fun t ht => ?_
    simp only [List.mem_cons, List.not_mem_nil, or_false] at ht
    rcases ht with rfl | rfl
    · exact h.ok
    · exact i.ok
section
variable {st : Store} {x y : D} {p : PyData} {n : Nat}
theorem wp_pyOf {Q : PyData → Store → Prop} (h : toPy 9 st x = some p) : Wp (pyOf x) st Q ↔ Q p st := by
  have e : pyOf x st = some (p, st) := by
    show (match toPy 9 st x with | some p => some (p, st) | none => none) = _
    rw [h]
  exact ⟨fun ⟨a, s, e', q⟩ => (by rw [e] at e'; cases e'; exact q), fun q => ⟨_, _, e, q⟩⟩
theorem wp_repr {Q : D → Store → Prop} (h : toPy 9 st x = some p) (t : Txt p n) (hn : n ≤ 1000000) : Wp (bltM .repr [x]) st Q ↔ Q (.v (.str p.shown)) st := by
  show Wp (M.bind (pyOf x) fun p => if p.showable && sizeOk p.shown.length && !p.hasDict && decide (p.depth ≤ 64) then M.ret (.str p.shown) else M.fail) st Q ↔ _
  rw [wp_bind, wp_pyOf h, t.sh, sizeOk_of (Nat.le_trans t.ln hn), t.nd, decide_eq_true (show p.depth ≤ 64 from Nat.le_trans t.dp (by decide))]
  exact wp_ret
theorem wp_ne {Q : D → Store → Prop} (h : toPy 9 st x = some p) (h' : toPy 9 st y = some p) (hs : SeqAt.shaped p = true) (he : PyData.eqv p p = true) : Wp (cmpM .ne x y) st Q ↔ Q (.v (.bl false)) st := by
  show Wp (M.bind (M.bind (pyOf x) fun p => M.bind (pyOf y) fun q => if SeqAt.shaped p && SeqAt.shaped q then M.ret (PyData.eqv p q) else M.fail) fun b => M.ret (.bl (!b))) st Q ↔ _
  rw [wp_bind, wp_bind, wp_pyOf h, wp_bind, wp_pyOf h', hs, he, if_pos (show (true && true) = true from rfl), wp_ret, wp_ret]
  exact Iff.rfl
end
theorem wp_neStr {st : Store} {t : Str} {Q : D → Store → Prop} (h : PyData.strOk t = true) : Wp (cmpM .ne (.v (.str t)) (.v (.str t))) st Q ↔ Q (.v (.bl false)) st := by
  refine wp_ne (p := .str t) rfl rfl ?_ ?_
  · unfold SeqAt.shaped PyData.canLay0 PyData.depth
    rw [h]
    rfl
  · simp [PyData.eqv]
theorem wp_neTup {st : Store} {xs : List Int} {Q : D → Store → Prop} : Wp (cmpM .ne (.tup (il xs)) (.tup (il xs))) st Q ↔ Q (.v (.bl false)) st := by
  refine wp_ne (p := pt xs) (toPy_pt 7 st xs) (toPy_pt 7 st xs) ?_ ?_
  · unfold SeqAt.shaped pt PyData.canLay0 PyData.depth
    rw [lay_ints, depth_ints]
    rfl
  · unfold pt PyData.eqv
    exact eqv_ints xs
theorem Txt.twice {xs : List Int} (h : Few xs) : Txt (.list [pt xs, pt xs]) (46 * xs.length + 12) := by
  have := Txt.two (Txt.ints h) (Txt.ints h) (pt_depth xs) (pt_depth xs)
  exact ⟨this.sh, by have := this.ln; omega, this.nd, this.dp, this.ok⟩
theorem bools_true : ∀ xs : List Nat, boolsOf (xs.map fun _ => D.v (.bl true)) = some (xs.map fun _ => true)
  | [] => rfl
  | x :: xs => by
    show (match boolsOf (xs.map fun _ => D.v (.bl true)) with | some is => some (true :: is) | none => none) = _
    rw [bools_true xs]
    rfl
theorem wp_allT {st : Store} {n : Nat} {xs : List Nat} {Q : D → Store → Prop} (h : st[n]? = some (.lst (xs.map fun _ => D.v (.bl true)))) : Wp (bltM .all [.loc n]) st Q ↔ Q (.v (.bl true)) st := by
  show Wp (M.bind (itemsOf (.loc n)) fun ds => M.when (isLoc (.loc n)) (M.opt (boolsOf ds) fun bs => M.ret (.bl (bs.all id)))) st Q ↔ _
  rw [wp_bind, wp_itemsL h, wp_when, wp_opt (bools_true xs), wp_ret]
  have : (xs.map fun _ => true).all id = true := by simp
  rw [this]
  exact ⟨fun z => z.2, fun z => ⟨rfl, z⟩⟩
theorem wp_revT {st : Store} {xs : List Int} {Q : D → Store → Prop} : Wp (revM (.tup (il xs))) st Q ↔ Q (.tup (il xs.reverse)) st := by
  show Wp (M.ret (.tup (il xs).reverse)) st Q ↔ _
  rw [wp_ret, il_rev]
theorem toPy_two {st : Store} {n : Nat} {xs ys : List Int} (h : st[n]? = some (.lst [.tup (il xs), .tup (il ys)])) : toPy 9 st (.loc n) = some (.list [pt xs, pt ys]) := by
  show (match st[n]? with | some (.lst ds) => (match ds.mapM (toPy 8 st) with | some ps => some (PyData.list ps) | none => none) | _ => none) = _
  rw [h]
  show (match [D.tup (il xs), D.tup (il ys)].mapM (toPy 8 st) with | some ps => some (PyData.list ps) | none => none) = _
  simp only [List.mapM_cons, List.mapM_nil, toPy_pt 6]
  rfl
end MP

set_option Elab.async false
set_option linter.all false
set_option maxRecDepth 100000
/-! B22: counts in boxes, by tables and as lists of ints. -/
namespace BX
def addL : List Nat → List Nat → List Nat
  | [], ys => ys
  | x :: xs, [] => x :: xs
  | x :: xs, y :: ys => (x + y) :: addL xs ys
def zs : Nat → List Nat → List Nat
  | 0, xs => xs
  | n + 1, xs => 0 :: zs n xs
def rowN : Nat → List Nat → List (List Nat) → List (List Nat)
  | _, _, [] => []
  | g, cur, p :: ps => addL cur (zs g p) :: rowN (g + 1) (addL cur (zs g p)) ps
def row (prev : List (List Nat)) : List (List Nat) := match prev with
  | [] => []
  | _ :: ps => [1] :: rowN 1 [1] ps
def tab : Nat → List (List Nat) → List (List (List Nat))
  | 0, r => [r]
  | n + 1, r => r :: tab n (row r)
def T : List (List (List Nat)) := tab 20 (List.replicate 21 [1])
def P (l g : Nat) : List Nat := (T.getD l []).getD g []
def eqL : List Nat → List Nat → Bool
  | [], [] => true
  | x :: xs, y :: ys => Nat.beq x y && eqL xs ys
  | _, _ => false
def len : List Nat → Nat → Nat
  | [], n => n
  | _ :: xs, n => len xs (n + 1)
def sumL : List Nat → Nat
  | [] => 0
  | x :: xs => x + sumL xs
def ch (m : Nat) : Nat → Nat
  | 0 => 1
  | k + 1 => ch m k * (m - k) / (k + 1)
def good (l g : Nat) : Bool := eqL (P l g) (P g l) && (eqL (P l g) (P l g).reverse && (Nat.beq (P l g).length (l * g + 1) && (Nat.beq (sumL (P l g)) (ch (l + g) l) && (match g with
  | 0 => eqL (P l 0) [1]
  | h + 1 => eqL (addL (P l (h + 1)) (zs (l + h + 1) (P l h))) (addL (P l h) (zs (h + 1) (P l (h + 1))))))))
def goods (l : Nat) : Nat → Bool
  | 0 => true
  | n + 1 => good l n && goods l n
def allG : Nat → Bool
  | 0 => true
  | n + 1 => goods n 21 && allG n
theorem all_good : allG 21 = true := by decide +kernel
theorem eqL_eq : ∀ {xs ys : List Nat}, eqL xs ys = true → xs = ys
  | [], [], _ => rfl
  | x :: xs, y :: ys, h => by
    unfold eqL at h
    rw [Bool.and_eq_true] at h
    rw [Nat.eq_of_beq_eq_true h.1, eqL_eq h.2]
theorem goods_of {l : Nat} : ∀ {n : Nat}, goods l n = true → ∀ g, g < n → good l g = true
  | n + 1, h, g, hg => by
    unfold goods at h
    rw [Bool.and_eq_true] at h
    by_cases e : g = n
    · rw [e]; exact h.1
    · exact goods_of h.2 g (by omega)
theorem allG_of : ∀ {n : Nat}, allG n = true → ∀ l, l < n → goods l 21 = true
  | n + 1, h, l, hl => by
    unfold allG at h
    rw [Bool.and_eq_true] at h
    by_cases e : l = n
    · rw [e]; exact h.1
    · exact allG_of h.2 l (by omega)
theorem good_of {l g : Nat} (hl : l ≤ 20) (hg : g ≤ 20) : good l g = true := goods_of (allG_of all_good l (by omega)) g (by omega)
section
variable {l g : Nat}
theorem P_sym (hl : l ≤ 20) (hg : g ≤ 20) : P l g = P g l := by
  have := good_of hl hg
  unfold good at this
  rw [Bool.and_eq_true] at this
  exact eqL_eq this.1
theorem P_rev (hl : l ≤ 20) (hg : g ≤ 20) : P l g = (P l g).reverse := by
  have := good_of hl hg
  unfold good at this
  rw [Bool.and_eq_true, Bool.and_eq_true] at this
  exact eqL_eq this.2.1
theorem P_len (hl : l ≤ 20) (hg : g ≤ 20) : (P l g).length = l * g + 1 := by
  have := good_of hl hg
  unfold good at this
  rw [Bool.and_eq_true, Bool.and_eq_true, Bool.and_eq_true] at this
  exact Nat.eq_of_beq_eq_true this.2.2.1
theorem P_sum (hl : l ≤ 20) (hg : g ≤ 20) : sumL (P l g) = ch (l + g) l := by
  have := good_of hl hg
  unfold good at this
  rw [Bool.and_eq_true, Bool.and_eq_true, Bool.and_eq_true, Bool.and_eq_true] at this
  exact Nat.eq_of_beq_eq_true this.2.2.2.1
theorem P_nought (hl : l ≤ 20) : P l 0 = [1] := by
  have := good_of hl (Nat.zero_le 20)
  unfold good at this
  rw [Bool.and_eq_true, Bool.and_eq_true, Bool.and_eq_true, Bool.and_eq_true] at this
  exact eqL_eq this.2.2.2.2
theorem P_step (hl : l ≤ 20) (hg : g < 20) : addL (P l (g + 1)) (zs (l + g + 1) (P l g)) = addL (P l g) (zs (g + 1) (P l (g + 1))) := by
  have := good_of hl (show g + 1 ≤ 20 by omega)
  unfold good at this
  rw [Bool.and_eq_true, Bool.and_eq_true, Bool.and_eq_true, Bool.and_eq_true] at this
  exact eqL_eq this.2.2.2.2
end
/-- the j-th -/
def nt (xs : List Nat) (j : Nat) : Int := ((xs.getD j 0 : Nat) : Int)
theorem nt_add : ∀ (xs ys : List Nat) (j : Nat), nt (addL xs ys) j = nt xs j + nt ys j
  | [], ys, j => by
    show nt ys j = nt [] j + nt ys j
    have : nt [] j = 0 := by unfold nt; simp
    omega
  | x :: xs, [], j => by
    show nt (x :: xs) j = nt (x :: xs) j + nt [] j
    have : nt [] j = 0 := by unfold nt; simp
    omega
  | x :: xs, y :: ys, 0 => by
    show ((x + y : Nat) : Int) = (x : Int) + (y : Int)
    omega
  | x :: xs, y :: ys, j + 1 => nt_add xs ys j
theorem nt_zs : ∀ (n : Nat) (xs : List Nat) (j : Nat), nt (zs n xs) j = if n ≤ j then nt xs (j - n) else 0
  | 0, xs, j => by simp [zs]
  | n + 1, xs, 0 => by
    rw [if_neg (by omega)]
    rfl
  | n + 1, xs, j + 1 => by
    show nt (zs n xs) j = _
    rw [nt_zs n xs j]
    by_cases h : n ≤ j
    · rw [if_pos h, if_pos (by omega), Nat.add_sub_add_right]
    · rw [if_neg h, if_neg (by omega)]
def zi (xs : List Nat) : List Int := xs.map Int.ofNat
theorem zi_len (xs : List Nat) : (zi xs).length = xs.length := List.length_map ..
def pz (l g j : Nat) : Int := nt (P l g) j
theorem pz_step {l g : Nat} (hl : l ≤ 20) (hg : g < 20) (j : Nat) : pz l (g + 1) j + (if l + g + 1 ≤ j then pz l g (j - (l + g + 1)) else 0) = pz l g j + (if g + 1 ≤ j then pz l (g + 1) (j - (g + 1)) else 0) := by
  have := congrArg (fun xs => nt xs j) (P_step hl hg)
  simp only [nt_add, nt_zs] at this
  exact this
theorem pz_nought {l : Nat} (hl : l ≤ 20) (j : Nat) : pz l 0 j = if j = 0 then 1 else 0 := by
  unfold pz
  rw [P_nought hl]
  cases j with
  | zero => rfl
  | succ j => simp [nt]
theorem pz_far {l g j : Nat} (hl : l ≤ 20) (hg : g ≤ 20) (hj : l * g < j) : pz l g j = 0 := by
  unfold pz nt
  rw [List.getD_eq_getElem?_getD, List.getElem?_eq_none (by rw [P_len hl hg]; omega)]
  rfl
/-! lists of ints, place by place -/
def ll (f : Nat → Int) (n : Nat) : List Int := (List.range n).map f
theorem ll_len (f : Nat → Int) (n : Nat) : (ll f n).length = n := by simp [ll]
theorem ll_get (f : Nat → Int) {n j : Nat} (h : j < n) : (ll f n).getD j 0 = f j := by
  simp [ll, List.getD_eq_getElem?_getD, h]
theorem ll_of {f : Nat → Int} {n : Nat} {xs : List Int} (hl : xs.length = n) (h : ∀ j, j < n → xs.getD j 0 = f j) : xs = ll f n := by
  refine List.ext_getElem (by rw [hl, ll_len]) fun i h1 h2 => ?_
  have := h i (by omega)
  rw [List.getD_eq_getElem?_getD, List.getElem?_eq_getElem h1] at this
  rw [show (ll f n)[i] = f i by simp [ll]]
  exact this
theorem ll_congr {f g : Nat → Int} {n : Nat} (h : ∀ j, j < n → f j = g j) : ll f n = ll g n := ll_of (ll_len f n) fun j hj => by rw [ll_get f hj, h j hj]
theorem ll_take {f : Nat → Int} {n m : Nat} (h : m ≤ n) : (ll f n).take m = ll f m := by
  simp [ll, ← List.map_take, List.take_range, Nat.min_eq_left h]
theorem ll_P {l g : Nat} (hl : l ≤ 20) (hg : g ≤ 20) : ll (pz l g) (l * g + 1) = zi (P l g) := by
  symm
  refine ll_of (by rw [zi_len, P_len hl hg]) fun j hj => ?_
  have h : j < (P l g).length := by rw [P_len hl hg]; exact hj
  simp [pz, nt, zi, List.getD_eq_getElem?_getD, h]
/-- places set one after the other -/
def acc (f : List Int → Nat → Int) (p : Nat → Nat) (xs : List Int) : Nat → List Int
  | 0 => xs
  | i + 1 => (acc f p xs i).set (p i) (f (acc f p xs i) i)
theorem acc_len (f : List Int → Nat → Int) (p : Nat → Nat) (xs : List Int) : ∀ i, (acc f p xs i).length = xs.length
  | 0 => rfl
  | i + 1 => by
    show ((acc f p xs i).set _ _).length = _
    rw [List.length_set, acc_len f p xs i]
theorem getD_set_ne {xs : List Int} {i j : Nat} {v : Int} (h : i ≠ j) : (xs.set i v).getD j 0 = xs.getD j 0 := by
  rw [List.getD_eq_getElem?_getD, List.getD_eq_getElem?_getD, List.getElem?_set_ne h]
theorem getD_set_eq {xs : List Int} {i : Nat} {v : Int} (h : i < xs.length) : (xs.set i v).getD i 0 = v := by
  rw [List.getD_eq_getElem?_getD, List.getElem?_set_self h]
  rfl
/-- a place that is not yet set -/
theorem acc_old {f : List Int → Nat → Int} {p : Nat → Nat} {xs : List Int} {j : Nat} : ∀ {i : Nat}, (∀ t, t < i → p t ≠ j) → (acc f p xs i).getD j 0 = xs.getD j 0
  | 0, _ => rfl
  | i + 1, h => by
    show ((acc f p xs i).set _ _).getD j 0 = _
    rw [getD_set_ne (h i (by omega)), acc_old fun t ht => h t (by omega)]
/-- a place that is set keeps what was put -/
theorem acc_new {f : List Int → Nat → Int} {p : Nat → Nat} {xs : List Int} {t : Nat} (hp : p t < xs.length) : ∀ {i : Nat}, t < i → (∀ u, t < u → u < i → p u ≠ p t) → (acc f p xs i).getD (p t) 0 = f (acc f p xs t) t
  | i + 1, hi, h => by
    show ((acc f p xs i).set _ _).getD _ 0 = _
    by_cases e : t = i
    · subst e
      rw [getD_set_eq (by rw [acc_len]; exact hp)]
    · rw [getD_set_ne (h i (by omega) (by omega)), acc_new hp (by omega) fun u h1 h2 => h u h1 (by omega)]
/-- with_size -/
def wsz (xs : List Int) (k : Nat) : Nat → List Int := acc (fun p i => p.getD (k + i) 0 + p.getD i 0) (fun i => k + i) xs
theorem wsz_get {xs : List Int} {k j : Nat} (hk : 0 < k) (hj : j < xs.length) : (wsz xs k (xs.length - k)).getD j 0 = xs.getD j 0 + (if k ≤ j then (wsz xs k (xs.length - k)).getD (j - k) 0 else 0) := by
  unfold wsz
  by_cases h : k ≤ j
  · rw [if_pos h]
    obtain ⟨t, rfl⟩ : ∃ t, j = k + t := ⟨j - k, by omega⟩
    rw [acc_new (f := fun p i => p.getD (k + i) 0 + p.getD i 0) (p := fun i => k + i) (t := t) hj (by omega) (fun u h1 h2 => by show k + u ≠ k + t; omega)]
    rw [acc_old (fun u hu => by show k + u ≠ k + t; omega), Nat.add_sub_cancel_left]
    congr 1
    by_cases h2 : k ≤ t
    · obtain ⟨u, rfl⟩ : ∃ u, t = k + u := ⟨t - k, by omega⟩
      rw [acc_new (i := k + u) (f := fun p i => p.getD (k + i) 0 + p.getD i 0) (p := fun i => k + i) (t := u) (by show k + u < _; omega) (by omega) (fun v h1 h2 => by show k + v ≠ k + u; omega), acc_new (i := xs.length - k) (f := fun p i => p.getD (k + i) 0 + p.getD i 0) (p := fun i => k + i) (t := u) (by show k + u < _; omega) (by omega) (fun v h1 h2 => by show k + v ≠ k + u; omega)]
    · rw [acc_old (fun u hu => by show k + u ≠ t; omega), acc_old (fun u hu => by show k + u ≠ t; omega)]
  · rw [if_neg h, acc_old (fun u hu => by show k + u ≠ j; omega)]
    omega
/-- less_shifted -/
def lss (xs : List Int) (k : Nat) : Nat → List Int := acc (fun p i => p.getD (k + i) 0 - xs.getD i 0) (fun i => k + i) xs
theorem lss_get {xs : List Int} {k j : Nat} (hj : j < xs.length) : (lss xs k (xs.length - k)).getD j 0 = xs.getD j 0 - (if k ≤ j then xs.getD (j - k) 0 else 0) := by
  unfold lss
  by_cases h : k ≤ j
  · rw [if_pos h]
    obtain ⟨t, rfl⟩ : ∃ t, j = k + t := ⟨j - k, by omega⟩
    rw [acc_new (f := fun p i => p.getD (k + i) 0 - xs.getD i 0) (p := fun i => k + i) (t := t) hj (by omega) (fun u h1 h2 => by show k + u ≠ k + t; omega)]
    rw [acc_old (fun u hu => by show k + u ≠ k + t; omega), Nat.add_sub_cancel_left]
  · rw [if_neg h, acc_old (fun u hu => by show k + u ≠ j; omega)]
    omega
/-- the same from the end down, in its own place -/
def dss (xs : List Int) (k : Nat) : Nat → List Int := acc (fun p i => p.getD (xs.length - 1 - i) 0 - p.getD (xs.length - 1 - i - k) 0) (fun i => xs.length - 1 - i) xs
theorem dss_get {xs : List Int} {k j : Nat} (hk : 0 < k) (hj : j < xs.length) : (dss xs k (xs.length - k)).getD j 0 = xs.getD j 0 - (if k ≤ j then xs.getD (j - k) 0 else 0) := by
  unfold dss
  by_cases h : k ≤ j
  · rw [if_pos h]
    obtain ⟨t, rfl⟩ : ∃ t, j = xs.length - 1 - t := ⟨xs.length - 1 - j, by omega⟩
    rw [acc_new (f := fun p i => p.getD (xs.length - 1 - i) 0 - p.getD (xs.length - 1 - i - k) 0) (p := fun i => xs.length - 1 - i) (t := t) hj (by omega) (fun u h1 h2 => by show xs.length - 1 - u ≠ xs.length - 1 - t; omega)]
    rw [acc_old (fun u hu => by show xs.length - 1 - u ≠ xs.length - 1 - t; omega), acc_old (fun u hu => by show xs.length - 1 - u ≠ xs.length - 1 - t - k; omega)]
  · rw [if_neg h, acc_old (fun u hu => by show xs.length - 1 - u ≠ j; omega)]
    omega
/-- one more greatest part, by both ways -/
theorem box_up {l g n : Nat} (hl : l ≤ 20) (hg : g < 20) : let ws := wsz (ll (pz l g) n) (g + 1) (n - (g + 1)); lss ws (l + g + 1) (n - (l + g + 1)) = ll (pz l (g + 1)) n := by
  intro ws
  have el : ws.length = n := by show (wsz _ _ _).length = n; unfold wsz; rw [acc_len, ll_len]
  refine ll_of (by unfold lss; rw [acc_len, el]) ?_
  have hw : ∀ j, j < n → ws.getD j 0 = pz l g j + (if g + 1 ≤ j then ws.getD (j - (g + 1)) 0 else 0) := fun j hj => by
    have := wsz_get (xs := ll (pz l g) n) (k := g + 1) (j := j) (by omega) (by rw [ll_len]; exact hj)
    rw [ll_len, ll_get _ hj] at this
    exact this
  have hy : ∀ j, j < n → (lss ws (l + g + 1) (n - (l + g + 1))).getD j 0 = ws.getD j 0 - (if l + g + 1 ≤ j then ws.getD (j - (l + g + 1)) 0 else 0) := fun j hj => by
    have := lss_get (xs := ws) (k := l + g + 1) (j := j) (by rw [el]; exact hj)
    rw [el] at this
    exact this
  intro j
  induction j using Nat.strongRecOn with
  | _ j ih =>
    intro hj
    have h0 := pz_step hl hg j
    rw [hy j hj, hw j hj]
    by_cases h1 : g + 1 ≤ j
    · have h2 := ih (j - (g + 1)) (by omega) (by omega)
      rw [hy _ (by omega)] at h2
      rw [if_pos h1] at h0 ⊢
      by_cases h3 : l + g + 1 ≤ j
      · rw [if_pos h3] at h0 ⊢
        rw [hw (j - (l + g + 1)) (by omega)]
        by_cases h4 : g + 1 ≤ j - (l + g + 1)
        · rw [if_pos h4]
          rw [if_pos (by omega), show j - (g + 1) - (l + g + 1) = j - (l + g + 1) - (g + 1) by omega] at h2
          omega
        · rw [if_neg h4]
          rw [if_neg (by omega)] at h2
          omega
      · rw [if_neg h3] at h0 ⊢
        rw [if_neg (by omega)] at h2
        omega
    · rw [if_neg h1] at h0 ⊢
      rw [if_neg (by omega)] at h0 ⊢
      omega
theorem quo_up {l g : Nat} (hl : l ≤ 20) (hg : g < 20) : let xs := ll (pz l g) (l * g + 1 + (l + g + 1)); let ds := dss xs (l + g + 1) (xs.length - (l + g + 1)); (wsz ds (g + 1) (xs.length - (g + 1))).take (l * g + 1 + l) = ll (pz l (g + 1)) (l * (g + 1) + 1) := by
  intro xs ds
  have ex : xs.length = l * g + 1 + (l + g + 1) := ll_len _ _
  have el : ds.length = xs.length := by show (dss _ _ _).length = _; unfold dss; rw [acc_len]
  rw [show l * (g + 1) + 1 = l * g + 1 + l by rw [Nat.mul_succ]; omega, ← ll_take (f := pz l (g + 1)) (n := xs.length) (by omega)]
  congr 1
  refine ll_of (by unfold wsz; rw [acc_len, el]) ?_
  have hd : ∀ j, j < xs.length → ds.getD j 0 = pz l g j - (if l + g + 1 ≤ j then pz l g (j - (l + g + 1)) else 0) := fun j hj => by
    have := dss_get (xs := xs) (k := l + g + 1) (j := j) (by omega) hj
    rw [show xs.getD j 0 = pz l g j from ll_get _ (by omega)] at this
    rw [this]
    by_cases h : l + g + 1 ≤ j
    · rw [if_pos h, if_pos h, show xs.getD (j - (l + g + 1)) 0 = pz l g (j - (l + g + 1)) from ll_get _ (by omega)]
    · rw [if_neg h, if_neg h]
  have hw : ∀ j, j < xs.length → (wsz ds (g + 1) (xs.length - (g + 1))).getD j 0 = ds.getD j 0 + (if g + 1 ≤ j then (wsz ds (g + 1) (xs.length - (g + 1))).getD (j - (g + 1)) 0 else 0) := fun j hj => by
    have := wsz_get (xs := ds) (k := g + 1) (j := j) (by omega) (by rw [el]; exact hj)
    rw [el] at this
    exact this
  intro j
  induction j using Nat.strongRecOn with
  | _ j ih =>
    intro hj
    have h0 := pz_step hl hg j
    rw [hw j hj, hd j hj]
    by_cases h1 : g + 1 ≤ j
    · rw [if_pos h1] at h0 ⊢
      rw [ih (j - (g + 1)) (by omega) (by omega)]
      omega
    · rw [if_neg h1] at h0 ⊢
      omega
/-- what is found, noughts behind -/
theorem ll_more {l g k : Nat} (hl : l ≤ 20) (hg : g ≤ 20) : ll (pz l g) (l * g + 1) ++ List.replicate k 0 = ll (pz l g) (l * g + 1 + k) := by
  refine ll_of (by simp [ll_len]) fun j hj => ?_
  by_cases h : j < l * g + 1
  · rw [List.getD_eq_getElem?_getD, List.getElem?_append_left (by rw [ll_len]; exact h), ← List.getD_eq_getElem?_getD, ll_get _ h]
  · rw [List.getD_eq_getElem?_getD, List.getElem?_append_right (by rw [ll_len]; omega), List.getElem?_replicate, ll_len, if_pos (by omega), pz_far hl hg (by omega)]
    rfl
/-- the rows in a box, by their sums -/
def ib : Nat → Nat → List Int
  | 0, _ => [0]
  | l + 1, g => 0 :: (List.range g).flatMap fun p => (ib l (p + 1)).map fun t => ((p + 1 : Nat) : Int) + t
def ibs (l g : Nat) : List Int := (List.range (l * g + 1)).map fun (t : Nat) => (((ib l g).count (t : Int) : Nat) : Int)
def ibQ (l g : Nat) : Bool := decide ((ib l g).length ≤ 1000) && decide (ibs l g = zi (P l g))
theorem ib_all : (List.range 6).all (fun l => (List.range 6).all fun g => ibQ l g) = true := by decide +kernel
end BX

set_option Elab.async false
set_option linter.all false
set_option maxRecDepth 100000
/-! B23: rows by their parts up to a size. -/
namespace BX
/-- rows of j with parts up to m -/
def pa : Nat → Nat → Int
  | 0, j => if j = 0 then 1 else 0
  | m + 1, j => if h : m + 1 ≤ j then pa m j + pa (m + 1) (j - (m + 1)) else pa m j
termination_by m j => (m, j)
theorem pa_zero (j : Nat) : pa 0 j = if j = 0 then 1 else 0 := by unfold pa; rfl
theorem pa_up (m j : Nat) : pa (m + 1) j = pa m j + (if m + 1 ≤ j then pa (m + 1) (j - (m + 1)) else 0) := by
  conv => lhs; unfold pa
  split
  · rfl
  · omega
theorem pa_wsz (m n : Nat) : wsz (ll (pa m) n) (m + 1) (n - (m + 1)) = ll (pa (m + 1)) n := by
  refine ll_of (by unfold wsz; rw [acc_len, ll_len]) ?_
  have hw : ∀ j, j < n → (wsz (ll (pa m) n) (m + 1) (n - (m + 1))).getD j 0 = pa m j + (if m + 1 ≤ j then (wsz (ll (pa m) n) (m + 1) (n - (m + 1))).getD (j - (m + 1)) 0 else 0) := fun j hj => by
    have := wsz_get (xs := ll (pa m) n) (k := m + 1) (j := j) (by omega) (by rw [ll_len]; exact hj)
    rw [ll_len, ll_get _ hj] at this
    exact this
  intro j
  induction j using Nat.strongRecOn with
  | _ j ih =>
    intro hj
    rw [hw j hj, pa_up]
    by_cases h : m + 1 ≤ j
    · rw [if_pos h, if_pos h, ih _ (by omega) (by omega)]
    · rw [if_neg h, if_neg h]
theorem pa_start (n : Nat) : 1 :: List.replicate n 0 = ll (pa 0) (n + 1) := by
  refine ll_of (by simp) fun j hj => ?_
  rw [pa_zero]
  cases j with
  | zero => rfl
  | succ j => simp [List.getD_eq_getElem?_getD, List.getElem?_replicate, show j < n by omega]
/-! rows as lists of numbers that the kernel can make -/
def nxt (k : Nat) : List Nat → List Nat → List Nat
  | [], _ => []
  | x :: xs, acc => (x + acc.getD (k - 1) 0) :: nxt k xs ((x + acc.getD (k - 1) 0) :: acc)
theorem nxt_len (k : Nat) : ∀ (xs acc : List Nat), (nxt k xs acc).length = xs.length
  | [], _ => rfl
  | x :: xs, acc => by
    show (nxt k xs _).length + 1 = xs.length + 1
    rw [nxt_len k xs]
theorem nxt_get {k : Nat} (hk : 0 < k) : ∀ (xs acc : List Nat) (j : Nat), j < xs.length → (nxt k xs acc).getD j 0 = xs.getD j 0 + (if k ≤ j then (nxt k xs acc).getD (j - k) 0 else acc.getD (k - 1 - j) 0)
  | x :: xs, acc, 0, _ => by
    rw [if_neg (by omega)]
    rfl
  | x :: xs, acc, j + 1, h => by
    have ih := nxt_get hk xs ((x + acc.getD (k - 1) 0) :: acc) j (by simpa using h)
    show (nxt k xs ((x + acc.getD (k - 1) 0) :: acc)).getD j 0 = xs.getD j 0 + (if k ≤ j + 1 then ((x + acc.getD (k - 1) 0) :: nxt k xs ((x + acc.getD (k - 1) 0) :: acc)).getD (j + 1 - k) 0 else acc.getD (k - 1 - (j + 1)) 0)
    rw [ih]
    by_cases h1 : k ≤ j
    · rw [if_pos h1, if_pos (by omega), show j + 1 - k = (j - k) + 1 by omega]
      rfl
    · rw [if_neg h1]
      by_cases h2 : k ≤ j + 1
      · rw [if_pos h2, show j + 1 - k = 0 by omega, show k - 1 - j = 0 by omega]
        rfl
      · rw [if_neg h2, show k - 1 - j = (k - 1 - (j + 1)) + 1 by omega]
        rfl
def rowF : Nat → List Nat
  | 0 => 1 :: List.replicate 400 0
  | m + 1 => nxt (m + 1) (rowF m) []
theorem rowF_len : ∀ m, (rowF m).length = 401
  | 0 => by
    show (1 :: List.replicate 400 0).length = 401
    rw [List.length_cons, List.length_replicate]
  | m + 1 => by
    show (nxt (m + 1) (rowF m) []).length = 401
    rw [nxt_len, rowF_len m]
theorem rowF_get : ∀ (m j : Nat), j < 401 → (((rowF m).getD j 0 : Nat) : Int) = pa m j
  | 0, j, h => by
    rw [pa_zero]
    show (((1 :: List.replicate 400 0).getD j 0 : Nat) : Int) = _
    cases j with
    | zero => rfl
    | succ j =>
      show (((List.replicate 400 0).getD j 0 : Nat) : Int) = _
      rw [List.getD_eq_getElem?_getD, List.getElem?_replicate, if_pos (by omega), if_neg (by omega)]
      rfl
  | m + 1, j, h => by
    induction j using Nat.strongRecOn with
    | _ j ih =>
      have h1 := nxt_get (k := m + 1) (by omega) (rowF m) [] j (by rw [rowF_len]; exact h)
      rw [pa_up, ← rowF_get m j h]
      show (((nxt (m + 1) (rowF m) []).getD j 0 : Nat) : Int) = _
      rw [h1]
      by_cases h2 : m + 1 ≤ j
      · have h3 := ih (j - (m + 1)) (by omega) (by omega)
        rw [if_pos h2, if_pos h2, ← h3]
        show ((_ + (nxt (m + 1) (rowF m) []).getD (j - (m + 1)) 0 : Nat) : Int) = _ + (((nxt (m + 1) (rowF m) []).getD (j - (m + 1)) 0 : Nat) : Int)
        omega
      · rw [if_neg h2, if_neg h2]
        simp
def below (b : Nat) : List Nat → Bool
  | [] => true
  | x :: xs => Nat.ble x b && below b xs
def belows (b : Nat) (r : List Nat) : Nat → Nat → Bool
  | 0, _ => below b r
  | n + 1, k => below b r && belows b (nxt k r []) n (k + 1)
theorem small_20 : belows 1000000000000000000 (rowF 0) 20 1 = true := by decide +kernel
theorem below_of {b : Nat} : ∀ {xs : List Nat}, below b xs = true → ∀ j, xs.getD j 0 ≤ b
  | [], _, j => by simp
  | x :: xs, h, j => by
    unfold below at h
    rw [Bool.and_eq_true] at h
    cases j with
    | zero => exact Nat.le_of_ble_eq_true h.1
    | succ j => exact below_of h.2 j
theorem belows_of {b : Nat} : ∀ {n m : Nat}, belows b (rowF m) n (m + 1) = true → ∀ i, i ≤ n → below b (rowF (m + i)) = true
  | 0, m, h, i, hi => by
    have : i = 0 := by omega
    subst this
    exact h
  | n + 1, m, h, i, hi => by
    unfold belows at h
    rw [Bool.and_eq_true] at h
    cases i with
    | zero => exact h.1
    | succ i =>
      have := belows_of (n := n) (m := m + 1) h.2 i (by omega)
      rw [show m + (i + 1) = m + 1 + i by omega]
      exact this
theorem pa_small {m j : Nat} (hm : m ≤ 20) (hj : j < 401) : 0 ≤ pa m j ∧ pa m j ≤ 1000000000000000000 := by
  have h := below_of (belows_of small_20 m hm) j
  rw [Nat.zero_add] at h
  rw [← rowF_get m j hj]
  omega
/-- rows of t with just m parts -/
def en (m t : Nat) : Int := if m ≤ t then pa m (t - m) else 0
theorem en_up (m i : Nat) : en (m + 1) (m + 1 + i) = en m (m + i) + en (m + 1) i := by
  unfold en
  rw [if_pos (by omega), if_pos (by omega), show m + 1 + i - (m + 1) = i by omega, show m + i - m = i by omega, pa_up]
def wen (prev : List Int) (k n : Nat) : Nat → List Int := acc (fun p i => prev.getD (k + i - 1) 0 + p.getD i 0) (fun i => k + i) (List.replicate (n + 1) 0)
theorem wen_len (prev : List Int) (k n i : Nat) : (wen prev k n i).length = n + 1 := by
  unfold wen
  rw [acc_len, List.length_replicate]
theorem wen_at {m n : Nat} : ∀ i, i + (m + 1) ≤ n + 1 → ∀ j, j < n + 1 → (wen (ll (en m) (n + 1)) (m + 1) n i).getD j 0 = if m + 1 ≤ j ∧ j < m + 1 + i then en (m + 1) j else 0
  | 0, _, j, hj => by
    rw [if_neg (by omega)]
    show (List.replicate (n + 1) 0).getD j 0 = 0
    rw [List.getD_eq_getElem?_getD, List.getElem?_replicate, if_pos hj]
    rfl
  | i + 1, hi, j, hj => by
    have ih := wen_at (m := m) (n := n) i (by omega)
    show ((wen (ll (en m) (n + 1)) (m + 1) n i).set (m + 1 + i) ((ll (en m) (n + 1)).getD (m + 1 + i - 1) 0 + (wen (ll (en m) (n + 1)) (m + 1) n i).getD i 0)).getD j 0 = _
    by_cases e : m + 1 + i = j
    · subst e
      have h0 : (if m + 1 ≤ i ∧ i < m + 1 + i then en (m + 1) i else 0) = en (m + 1) i := by
        by_cases h : m + 1 ≤ i
        · rw [if_pos (by omega)]
        · rw [if_neg (by omega)]
          unfold en
          rw [if_neg h]
      rw [getD_set_eq (by rw [wen_len]; exact hj), ll_get _ (by omega), ih i (by omega), h0, if_pos (by omega), en_up, show m + 1 + i - 1 = m + i by omega]
    · rw [getD_set_ne e, ih j hj]
      by_cases h : m + 1 ≤ j ∧ j < m + 1 + i
      · rw [if_pos h, if_pos (by omega)]
      · rw [if_neg h, if_neg (by omega)]
theorem wen_all {m n : Nat} (hm : m + 1 ≤ n) : wen (ll (en m) (n + 1)) (m + 1) n (n + 1 - (m + 1)) = ll (en (m + 1)) (n + 1) := by
  refine ll_of (wen_len _ _ _ _) fun j hj => ?_
  rw [wen_at _ (by omega) j hj]
  by_cases h : m + 1 ≤ j
  · rw [if_pos (by omega)]
  · rw [if_neg (by omega)]
    unfold en
    rw [if_neg h]
theorem en_start (n : Nat) : 1 :: List.replicate n 0 = ll (en 0) (n + 1) := by
  rw [pa_start]
  refine ll_congr fun j _ => ?_
  unfold en
  rw [if_pos (Nat.zero_le j), Nat.sub_zero]
/-- all rows of n with parts up to m, f deep -/
def rlU (g : Nat → Nat → List (List Int)) (n : Nat) (i : Nat) : List (List Int) := (List.range i).flatMap fun p => (g (n - (p + 1)) (p + 1)).map fun r => ((p + 1 : Nat) : Int) :: r
def rl : Nat → Nat → Nat → List (List Int)
  | 0, n, _ => if n = 0 then [[]] else []
  | f + 1, n, m => (if n = 0 then [[]] else []) ++ rlU (rl f) n (min n m)
theorem rlU_up (g : Nat → Nat → List (List Int)) (n i : Nat) : rlU g n (i + 1) = rlU g n i ++ (g (n - (i + 1)) (i + 1)).map fun r => ((i + 1 : Nat) : Int) :: r := by
  unfold rlU
  rw [List.range_succ, List.flatMap_append]
  simp
theorem rl_deep : ∀ (f n m : Nat), ∀ r ∈ rl f n m, r.length ≤ f
  | 0, n, m, r, h => by
    unfold rl at h
    split at h
    · simp at h; subst h; exact Nat.le_refl 0
    · cases h
  | f + 1, n, m, r, h => by
    unfold rl at h
    rcases List.mem_append.mp h with h | h
    · split at h
      · simp at h; subst h; exact Nat.zero_le _
      · cases h
    · unfold rlU at h
      obtain ⟨p, _, h⟩ := List.mem_flatMap.mp h
      obtain ⟨s, hs, rfl⟩ := List.mem_map.mp h
      have := rl_deep f _ _ s hs
      rw [List.length_cons]
      omega
def rlQ : Bool := (List.range 14).all fun f => (List.range 14).all fun n => (List.range 14).all fun m => Nat.ble (rl f n m).length 1000
theorem rl_all : rlQ = true := by decide +kernel
theorem rl_few {f n m : Nat} (hf : f ≤ 13) (hn : n ≤ 13) (hm : m ≤ 13) : (rl f n m).length ≤ 1000 := by
  have h := rl_all
  unfold rlQ at h
  rw [List.all_eq_true] at h
  have h := h f (List.mem_range.mpr (by omega))
  rw [List.all_eq_true] at h
  have h := h n (List.mem_range.mpr (by omega))
  rw [List.all_eq_true] at h
  exact Nat.le_of_ble_eq_true (h m (List.mem_range.mpr (by omega)))
/-- how many parts are s at least; the square -/
def cnt (r : List Int) (s : Nat) : Nat := ((List.range r.length).filter fun j => decide ((s : Int) ≤ r.getD j 0)).length
def sides (r : List Int) : List Int := ((List.range (r.length + 1)).filter fun s => decide (s ≤ cnt r s)).map Int.ofNat
def sqr (r : List Int) : Int := (sides r).max?.getD 0
theorem sides_max (r : List Int) : (sides r).max? = some (sqr r) := by
  have h : (0 : Int) ∈ sides r := by
    refine List.mem_map.mpr ⟨0, List.mem_filter.mpr ⟨List.mem_range.mpr (Nat.succ_pos _), ?_⟩, rfl⟩
    simp
  unfold sqr
  cases e : (sides r).max? with
  | none =>
    rw [List.max?_eq_none_iff] at e
    rw [e] at h
    cases h
  | some m => rfl
end BX
namespace BX
def rcI (n s m : Nat) : Nat → Int
  | 0 => 0
  | j + 1 => rcI n s m j + en m (m + j) * pa (s - 1) (n - (m * s + j))
def rcO (n s : Nat) : Nat → Int
  | 0 => 0
  | i + 1 => rcO n s i + rcI n s (s + i) (n + 1 - (s + i) * s)
def rc (n s : Nat) : Int := rcO n s (n / s + 1 - s)
end BX

set_option Elab.async false
set_option linter.all false
set_option maxRecDepth 100000
/-! C23: tables of rows by their parts, and what the kernel finds over them. -/
namespace BX
def nq : List Nat → List Nat → List Nat → List Nat
  | [], _, _ => []
  | x :: xs, [], back => match back.reverse with
    | [] => x :: xs
    | q :: qs => (x + q) :: nq xs qs [x + q]
  | x :: xs, q :: qs, back => (x + q) :: nq xs qs ((x + q) :: back)
def nq' : List Nat → List Nat → List Nat
  | [], _ => []
  | x :: xs, Q => (x + Q.headD 0) :: nq' xs (Q.tail ++ [x + Q.headD 0])
theorem nq_eq : ∀ (xs f b : List Nat), f ++ b.reverse ≠ [] → nq xs f b = nq' xs (f ++ b.reverse)
  | [], _, _, _ => by unfold nq nq'; rfl
  | x :: xs, [], b, h => by
    unfold nq nq'
    cases e : b.reverse with
    | nil => rw [e] at h; exact absurd rfl h
    | cons q qs =>
      show (x + q) :: nq xs qs [x + q] = _
      rw [nq_eq xs qs [x + q] (by simp)]
      rfl
  | x :: xs, q :: qs, b, h => by
    unfold nq nq'
    rw [nq_eq xs qs ((x + q) :: b) (by simp)]
    simp
theorem nq'_get : ∀ (xs Q : List Nat) (j : Nat), Q ≠ [] → j < xs.length → (nq' xs Q).getD j 0 = xs.getD j 0 + (Q ++ nq' xs Q).getD j 0
  | x :: xs, q :: qs, 0, _, _ => by
    unfold nq'
    rfl
  | x :: xs, q :: qs, j + 1, _, h => by
    have ih := nq'_get xs (qs ++ [x + q]) j (by simp) (by simpa using h)
    unfold nq'
    show (nq' xs (qs ++ [x + q])).getD j 0 = xs.getD j 0 + (qs ++ (x + q) :: nq' xs (qs ++ [x + q])).getD j 0
    rw [ih, List.append_assoc]
    rfl
  | _, [], _, h, _ => absurd rfl h
theorem nq'_len : ∀ (xs Q : List Nat), (nq' xs Q).length = xs.length
  | [], _ => by unfold nq'; rfl
  | x :: xs, Q => by
    unfold nq'
    rw [List.length_cons, nq'_len, List.length_cons]
def stp (k : Nat) (xs : List Nat) : List Nat := nq xs (List.replicate k 0) []
theorem stp_eq {k : Nat} (hk : 0 < k) (xs : List Nat) : stp k xs = nq' xs (List.replicate k 0) := by
  unfold stp
  rw [nq_eq _ _ _ (by cases k with | zero => omega | succ k => simp [List.replicate_succ])]
  simp
theorem stp_len {k : Nat} (hk : 0 < k) (xs : List Nat) : (stp k xs).length = xs.length := by rw [stp_eq hk, nq'_len]
theorem stp_get {k : Nat} (hk : 0 < k) {xs : List Nat} {j : Nat} (hj : j < xs.length) : (stp k xs).getD j 0 = xs.getD j 0 + (if k ≤ j then (stp k xs).getD (j - k) 0 else 0) := by
  have h := nq'_get xs (List.replicate k 0) j (by cases k with | zero => omega | succ k => simp [List.replicate_succ]) hj
  rw [stp_eq hk, h]
  congr 1
  by_cases e : k ≤ j
  · rw [if_pos e, List.getD_eq_getElem?_getD, List.getElem?_append_right (by rw [List.length_replicate]; exact e), List.length_replicate, List.getD_eq_getElem?_getD]
  · rw [if_neg e, List.getD_eq_getElem?_getD, List.getElem?_append_left (by rw [List.length_replicate]; omega), List.getElem?_replicate, if_pos (by omega)]
    rfl
def IsRow (m : Nat) (r : List Nat) : Prop := ∀ j, j < r.length → ((r.getD j 0 : Nat) : Int) = pa m j
theorem IsRow.stp {m : Nat} {r : List Nat} (h : IsRow m r) : IsRow (m + 1) (stp (m + 1) r) := by
  intro j
  rw [stp_len (Nat.succ_pos m)]
  induction j using Nat.strongRecOn with
  | _ j ih =>
    intro hj
    rw [stp_get (k := m + 1) (Nat.succ_pos m) hj, pa_up, ← h j hj]
    by_cases e : m + 1 ≤ j
    · rw [if_pos e, if_pos e, ← ih (j - (m + 1)) (by omega) (by omega)]
      omega
    · rw [if_neg e, if_neg e]
      simp
theorem isRow_0 (n : Nat) : IsRow 0 (1 :: List.replicate n 0) := by
  intro j hj
  rw [pa_zero]
  cases j with
  | zero => rfl
  | succ j =>
    show (((List.replicate n 0).getD j 0 : Nat) : Int) = _
    rw [List.getD_eq_getElem?_getD, List.getElem?_replicate, if_neg (Nat.succ_ne_zero j)]
    split <;> rfl
def eqR : List Nat → List Nat → Bool
  | [], [] => true
  | x :: xs, y :: ys => Nat.beq x y && eqR xs ys
  | _, _ => false
theorem eqR_eq : ∀ {xs ys : List Nat}, eqR xs ys = true → xs = ys
  | [], [], _ => rfl
  | x :: xs, y :: ys, h => by
    unfold eqR at h
    rw [Bool.and_eq_true] at h
    rw [Nat.eq_of_beq_eq_true h.1, eqR_eq h.2]
  | [], _ :: _, h => by cases h
  | _ :: _, [], h => by cases h
def chain : Nat → List Nat → List (List Nat) → Bool
  | _, _, [] => true
  | k, r, r' :: rs => eqR (stp k r) r' && chain (k + 1) r' rs
theorem chain_get : ∀ {rs : List (List Nat)} {m : Nat} {r : List Nat}, chain (m + 1) r rs = true → IsRow m r → ∀ i, i < (r :: rs).length → IsRow (m + i) ((r :: rs).getD i []) ∧ ((r :: rs).getD i []).length = r.length
  | _, m, r, _, h, 0, _ => ⟨h, rfl⟩
  | r' :: rs, m, r, c, h, i + 1, hi => by
    unfold chain at c
    rw [Bool.and_eq_true] at c
    have e := eqR_eq c.1
    have ih := chain_get c.2 (e ▸ h.stp) i (by simpa using hi)
    rw [show m + (i + 1) = m + 1 + i by omega]
    refine ⟨ih.1, ih.2.trans ?_⟩
    rw [← e, stp_len (Nat.succ_pos m)]
  | [], _, _, _, _, i + 1, hi => by simp at hi
def it : Nat → Nat → List Nat → List Nat
  | 0, _, r => r
  | n + 1, k, r => it n (k + 1) (stp k r)
theorem it_row : ∀ (n m : Nat) (r : List Nat), IsRow m r → IsRow (m + n) (it n (m + 1) r) ∧ (it n (m + 1) r).length = r.length
  | 0, _, _, h => ⟨h, rfl⟩
  | n + 1, m, r, h => by
    have := it_row n (m + 1) (stp (m + 1) r) h.stp
    rw [stp_len (Nat.succ_pos m)] at this
    rw [show m + (n + 1) = m + 1 + n by omega]
    exact this
theorem pa_top {j : Nat} : ∀ d, pa (j + d) j = pa j j
  | 0 => rfl
  | d + 1 => by
    rw [← pa_top d, show j + (d + 1) = (j + d) + 1 by omega, pa_up, if_neg (by omega), Int.add_zero]
theorem pa_one : ∀ j, pa 1 j = 1
  | 0 => by rw [pa_up, pa_zero]; rfl
  | j + 1 => by
    rw [pa_up, pa_zero, if_neg (Nat.succ_ne_zero j), if_pos (by omega), show j + 1 - (0 + 1) = j by omega, pa_one j]
    rfl
def R80 : List (List Nat) := [[1, 1, 1, 1, 1, 1, 1, 1, 1, 1, 1, 1, 1, 1, 1, 1, 1, 1, 1, 1, 1, 1, 1, 1, 1, 1, 1, 1, 1, 1, 1, 1, 1, 1, 1, 1, 1, 1, 1, 1, 1, 1, 1, 1, 1, 1, 1, 1, 1, 1, 1, 1, 1, 1, 1, 1, 1, 1, 1, 1, 1, 1, 1, 1, 1, 1, 1, 1, 1, 1, 1, 1, 1, 1, 1, 1, 1, 1, 1, 1, 1],
  [1, 1, 2, 2, 3, 3, 4, 4, 5, 5, 6, 6, 7, 7, 8, 8, 9, 9, 10, 10, 11, 11, 12, 12, 13, 13, 14, 14, 15, 15, 16, 16, 17, 17, 18, 18, 19, 19, 20, 20, 21, 21, 22, 22, 23, 23, 24, 24, 25, 25, 26, 26, 27, 27, 28, 28, 29, 29, 30, 30, 31, 31, 32, 32, 33, 33, 34, 34, 35, 35, 36, 36, 37, 37, 38, 38, 39, 39, 40, 40, 41],
  [1, 1, 2, 3, 4, 5, 7, 8, 10, 12, 14, 16, 19, 21, 24, 27, 30, 33, 37, 40, 44, 48, 52, 56, 61, 65, 70, 75, 80, 85, 91, 96, 102, 108, 114, 120, 127, 133, 140, 147, 154, 161, 169, 176, 184, 192, 200, 208, 217, 225, 234, 243, 252, 261, 271, 280, 290, 300, 310, 320, 331, 341, 352, 363, 374, 385, 397, 408, 420, 432, 444, 456, 469, 481, 494, 507, 520, 533, 547, 560, 574],
  [1, 1, 2, 3, 5, 6, 9, 11, 15, 18, 23, 27, 34, 39, 47, 54, 64, 72, 84, 94, 108, 120, 136, 150, 169, 185, 206, 225, 249, 270, 297, 321, 351, 378, 411, 441, 478, 511, 551, 588, 632, 672, 720, 764, 816, 864, 920, 972, 1033, 1089, 1154, 1215, 1285, 1350, 1425, 1495, 1575, 1650, 1735, 1815, 1906, 1991, 2087, 2178, 2280, 2376, 2484, 2586, 2700, 2808, 2928, 3042, 3169, 3289, 3422, 3549, 3689, 3822, 3969, 4109, 4263],
  [1, 1, 2, 3, 5, 7, 10, 13, 18, 23, 30, 37, 47, 57, 70, 84, 101, 119, 141, 164, 192, 221, 255, 291, 333, 377, 427, 480, 540, 603, 674, 748, 831, 918, 1014, 1115, 1226, 1342, 1469, 1602, 1747, 1898, 2062, 2233, 2418, 2611, 2818, 3034, 3266, 3507, 3765, 4033, 4319, 4616, 4932, 5260, 5608, 5969, 6351, 6747, 7166, 7599, 8056, 8529, 9027, 9542, 10083, 10642, 11229, 11835, 12470, 13125, 13811, 14518, 15257, 16019, 16814, 17633, 18487, 19366, 20282],
  [1, 1, 2, 3, 5, 7, 11, 14, 20, 26, 35, 44, 58, 71, 90, 110, 136, 163, 199, 235, 282, 331, 391, 454, 532, 612, 709, 811, 931, 1057, 1206, 1360, 1540, 1729, 1945, 2172, 2432, 2702, 3009, 3331, 3692, 4070, 4494, 4935, 5427, 5942, 6510, 7104, 7760, 8442, 9192, 9975, 10829, 11720, 12692, 13702, 14800, 15944, 17180, 18467, 19858, 21301, 22856, 24473, 26207, 28009, 29941, 31943, 34085, 36308, 38677, 41134, 43752, 46461, 49342, 52327, 55491, 58767, 62239, 65827, 69624],
  [1, 1, 2, 3, 5, 7, 11, 15, 21, 28, 38, 49, 65, 82, 105, 131, 164, 201, 248, 300, 364, 436, 522, 618, 733, 860, 1009, 1175, 1367, 1579, 1824, 2093, 2400, 2738, 3120, 3539, 4011, 4526, 5102, 5731, 6430, 7190, 8033, 8946, 9953, 11044, 12241, 13534, 14950, 16475, 18138, 19928, 21873, 23961, 26226, 28652, 31275, 34082, 37108, 40340, 43819, 47527, 51508, 55748, 60289, 65117, 70281, 75762, 81612, 87816, 94425, 101423, 108869, 116742, 125104, 133939, 143307, 153192, 163662, 174696, 186366],
  [1, 1, 2, 3, 5, 7, 11, 15, 22, 29, 40, 52, 70, 89, 116, 146, 186, 230, 288, 352, 434, 525, 638, 764, 919, 1090, 1297, 1527, 1801, 2104, 2462, 2857, 3319, 3828, 4417, 5066, 5812, 6630, 7564, 8588, 9749, 11018, 12450, 14012, 15765, 17674, 19805, 22122, 24699, 27493, 30588, 33940, 37638, 41635, 46031, 50774, 55974, 61575, 67696, 74280, 81457, 89162, 97539, 106522, 116263, 126692, 137977, 150042, 163069, 176978, 191964, 207945, 225132, 243434, 263081, 283981, 306376, 330170, 355626, 382641, 411498],
  [1, 1, 2, 3, 5, 7, 11, 15, 22, 30, 41, 54, 73, 94, 123, 157, 201, 252, 318, 393, 488, 598, 732, 887, 1076, 1291, 1549, 1845, 2194, 2592, 3060, 3589, 4206, 4904, 5708, 6615, 7657, 8824, 10156, 11648, 13338, 15224, 17354, 19720, 22380, 25331, 28629, 32278, 36347, 40831, 45812, 51294, 57358, 64015, 71362, 79403, 88252, 97922, 108527, 120092, 132751, 146520, 161554, 177884, 195666, 214944, 235899, 258569, 283161, 309729, 338484, 369499, 403016, 439100, 478025, 519880, 564945, 613331, 665355, 721125, 780997],
  [1, 1, 2, 3, 5, 7, 11, 15, 22, 30, 42, 55, 75, 97, 128, 164, 212, 267, 340, 423, 530, 653, 807, 984, 1204, 1455, 1761, 2112, 2534, 3015, 3590, 4242, 5013, 5888, 6912, 8070, 9418, 10936, 12690, 14663, 16928, 19466, 22367, 25608, 29292, 33401, 38047, 43214, 49037, 55494, 62740, 70760, 79725, 89623, 100654, 112804, 126299, 141136, 157564, 175586, 195491, 217280, 241279, 267507, 296320, 327748, 362198, 399705, 440725, 485315, 533975, 586779, 644295, 706607, 774345, 847628, 927143, 1013036, 1106080, 1206440, 1314972],
  [1, 1, 2, 3, 5, 7, 11, 15, 22, 30, 42, 56, 76, 99, 131, 169, 219, 278, 355, 445, 560, 695, 863, 1060, 1303, 1586, 1930, 2331, 2812, 3370, 4035, 4802, 5708, 6751, 7972, 9373, 11004, 12866, 15021, 17475, 20298, 23501, 27169, 31316, 36043, 41373, 47420, 54218, 61903, 70515, 80215, 91058, 103226, 116792, 131970, 148847, 167672, 188556, 211782, 237489, 266006, 297495, 332337, 370733, 413112, 459718, 511045, 567377, 629281, 697097, 771464, 852785, 941790, 1038944, 1145078, 1260740, 1386861, 1524081, 1673457, 1835721, 2012069],
  [1, 1, 2, 3, 5, 7, 11, 15, 22, 30, 42, 56, 77, 100, 133, 172, 224, 285, 366, 460, 582, 725, 905, 1116, 1380, 1686, 2063, 2503, 3036, 3655, 4401, 5262, 6290, 7476, 8877, 10489, 12384, 14552, 17084, 19978, 23334, 27156, 31570, 36578, 42333, 48849, 56297, 64707, 74287, 85067, 97299, 111036, 126560, 143948, 163540, 185425, 210005, 237405, 268079, 302196, 340293, 382562, 429636, 481769, 539672, 603666, 674585, 752802, 839286, 934502, 1039543, 1154981, 1282083, 1421506, 1574714, 1742509, 1926533, 2127747, 2348042, 2588523, 2851355],
  [1, 1, 2, 3, 5, 7, 11, 15, 22, 30, 42, 56, 77, 101, 134, 174, 227, 290, 373, 471, 597, 747, 935, 1158, 1436, 1763, 2164, 2637, 3210, 3882, 4691, 5635, 6761, 8073, 9624, 11424, 13542, 15988, 18847, 22142, 25971, 30366, 35452, 41269, 47968, 55610, 64370, 74331, 85711, 98609, 113287, 129883, 148702, 169919, 193906, 220877, 251274, 285373, 323689, 366566, 414624, 468273, 528245, 595056, 669555, 752368, 844504, 946708, 1060163, 1185776, 1324916, 1478670, 1648649, 1836130, 2042987, 2270754, 2521589, 2797302, 3100410, 3433027, 3798063],
  [1, 1, 2, 3, 5, 7, 11, 15, 22, 30, 42, 56, 77, 101, 135, 175, 229, 293, 378, 478, 608, 762, 957, 1188, 1478, 1819, 2241, 2738, 3345, 4057, 4920, 5928, 7139, 8551, 10232, 12186, 14499, 17176, 20325, 23961, 28212, 33104, 38797, 45326, 52888, 61538, 71509, 82882, 95943, 110795, 127786, 147059, 169027, 193880, 222118, 253981, 290071, 330699, 376577, 428104, 486133, 551155, 624188, 705851, 797341, 899427, 1013531, 1140588, 1282281, 1439757, 1614987, 1809369, 2025226, 2264234, 2529120, 2821909, 3145777, 3503153, 3897751, 4332454, 4811594],
  [1, 1, 2, 3, 5, 7, 11, 15, 22, 30, 42, 56, 77, 101, 135, 176, 230, 295, 381, 483, 615, 773, 972, 1210, 1508, 1861, 2297, 2815, 3446, 4192, 5096, 6158, 7434, 8932, 10715, 12801, 15272, 18148, 21535, 25469, 30073, 35401, 41612, 48772, 57080, 66634, 77667, 90316, 104875, 121510, 140587, 162331, 187175, 215415, 247587, 284054, 325472, 372311, 425349, 485184, 552767, 628822, 714504, 810726, 918851, 1040014, 1175862, 1327763, 1497696, 1687344, 1899041, 2134841, 2397537, 2689583, 3014304, 3374676, 3774599, 4217657, 4708477, 5251305, 5851608],
  [1, 1, 2, 3, 5, 7, 11, 15, 22, 30, 42, 56, 77, 101, 135, 176, 231, 296, 383, 486, 620, 780, 983, 1225, 1530, 1891, 2339, 2871, 3523, 4293, 5231, 6334, 7665, 9228, 11098, 13287, 15892, 18928, 22518, 26694, 31603, 37292, 43951, 51643, 60603, 70927, 82898, 96650, 112540, 130738, 151685, 175618, 203067, 234343, 270105, 310748, 357075, 409603, 469300, 536827, 613370, 699749, 797402, 907376, 1031391, 1170752, 1327547, 1503381, 1700763, 1921687, 2169146, 2445589, 2754612, 3099186, 3483604, 3911503, 4387969, 4917406, 5505879, 6158681, 6882999],
  [1, 1, 2, 3, 5, 7, 11, 15, 22, 30, 42, 56, 77, 101, 135, 176, 231, 297, 384, 488, 623, 785, 990, 1236, 1545, 1913, 2369, 2913, 3579, 4370, 5332, 6469, 7841, 9459, 11395, 13671, 16380, 19551, 23303, 27684, 32839, 38837, 45864, 54012, 63516, 74506, 87268, 101982, 119009, 138579, 161144, 187013, 216738, 250723, 289656, 334051, 384759, 442442, 508137, 582691, 667382, 763265, 871908, 994644, 1133373, 1289761, 1466126, 1664525, 1887776, 2138425, 2419869, 2735245, 3088663, 3483945, 3926046, 4419640, 4970660, 5584788, 6269144, 7030589, 7877643],
  [1, 1, 2, 3, 5, 7, 11, 15, 22, 30, 42, 56, 77, 101, 135, 176, 231, 297, 385, 489, 625, 788, 995, 1243, 1556, 1928, 2391, 2943, 3621, 4426, 5409, 6570, 7976, 9635, 11626, 13968, 16765, 20040, 23928, 28472, 33834, 40080, 47420, 55940, 65907, 77449, 90889, 106408, 124418, 145149, 169120, 196648, 228364, 264691, 306421, 354091, 408687, 470914, 541971, 622771, 714802, 819205, 937815, 1072093, 1224262, 1396169, 1590544, 1809674, 2056896, 2335073, 2648233, 2999936, 3395084, 3838036, 4334733, 4890554, 5512631, 6207559, 6983946, 7849794, 8815458],
  [1, 1, 2, 3, 5, 7, 11, 15, 22, 30, 42, 56, 77, 101, 135, 176, 231, 297, 385, 490, 626, 790, 998, 1248, 1563, 1939, 2406, 2965, 3651, 4468, 5465, 6647, 8077, 9770, 11802, 14199, 17062, 20425, 24418, 29098, 34624, 41078, 48668, 57503, 67846, 79855, 93854, 110059, 128886, 150614, 175767, 204725, 238134, 276493, 320620, 371153, 429112, 495332, 571069, 657395, 755880, 867873, 995318, 1139939, 1304117, 1490023, 1700603, 1938560, 2207510, 2510840, 2852958, 3238070, 3671577, 4158656, 4705886, 5319666, 6007963, 6778628, 7641341, 8605674, 9683331],
  [1, 1, 2, 3, 5, 7, 11, 15, 22, 30, 42, 56, 77, 101, 135, 176, 231, 297, 385, 490, 627, 791, 1000, 1251, 1568, 1946, 2417, 2980, 3673, 4498, 5507, 6703, 8154, 9871, 11937, 14375, 17293, 20722, 24803, 29588, 35251, 41869, 49668, 58754, 69414, 81801, 96271, 113039, 132559, 155112, 181274, 211428, 246288, 286364, 332557, 385528, 446405, 516054, 595872, 686983, 791131, 909742, 1044986, 1198693, 1373531, 1571824, 1796874, 2051599, 2340069, 2665952, 3034232, 3449498, 3917865, 4445020, 5038443, 5705194, 6454368, 7294682, 8237213, 9292657, 10474462],
  [1, 1, 2, 3, 5, 7, 11, 15, 22, 30, 42, 56, 77, 101, 135, 176, 231, 297, 385, 490, 627, 792, 1001, 1253, 1571, 1951, 2424, 2991, 3688, 4520, 5537, 6745, 8210, 9948, 12038, 14510, 17469, 20953, 25100, 29973, 35741, 42496, 50460, 59755, 70667, 83372, 98222, 115463, 135550, 158800, 185794, 216965, 253033, 294574, 342505, 397566, 460915, 533523, 616825, 712083, 821104, 945483, 1087482, 1249153, 1433286, 1642491, 1880246, 2149821, 2455532, 2801502, 3193032, 3635292, 4134830, 4698053, 5333017, 6047699, 6851934, 7755597, 8770736, 9909482, 11186545],
  [1, 1, 2, 3, 5, 7, 11, 15, 22, 30, 42, 56, 77, 101, 135, 176, 231, 297, 385, 490, 627, 792, 1002, 1254, 1573, 1954, 2429, 2998, 3699, 4535, 5559, 6775, 8252, 10004, 12115, 14611, 17604, 21129, 25331, 30270, 36126, 42986, 51087, 60547, 71669, 84626, 99795, 117417, 137979, 161798, 189493, 221500, 258592, 301349, 350757, 407570, 473030, 548134, 634429, 733212, 846435, 975753, 1123608, 1292139, 1484373, 1703038, 1951915, 2234447, 2555327, 2918919, 3331011, 3797090, 4324323, 4919553, 5591609, 6349048, 7202691, 8163167, 9243766, 10457616, 11820974],
  [1, 1, 2, 3, 5, 7, 11, 15, 22, 30, 42, 56, 77, 101, 135, 176, 231, 297, 385, 490, 627, 792, 1002, 1255, 1574, 1956, 2432, 3003, 3706, 4546, 5574, 6797, 8282, 10046, 12171, 14688, 17705, 21264, 25507, 30501, 36423, 43371, 51577, 61174, 72461, 85628, 101050, 118991, 139935, 164230, 192496, 225206, 263138, 306923, 357554, 415852, 483076, 560305, 649117, 750917, 867699, 1001260, 1154109, 1328562, 1527744, 1754615, 2013089, 2306908, 2640955, 3019969, 3450002, 3937025, 4488553, 5112049, 5816815, 6612186, 7509614, 8520721, 9659618, 10940692, 12381279],
  [1, 1, 2, 3, 5, 7, 11, 15, 22, 30, 42, 56, 77, 101, 135, 176, 231, 297, 385, 490, 627, 792, 1002, 1255, 1575, 1957, 2434, 3006, 3711, 4553, 5585, 6812, 8304, 10076, 12213, 14744, 17782, 21365, 25642, 30677, 36654, 43668, 51962, 61664, 73088, 86420, 102052, 120246, 141510, 166187, 194930, 228212, 266849, 311476, 363139, 422664, 491380, 570381, 661330, 765661, 885481, 1022625, 1179751, 1359239, 1564398, 1798283, 2065051, 2368572, 2714043, 3106389, 3552054, 4057271, 4630063, 5278236, 6011745, 6840398, 7776463, 8832197, 10022757, 11363356, 12872659],
  [1, 1, 2, 3, 5, 7, 11, 15, 22, 30, 42, 56, 77, 101, 135, 176, 231, 297, 385, 490, 627, 792, 1002, 1255, 1575, 1958, 2435, 3008, 3714, 4558, 5592, 6823, 8319, 10098, 12243, 14786, 17838, 21442, 25743, 30812, 36830, 43899, 52259, 62049, 73578, 87047, 102844, 121248, 142765, 167762, 196888, 230647, 269857, 315190, 367697, 428256, 498203, 578700, 671428, 777904, 900267, 1040463, 1201193, 1384982, 1595210, 1835113, 2108950, 2420831, 2776092, 3179967, 3639101, 4160115, 4751311, 5421001, 6179507, 7037286, 8007110, 9102054, 10337947, 11731053, 13300915],
  [1, 1, 2, 3, 5, 7, 11, 15, 22, 30, 42, 56, 77, 101, 135, 176, 231, 297, 385, 490, 627, 792, 1002, 1255, 1575, 1958, 2436, 3009, 3716, 4561, 5597, 6830, 8330, 10113, 12265, 14816, 17880, 21498, 25820, 30913, 36965, 44075, 52490, 62346, 73963, 87537, 103471, 122040, 143767, 169017, 198463, 232605, 272293, 318199, 371413, 432817, 503800, 585530, 679758, 788017, 912532, 1055279, 1219073, 1406480, 1621030, 1866026, 2145915, 2464906, 2828582, 3242313, 3713064, 4247652, 4854782, 5543041, 6323274, 7206303, 8205573, 9334659, 10610240, 12049252, 13672328],
  [1, 1, 2, 3, 5, 7, 11, 15, 22, 30, 42, 56, 77, 101, 135, 176, 231, 297, 385, 490, 627, 792, 1002, 1255, 1575, 1958, 2436, 3010, 3717, 4563, 5600, 6835, 8337, 10124, 12280, 14838, 17910, 21540, 25876, 30990, 37066, 44210, 52666, 62577, 74260, 87922, 103961, 122667, 144559, 170019, 199718, 234180, 274251, 320635, 374423, 436534, 508363, 591130, 686593, 796354, 922656, 1067559, 1233911, 1424390, 1642570, 1891902, 2176905, 2501972, 2872792, 3294979, 3775641, 4321912, 4942704, 5647002, 6445941, 7350862, 8375592, 9534377, 10844420, 12323503, 13992963],
  [1, 1, 2, 3, 5, 7, 11, 15, 22, 30, 42, 56, 77, 101, 135, 176, 231, 297, 385, 490, 627, 792, 1002, 1255, 1575, 1958, 2436, 3010, 3718, 4564, 5602, 6838, 8342, 10131, 12291, 14853, 17932, 21570, 25918, 31046, 37143, 44311, 52801, 62753, 74491, 88219, 104346, 123157, 145186, 170811, 200720, 235435, 275826, 322593, 376859, 439544, 512081, 595694, 692195, 803192, 930998, 1077690, 1246202, 1439243, 1660502, 1913472, 2202823, 2533018, 2909935, 3339290, 3828442, 4384665, 5017195, 5735221, 6550287, 7474019, 8520778, 9705188, 11045140, 12558938, 14268789],
  [1, 1, 2, 3, 5, 7, 11, 15, 22, 30, 42, 56, 77, 101, 135, 176, 231, 297, 385, 490, 627, 792, 1002, 1255, 1575, 1958, 2436, 3010, 3718, 4565, 5603, 6840, 8345, 10136, 12298, 14864, 17947, 21592, 25948, 31088, 37199, 44388, 52902, 62888, 74667, 88450, 104643, 123542, 145676, 171438, 201512, 236437, 277081, 324168, 378817, 441980, 515091, 599412, 696760, 808795, 937838, 1086035, 1256338, 1451541, 1675366, 1931419, 2224415, 2558966, 2941023, 3376489, 3872830, 4437567, 5080083, 5809888, 6638737, 7578662, 8644320, 9850864, 11216578, 12760450, 14505226],
  [1, 1, 2, 3, 5, 7, 11, 15, 22, 30, 42, 56, 77, 101, 135, 176, 231, 297, 385, 490, 627, 792, 1002, 1255, 1575, 1958, 2436, 3010, 3718, 4565, 5604, 6841, 8347, 10139, 12303, 14871, 17958, 21607, 25970, 31118, 37241, 44444, 52979, 62989, 74802, 88626, 104874, 123839, 146061, 171928, 202139, 237229, 278083, 325423, 380392, 443938, 517527, 602422, 700478, 813360, 943442, 1092876, 1264685, 1461680, 1687669, 1946290, 2242373, 2580573, 2966993, 3407607, 3910071, 4482011, 5133062, 5872877, 6713539, 7667288, 8749194, 9974703, 11362639, 12932378, 14707365],
  [1, 1, 2, 3, 5, 7, 11, 15, 22, 30, 42, 56, 77, 101, 135, 176, 231, 297, 385, 490, 627, 792, 1002, 1255, 1575, 1958, 2436, 3010, 3718, 4565, 5604, 6842, 8348, 10141, 12306, 14876, 17965, 21618, 25985, 31140, 37271, 44486, 53035, 63066, 74903, 88761, 105050, 124070, 146358, 172313, 202629, 237856, 278875, 326425, 381647, 445513, 519485, 604858, 703488, 817078, 948007, 1098480, 1271527, 1470028, 1697810, 1958596, 2257249, 2598538, 2988611, 3433592, 3941211, 4519282, 5177548, 5925912, 6776605, 7742191, 8837955, 10079753, 11486709, 13078736, 14879678],
  [1, 1, 2, 3, 5, 7, 11, 15, 22, 30, 42, 56, 77, 101, 135, 176, 231, 297, 385, 490, 627, 792, 1002, 1255, 1575, 1958, 2436, 3010, 3718, 4565, 5604, 6842, 8349, 10142, 12308, 14879, 17970, 21625, 25996, 31155, 37293, 44516, 53077, 63122, 74980, 88862, 105185, 124246, 146589, 172610, 203014, 238346, 279502, 327217, 382649, 446768, 521060, 606816, 705924, 820088, 951725, 1103045, 1277131, 1476870, 1706159, 1968738, 2269557, 2613417, 3006581, 3455217, 3967207, 4550437, 5214841, 5970428, 6829682, 7805313, 8912935, 10168615, 11591894, 13202982, 15026267],
  [1, 1, 2, 3, 5, 7, 11, 15, 22, 30, 42, 56, 77, 101, 135, 176, 231, 297, 385, 490, 627, 792, 1002, 1255, 1575, 1958, 2436, 3010, 3718, 4565, 5604, 6842, 8349, 10143, 12309, 14881, 17973, 21630, 26003, 31166, 37308, 44538, 53107, 63164, 75036, 88939, 105286, 124381, 146765, 172841, 203311, 238731, 279992, 327844, 383441, 447770, 522315, 608391, 707882, 822524, 954735, 1106763, 1281696, 1482474, 1713001, 1977087, 2279700, 2625726, 3021462, 3473190, 3988837, 4576440, 5246007, 6007736, 6874220, 7858420, 8976099, 10243651, 11680833, 13308268, 15150648],
  [1, 1, 2, 3, 5, 7, 11, 15, 22, 30, 42, 56, 77, 101, 135, 176, 231, 297, 385, 490, 627, 792, 1002, 1255, 1575, 1958, 2436, 3010, 3718, 4565, 5604, 6842, 8349, 10143, 12310, 14882, 17975, 21633, 26008, 31173, 37319, 44553, 53129, 63194, 75078, 88995, 105363, 124482, 146900, 173017, 203542, 239028, 280377, 328334, 384068, 448562, 523317, 609646, 709457, 824482, 957171, 1109773, 1285414, 1487039, 1718605, 1983929, 2288049, 2635869, 3033772, 3488072, 4006812, 4598073, 5272015, 6038909, 6911539, 7902973, 9029228, 10306845, 11755911, 13397263, 15256011],
  [1, 1, 2, 3, 5, 7, 11, 15, 22, 30, 42, 56, 77, 101, 135, 176, 231, 297, 385, 490, 627, 792, 1002, 1255, 1575, 1958, 2436, 3010, 3718, 4565, 5604, 6842, 8349, 10143, 12310, 14883, 17976, 21635, 26011, 31178, 37326, 44564, 53144, 63216, 75108, 89037, 105419, 124559, 147001, 173152, 203718, 239259, 280674, 328719, 384558, 449189, 524109, 610648, 710712, 826057, 959129, 1112209, 1288424, 1490757, 1723170, 1989533, 2294891, 2644218, 3043915, 3500382, 4021695, 4616049, 5293650, 6064920, 6942717, 7940299, 9073792, 10359989, 11819127, 13472371, 15345048],
  [1, 1, 2, 3, 5, 7, 11, 15, 22, 30, 42, 56, 77, 101, 135, 176, 231, 297, 385, 490, 627, 792, 1002, 1255, 1575, 1958, 2436, 3010, 3718, 4565, 5604, 6842, 8349, 10143, 12310, 14883, 17977, 21636, 26013, 31181, 37331, 44571, 53155, 63231, 75130, 89067, 105461, 124615, 147078, 173253, 203853, 239435, 280905, 329016, 384943, 449679, 524736, 611440, 711714, 827312, 960704, 1114167, 1290860, 1493767, 1726888, 1994098, 2300495, 2651060, 3052264, 3510525, 4034005, 4630932, 5311627, 6086556, 6968730, 7971480, 9111123, 10404560, 11872282, 13535602, 15420178],
  [1, 1, 2, 3, 5, 7, 11, 15, 22, 30, 42, 56, 77, 101, 135, 176, 231, 297, 385, 490, 627, 792, 1002, 1255, 1575, 1958, 2436, 3010, 3718, 4565, 5604, 6842, 8349, 10143, 12310, 14883, 17977, 21637, 26014, 31183, 37334, 44576, 53162, 63242, 75145, 89089, 105491, 124657, 147134, 173330, 203954, 239570, 281081, 329247, 385240, 450064, 525226, 612067, 712506, 828314, 961959, 1115742, 1292818, 1496203, 1729898, 1997816, 2305060, 2656664, 3059106, 3518874, 4044148, 4643242, 5326510, 6104533, 6990367, 7997494, 9142306, 10441894, 11916858, 13588764, 15483420],
  [1, 1, 2, 3, 5, 7, 11, 15, 22, 30, 42, 56, 77, 101, 135, 176, 231, 297, 385, 490, 627, 792, 1002, 1255, 1575, 1958, 2436, 3010, 3718, 4565, 5604, 6842, 8349, 10143, 12310, 14883, 17977, 21637, 26015, 31184, 37336, 44579, 53167, 63249, 75156, 89104, 105513, 124687, 147176, 173386, 204031, 239671, 281216, 329423, 385471, 450361, 525611, 612557, 713133, 829106, 962961, 1116997, 1294393, 1498161, 1732334, 2000826, 2308778, 2661229, 3064710, 3525716, 4052497, 4653385, 5338820, 6119416, 7008344, 8019131, 9168321, 10473078, 11954194, 13633343, 15536587],
  [1, 1, 2, 3, 5, 7, 11, 15, 22, 30, 42, 56, 77, 101, 135, 176, 231, 297, 385, 490, 627, 792, 1002, 1255, 1575, 1958, 2436, 3010, 3718, 4565, 5604, 6842, 8349, 10143, 12310, 14883, 17977, 21637, 26015, 31185, 37337, 44581, 53170, 63254, 75163, 89115, 105528, 124709, 147206, 173428, 204087, 239748, 281317, 329558, 385647, 450592, 525908, 612942, 713623, 829733, 963753, 1117999, 1295648, 1499736, 1734292, 2003262, 2311788, 2664947, 3069275, 3531320, 4059339, 4661734, 5348963, 6131726, 7023227, 8037108, 9189958, 10499093, 11985379, 13670680, 15581168],
  [1, 1, 2, 3, 5, 7, 11, 15, 22, 30, 42, 56, 77, 101, 135, 176, 231, 297, 385, 490, 627, 792, 1002, 1255, 1575, 1958, 2436, 3010, 3718, 4565, 5604, 6842, 8349, 10143, 12310, 14883, 17977, 21637, 26015, 31185, 37338, 44582, 53172, 63257, 75168, 89122, 105539, 124724, 147228, 173458, 204129, 239804, 281394, 329659, 385782, 450768, 526139, 613239, 714008, 830223, 964380, 1118791, 1296650, 1500991, 1735867, 2005220, 2314224, 2667957, 3072993, 3535885, 4064943, 4668576, 5357312, 6141869, 7035537, 8051991, 9207935, 10520730, 12011394, 13701865, 15618506],
  [1, 1, 2, 3, 5, 7, 11, 15, 22, 30, 42, 56, 77, 101, 135, 176, 231, 297, 385, 490, 627, 792, 1002, 1255, 1575, 1958, 2436, 3010, 3718, 4565, 5604, 6842, 8349, 10143, 12310, 14883, 17977, 21637, 26015, 31185, 37338, 44583, 53173, 63259, 75171, 89127, 105546, 124735, 147243, 173480, 204159, 239846, 281450, 329736, 385883, 450903, 526315, 613470, 714305, 830608, 964870, 1119418, 1297442, 1501993, 1737122, 2006795, 2316182, 2670393, 3076003, 3539603, 4069508, 4674180, 5364154, 6150218, 7045680, 8064301, 9222818, 10538707, 12033031, 13727880, 15649691],
  [1, 1, 2, 3, 5, 7, 11, 15, 22, 30, 42, 56, 77, 101, 135, 176, 231, 297, 385, 490, 627, 792, 1002, 1255, 1575, 1958, 2436, 3010, 3718, 4565, 5604, 6842, 8349, 10143, 12310, 14883, 17977, 21637, 26015, 31185, 37338, 44583, 53174, 63260, 75173, 89130, 105551, 124742, 147254, 173495, 204181, 239876, 281492, 329792, 385960, 451004, 526450, 613646, 714536, 830905, 965255, 1119908, 1298069, 1502785, 1738124, 2008050, 2317757, 2672351, 3078439, 3542613, 4073226, 4678745, 5369758, 6157060, 7054029, 8074444, 9235128, 10553590, 12051008, 13749517, 15675706],
  [1, 1, 2, 3, 5, 7, 11, 15, 22, 30, 42, 56, 77, 101, 135, 176, 231, 297, 385, 490, 627, 792, 1002, 1255, 1575, 1958, 2436, 3010, 3718, 4565, 5604, 6842, 8349, 10143, 12310, 14883, 17977, 21637, 26015, 31185, 37338, 44583, 53174, 63261, 75174, 89132, 105554, 124747, 147261, 173506, 204196, 239898, 281522, 329834, 386016, 451081, 526551, 613781, 714712, 831136, 965552, 1120293, 1298559, 1503412, 1738916, 2009052, 2319012, 2673926, 3080397, 3545049, 4076236, 4682463, 5374323, 6162664, 7060871, 8082793, 9245271, 10565900, 12065891, 13767494, 15697343],
  [1, 1, 2, 3, 5, 7, 11, 15, 22, 30, 42, 56, 77, 101, 135, 176, 231, 297, 385, 490, 627, 792, 1002, 1255, 1575, 1958, 2436, 3010, 3718, 4565, 5604, 6842, 8349, 10143, 12310, 14883, 17977, 21637, 26015, 31185, 37338, 44583, 53174, 63261, 75175, 89133, 105556, 124750, 147266, 173513, 204207, 239913, 281544, 329864, 386058, 451137, 526628, 613882, 714847, 831312, 965783, 1120590, 1298944, 1503902, 1739543, 2009844, 2320014, 2675181, 3081972, 3547007, 4078672, 4685473, 5378041, 6167229, 7066475, 8089635, 9253620, 10576043, 12078201, 13782377, 15715320],
  [1, 1, 2, 3, 5, 7, 11, 15, 22, 30, 42, 56, 77, 101, 135, 176, 231, 297, 385, 490, 627, 792, 1002, 1255, 1575, 1958, 2436, 3010, 3718, 4565, 5604, 6842, 8349, 10143, 12310, 14883, 17977, 21637, 26015, 31185, 37338, 44583, 53174, 63261, 75175, 89134, 105557, 124752, 147269, 173518, 204214, 239924, 281559, 329886, 386088, 451179, 526684, 613959, 714948, 831447, 965959, 1120821, 1299241, 1504287, 1740033, 2010471, 2320806, 2676183, 3083227, 3548582, 4080630, 4687909, 5381051, 6170947, 7071040, 8095239, 9260462, 10584392, 12088344, 13794687, 15730203],
  [1, 1, 2, 3, 5, 7, 11, 15, 22, 30, 42, 56, 77, 101, 135, 176, 231, 297, 385, 490, 627, 792, 1002, 1255, 1575, 1958, 2436, 3010, 3718, 4565, 5604, 6842, 8349, 10143, 12310, 14883, 17977, 21637, 26015, 31185, 37338, 44583, 53174, 63261, 75175, 89134, 105558, 124753, 147271, 173521, 204219, 239931, 281570, 329901, 386110, 451209, 526726, 614015, 715025, 831548, 966094, 1120997, 1299472, 1504584, 1740418, 2010961, 2321433, 2676975, 3084229, 3549837, 4082205, 4689867, 5383487, 6173957, 7074758, 8099804, 9266066, 10591234, 12096693, 13804830, 15742513],
  [1, 1, 2, 3, 5, 7, 11, 15, 22, 30, 42, 56, 77, 101, 135, 176, 231, 297, 385, 490, 627, 792, 1002, 1255, 1575, 1958, 2436, 3010, 3718, 4565, 5604, 6842, 8349, 10143, 12310, 14883, 17977, 21637, 26015, 31185, 37338, 44583, 53174, 63261, 75175, 89134, 105558, 124754, 147272, 173523, 204222, 239936, 281577, 329912, 386125, 451231, 526756, 614057, 715081, 831625, 966195, 1121132, 1299648, 1504815, 1740715, 2011346, 2321923, 2677602, 3085021, 3550839, 4083460, 4691442, 5385445, 6176393, 7077768, 8103522, 9270631, 10596838, 12103535, 13813179, 15752656],
  [1, 1, 2, 3, 5, 7, 11, 15, 22, 30, 42, 56, 77, 101, 135, 176, 231, 297, 385, 490, 627, 792, 1002, 1255, 1575, 1958, 2436, 3010, 3718, 4565, 5604, 6842, 8349, 10143, 12310, 14883, 17977, 21637, 26015, 31185, 37338, 44583, 53174, 63261, 75175, 89134, 105558, 124754, 147273, 173524, 204224, 239939, 281582, 329919, 386136, 451246, 526778, 614087, 715123, 831681, 966272, 1121233, 1299783, 1504991, 1740946, 2011643, 2322308, 2678092, 3085648, 3551631, 4084462, 4692697, 5387020, 6178351, 7080204, 8106532, 9274349, 10601403, 12109139, 13820021, 15761005],
  [1, 1, 2, 3, 5, 7, 11, 15, 22, 30, 42, 56, 77, 101, 135, 176, 231, 297, 385, 490, 627, 792, 1002, 1255, 1575, 1958, 2436, 3010, 3718, 4565, 5604, 6842, 8349, 10143, 12310, 14883, 17977, 21637, 26015, 31185, 37338, 44583, 53174, 63261, 75175, 89134, 105558, 124754, 147273, 173525, 204225, 239941, 281585, 329924, 386143, 451257, 526793, 614109, 715153, 831723, 966328, 1121310, 1299884, 1505126, 1741122, 2011874, 2322605, 2678477, 3086138, 3552258, 4085254, 4693699, 5388275, 6179926, 7082162, 8108968, 9277359, 10605121, 12113704, 13825625, 15767847],
  [1, 1, 2, 3, 5, 7, 11, 15, 22, 30, 42, 56, 77, 101, 135, 176, 231, 297, 385, 490, 627, 792, 1002, 1255, 1575, 1958, 2436, 3010, 3718, 4565, 5604, 6842, 8349, 10143, 12310, 14883, 17977, 21637, 26015, 31185, 37338, 44583, 53174, 63261, 75175, 89134, 105558, 124754, 147273, 173525, 204226, 239942, 281587, 329927, 386148, 451264, 526804, 614124, 715175, 831753, 966370, 1121366, 1299961, 1505227, 1741257, 2012050, 2322836, 2678774, 3086523, 3552748, 4085881, 4694491, 5389277, 6181181, 7083737, 8110926, 9279795, 10608131, 12117422, 13830190, 15773451],
  [1, 1, 2, 3, 5, 7, 11, 15, 22, 30, 42, 56, 77, 101, 135, 176, 231, 297, 385, 490, 627, 792, 1002, 1255, 1575, 1958, 2436, 3010, 3718, 4565, 5604, 6842, 8349, 10143, 12310, 14883, 17977, 21637, 26015, 31185, 37338, 44583, 53174, 63261, 75175, 89134, 105558, 124754, 147273, 173525, 204226, 239943, 281588, 329929, 386151, 451269, 526811, 614135, 715190, 831775, 966400, 1121408, 1300017, 1505304, 1741358, 2012185, 2323012, 2679005, 3086820, 3553133, 4086371, 4695118, 5390069, 6182183, 7084992, 8112501, 9281753, 10610567, 12120432, 13833908, 15778016],
  [1, 1, 2, 3, 5, 7, 11, 15, 22, 30, 42, 56, 77, 101, 135, 176, 231, 297, 385, 490, 627, 792, 1002, 1255, 1575, 1958, 2436, 3010, 3718, 4565, 5604, 6842, 8349, 10143, 12310, 14883, 17977, 21637, 26015, 31185, 37338, 44583, 53174, 63261, 75175, 89134, 105558, 124754, 147273, 173525, 204226, 239943, 281589, 329930, 386153, 451272, 526816, 614142, 715201, 831790, 966422, 1121438, 1300059, 1505360, 1741435, 2012286, 2323147, 2679181, 3087051, 3553430, 4086756, 4695608, 5390696, 6182975, 7085994, 8113756, 9283328, 10612525, 12122868, 13836918, 15781734],
  [1, 1, 2, 3, 5, 7, 11, 15, 22, 30, 42, 56, 77, 101, 135, 176, 231, 297, 385, 490, 627, 792, 1002, 1255, 1575, 1958, 2436, 3010, 3718, 4565, 5604, 6842, 8349, 10143, 12310, 14883, 17977, 21637, 26015, 31185, 37338, 44583, 53174, 63261, 75175, 89134, 105558, 124754, 147273, 173525, 204226, 239943, 281589, 329931, 386154, 451274, 526819, 614147, 715208, 831801, 966437, 1121460, 1300089, 1505402, 1741491, 2012363, 2323248, 2679316, 3087227, 3553661, 4087053, 4695993, 5391186, 6183602, 7086786, 8114758, 9284583, 10614100, 12124826, 13839354, 15784744],
  [1, 1, 2, 3, 5, 7, 11, 15, 22, 30, 42, 56, 77, 101, 135, 176, 231, 297, 385, 490, 627, 792, 1002, 1255, 1575, 1958, 2436, 3010, 3718, 4565, 5604, 6842, 8349, 10143, 12310, 14883, 17977, 21637, 26015, 31185, 37338, 44583, 53174, 63261, 75175, 89134, 105558, 124754, 147273, 173525, 204226, 239943, 281589, 329931, 386155, 451275, 526821, 614150, 715213, 831808, 966448, 1121475, 1300111, 1505432, 1741533, 2012419, 2323325, 2679417, 3087362, 3553837, 4087284, 4696290, 5391571, 6184092, 7087413, 8115550, 9285585, 10615355, 12126401, 13841312, 15787180],
  [1, 1, 2, 3, 5, 7, 11, 15, 22, 30, 42, 56, 77, 101, 135, 176, 231, 297, 385, 490, 627, 792, 1002, 1255, 1575, 1958, 2436, 3010, 3718, 4565, 5604, 6842, 8349, 10143, 12310, 14883, 17977, 21637, 26015, 31185, 37338, 44583, 53174, 63261, 75175, 89134, 105558, 124754, 147273, 173525, 204226, 239943, 281589, 329931, 386155, 451276, 526822, 614152, 715216, 831813, 966455, 1121486, 1300126, 1505454, 1741563, 2012461, 2323381, 2679494, 3087463, 3553972, 4087460, 4696521, 5391868, 6184477, 7087903, 8116177, 9286377, 10616357, 12127656, 13842887, 15789138],
  [1, 1, 2, 3, 5, 7, 11, 15, 22, 30, 42, 56, 77, 101, 135, 176, 231, 297, 385, 490, 627, 792, 1002, 1255, 1575, 1958, 2436, 3010, 3718, 4565, 5604, 6842, 8349, 10143, 12310, 14883, 17977, 21637, 26015, 31185, 37338, 44583, 53174, 63261, 75175, 89134, 105558, 124754, 147273, 173525, 204226, 239943, 281589, 329931, 386155, 451276, 526823, 614153, 715218, 831816, 966460, 1121493, 1300137, 1505469, 1741585, 2012491, 2323423, 2679550, 3087540, 3554073, 4087595, 4696697, 5392099, 6184774, 7088288, 8116667, 9287004, 10617149, 12128658, 13844142, 15790713],
  [1, 1, 2, 3, 5, 7, 11, 15, 22, 30, 42, 56, 77, 101, 135, 176, 231, 297, 385, 490, 627, 792, 1002, 1255, 1575, 1958, 2436, 3010, 3718, 4565, 5604, 6842, 8349, 10143, 12310, 14883, 17977, 21637, 26015, 31185, 37338, 44583, 53174, 63261, 75175, 89134, 105558, 124754, 147273, 173525, 204226, 239943, 281589, 329931, 386155, 451276, 526823, 614154, 715219, 831818, 966463, 1121498, 1300144, 1505480, 1741600, 2012513, 2323453, 2679592, 3087596, 3554150, 4087696, 4696832, 5392275, 6185005, 7088585, 8117052, 9287494, 10617776, 12129450, 13845144, 15791968],
  [1, 1, 2, 3, 5, 7, 11, 15, 22, 30, 42, 56, 77, 101, 135, 176, 231, 297, 385, 490, 627, 792, 1002, 1255, 1575, 1958, 2436, 3010, 3718, 4565, 5604, 6842, 8349, 10143, 12310, 14883, 17977, 21637, 26015, 31185, 37338, 44583, 53174, 63261, 75175, 89134, 105558, 124754, 147273, 173525, 204226, 239943, 281589, 329931, 386155, 451276, 526823, 614154, 715220, 831819, 966465, 1121501, 1300149, 1505487, 1741611, 2012528, 2323475, 2679622, 3087638, 3554206, 4087773, 4696933, 5392410, 6185181, 7088816, 8117349, 9287879, 10618266, 12130077, 13845936, 15792970],
  [1, 1, 2, 3, 5, 7, 11, 15, 22, 30, 42, 56, 77, 101, 135, 176, 231, 297, 385, 490, 627, 792, 1002, 1255, 1575, 1958, 2436, 3010, 3718, 4565, 5604, 6842, 8349, 10143, 12310, 14883, 17977, 21637, 26015, 31185, 37338, 44583, 53174, 63261, 75175, 89134, 105558, 124754, 147273, 173525, 204226, 239943, 281589, 329931, 386155, 451276, 526823, 614154, 715220, 831820, 966466, 1121503, 1300152, 1505492, 1741618, 2012539, 2323490, 2679644, 3087668, 3554248, 4087829, 4697010, 5392511, 6185316, 7088992, 8117580, 9288176, 10618651, 12130567, 13846563, 15793762],
  [1, 1, 2, 3, 5, 7, 11, 15, 22, 30, 42, 56, 77, 101, 135, 176, 231, 297, 385, 490, 627, 792, 1002, 1255, 1575, 1958, 2436, 3010, 3718, 4565, 5604, 6842, 8349, 10143, 12310, 14883, 17977, 21637, 26015, 31185, 37338, 44583, 53174, 63261, 75175, 89134, 105558, 124754, 147273, 173525, 204226, 239943, 281589, 329931, 386155, 451276, 526823, 614154, 715220, 831820, 966467, 1121504, 1300154, 1505495, 1741623, 2012546, 2323501, 2679659, 3087690, 3554278, 4087871, 4697066, 5392588, 6185417, 7089127, 8117756, 9288407, 10618948, 12130952, 13847053, 15794389],
  [1, 1, 2, 3, 5, 7, 11, 15, 22, 30, 42, 56, 77, 101, 135, 176, 231, 297, 385, 490, 627, 792, 1002, 1255, 1575, 1958, 2436, 3010, 3718, 4565, 5604, 6842, 8349, 10143, 12310, 14883, 17977, 21637, 26015, 31185, 37338, 44583, 53174, 63261, 75175, 89134, 105558, 124754, 147273, 173525, 204226, 239943, 281589, 329931, 386155, 451276, 526823, 614154, 715220, 831820, 966467, 1121505, 1300155, 1505497, 1741626, 2012551, 2323508, 2679670, 3087705, 3554300, 4087901, 4697108, 5392644, 6185494, 7089228, 8117891, 9288583, 10619179, 12131249, 13847438, 15794879],
  [1, 1, 2, 3, 5, 7, 11, 15, 22, 30, 42, 56, 77, 101, 135, 176, 231, 297, 385, 490, 627, 792, 1002, 1255, 1575, 1958, 2436, 3010, 3718, 4565, 5604, 6842, 8349, 10143, 12310, 14883, 17977, 21637, 26015, 31185, 37338, 44583, 53174, 63261, 75175, 89134, 105558, 124754, 147273, 173525, 204226, 239943, 281589, 329931, 386155, 451276, 526823, 614154, 715220, 831820, 966467, 1121505, 1300156, 1505498, 1741628, 2012554, 2323513, 2679677, 3087716, 3554315, 4087923, 4697138, 5392686, 6185550, 7089305, 8117992, 9288718, 10619355, 12131480, 13847735, 15795264],
  [1, 1, 2, 3, 5, 7, 11, 15, 22, 30, 42, 56, 77, 101, 135, 176, 231, 297, 385, 490, 627, 792, 1002, 1255, 1575, 1958, 2436, 3010, 3718, 4565, 5604, 6842, 8349, 10143, 12310, 14883, 17977, 21637, 26015, 31185, 37338, 44583, 53174, 63261, 75175, 89134, 105558, 124754, 147273, 173525, 204226, 239943, 281589, 329931, 386155, 451276, 526823, 614154, 715220, 831820, 966467, 1121505, 1300156, 1505499, 1741629, 2012556, 2323516, 2679682, 3087723, 3554326, 4087938, 4697160, 5392716, 6185592, 7089361, 8118069, 9288819, 10619490, 12131656, 13847966, 15795561],
  [1, 1, 2, 3, 5, 7, 11, 15, 22, 30, 42, 56, 77, 101, 135, 176, 231, 297, 385, 490, 627, 792, 1002, 1255, 1575, 1958, 2436, 3010, 3718, 4565, 5604, 6842, 8349, 10143, 12310, 14883, 17977, 21637, 26015, 31185, 37338, 44583, 53174, 63261, 75175, 89134, 105558, 124754, 147273, 173525, 204226, 239943, 281589, 329931, 386155, 451276, 526823, 614154, 715220, 831820, 966467, 1121505, 1300156, 1505499, 1741630, 2012557, 2323518, 2679685, 3087728, 3554333, 4087949, 4697175, 5392738, 6185622, 7089403, 8118125, 9288896, 10619591, 12131791, 13848142, 15795792],
  [1, 1, 2, 3, 5, 7, 11, 15, 22, 30, 42, 56, 77, 101, 135, 176, 231, 297, 385, 490, 627, 792, 1002, 1255, 1575, 1958, 2436, 3010, 3718, 4565, 5604, 6842, 8349, 10143, 12310, 14883, 17977, 21637, 26015, 31185, 37338, 44583, 53174, 63261, 75175, 89134, 105558, 124754, 147273, 173525, 204226, 239943, 281589, 329931, 386155, 451276, 526823, 614154, 715220, 831820, 966467, 1121505, 1300156, 1505499, 1741630, 2012558, 2323519, 2679687, 3087731, 3554338, 4087956, 4697186, 5392753, 6185644, 7089433, 8118167, 9288952, 10619668, 12131892, 13848277, 15795968],
  [1, 1, 2, 3, 5, 7, 11, 15, 22, 30, 42, 56, 77, 101, 135, 176, 231, 297, 385, 490, 627, 792, 1002, 1255, 1575, 1958, 2436, 3010, 3718, 4565, 5604, 6842, 8349, 10143, 12310, 14883, 17977, 21637, 26015, 31185, 37338, 44583, 53174, 63261, 75175, 89134, 105558, 124754, 147273, 173525, 204226, 239943, 281589, 329931, 386155, 451276, 526823, 614154, 715220, 831820, 966467, 1121505, 1300156, 1505499, 1741630, 2012558, 2323520, 2679688, 3087733, 3554341, 4087961, 4697193, 5392764, 6185659, 7089455, 8118197, 9288994, 10619724, 12131969, 13848378, 15796103],
  [1, 1, 2, 3, 5, 7, 11, 15, 22, 30, 42, 56, 77, 101, 135, 176, 231, 297, 385, 490, 627, 792, 1002, 1255, 1575, 1958, 2436, 3010, 3718, 4565, 5604, 6842, 8349, 10143, 12310, 14883, 17977, 21637, 26015, 31185, 37338, 44583, 53174, 63261, 75175, 89134, 105558, 124754, 147273, 173525, 204226, 239943, 281589, 329931, 386155, 451276, 526823, 614154, 715220, 831820, 966467, 1121505, 1300156, 1505499, 1741630, 2012558, 2323520, 2679689, 3087734, 3554343, 4087964, 4697198, 5392771, 6185670, 7089470, 8118219, 9289024, 10619766, 12132025, 13848455, 15796204],
  [1, 1, 2, 3, 5, 7, 11, 15, 22, 30, 42, 56, 77, 101, 135, 176, 231, 297, 385, 490, 627, 792, 1002, 1255, 1575, 1958, 2436, 3010, 3718, 4565, 5604, 6842, 8349, 10143, 12310, 14883, 17977, 21637, 26015, 31185, 37338, 44583, 53174, 63261, 75175, 89134, 105558, 124754, 147273, 173525, 204226, 239943, 281589, 329931, 386155, 451276, 526823, 614154, 715220, 831820, 966467, 1121505, 1300156, 1505499, 1741630, 2012558, 2323520, 2679689, 3087735, 3554344, 4087966, 4697201, 5392776, 6185677, 7089481, 8118234, 9289046, 10619796, 12132067, 13848511, 15796281],
  [1, 1, 2, 3, 5, 7, 11, 15, 22, 30, 42, 56, 77, 101, 135, 176, 231, 297, 385, 490, 627, 792, 1002, 1255, 1575, 1958, 2436, 3010, 3718, 4565, 5604, 6842, 8349, 10143, 12310, 14883, 17977, 21637, 26015, 31185, 37338, 44583, 53174, 63261, 75175, 89134, 105558, 124754, 147273, 173525, 204226, 239943, 281589, 329931, 386155, 451276, 526823, 614154, 715220, 831820, 966467, 1121505, 1300156, 1505499, 1741630, 2012558, 2323520, 2679689, 3087735, 3554345, 4087967, 4697203, 5392779, 6185682, 7089488, 8118245, 9289061, 10619818, 12132097, 13848553, 15796337],
  [1, 1, 2, 3, 5, 7, 11, 15, 22, 30, 42, 56, 77, 101, 135, 176, 231, 297, 385, 490, 627, 792, 1002, 1255, 1575, 1958, 2436, 3010, 3718, 4565, 5604, 6842, 8349, 10143, 12310, 14883, 17977, 21637, 26015, 31185, 37338, 44583, 53174, 63261, 75175, 89134, 105558, 124754, 147273, 173525, 204226, 239943, 281589, 329931, 386155, 451276, 526823, 614154, 715220, 831820, 966467, 1121505, 1300156, 1505499, 1741630, 2012558, 2323520, 2679689, 3087735, 3554345, 4087968, 4697204, 5392781, 6185685, 7089493, 8118252, 9289072, 10619833, 12132119, 13848583, 15796379],
  [1, 1, 2, 3, 5, 7, 11, 15, 22, 30, 42, 56, 77, 101, 135, 176, 231, 297, 385, 490, 627, 792, 1002, 1255, 1575, 1958, 2436, 3010, 3718, 4565, 5604, 6842, 8349, 10143, 12310, 14883, 17977, 21637, 26015, 31185, 37338, 44583, 53174, 63261, 75175, 89134, 105558, 124754, 147273, 173525, 204226, 239943, 281589, 329931, 386155, 451276, 526823, 614154, 715220, 831820, 966467, 1121505, 1300156, 1505499, 1741630, 2012558, 2323520, 2679689, 3087735, 3554345, 4087968, 4697205, 5392782, 6185687, 7089496, 8118257, 9289079, 10619844, 12132134, 13848605, 15796409],
  [1, 1, 2, 3, 5, 7, 11, 15, 22, 30, 42, 56, 77, 101, 135, 176, 231, 297, 385, 490, 627, 792, 1002, 1255, 1575, 1958, 2436, 3010, 3718, 4565, 5604, 6842, 8349, 10143, 12310, 14883, 17977, 21637, 26015, 31185, 37338, 44583, 53174, 63261, 75175, 89134, 105558, 124754, 147273, 173525, 204226, 239943, 281589, 329931, 386155, 451276, 526823, 614154, 715220, 831820, 966467, 1121505, 1300156, 1505499, 1741630, 2012558, 2323520, 2679689, 3087735, 3554345, 4087968, 4697205, 5392783, 6185688, 7089498, 8118260, 9289084, 10619851, 12132145, 13848620, 15796431],
  [1, 1, 2, 3, 5, 7, 11, 15, 22, 30, 42, 56, 77, 101, 135, 176, 231, 297, 385, 490, 627, 792, 1002, 1255, 1575, 1958, 2436, 3010, 3718, 4565, 5604, 6842, 8349, 10143, 12310, 14883, 17977, 21637, 26015, 31185, 37338, 44583, 53174, 63261, 75175, 89134, 105558, 124754, 147273, 173525, 204226, 239943, 281589, 329931, 386155, 451276, 526823, 614154, 715220, 831820, 966467, 1121505, 1300156, 1505499, 1741630, 2012558, 2323520, 2679689, 3087735, 3554345, 4087968, 4697205, 5392783, 6185689, 7089499, 8118262, 9289087, 10619856, 12132152, 13848631, 15796446],
  [1, 1, 2, 3, 5, 7, 11, 15, 22, 30, 42, 56, 77, 101, 135, 176, 231, 297, 385, 490, 627, 792, 1002, 1255, 1575, 1958, 2436, 3010, 3718, 4565, 5604, 6842, 8349, 10143, 12310, 14883, 17977, 21637, 26015, 31185, 37338, 44583, 53174, 63261, 75175, 89134, 105558, 124754, 147273, 173525, 204226, 239943, 281589, 329931, 386155, 451276, 526823, 614154, 715220, 831820, 966467, 1121505, 1300156, 1505499, 1741630, 2012558, 2323520, 2679689, 3087735, 3554345, 4087968, 4697205, 5392783, 6185689, 7089500, 8118263, 9289089, 10619859, 12132157, 13848638, 15796457],
  [1, 1, 2, 3, 5, 7, 11, 15, 22, 30, 42, 56, 77, 101, 135, 176, 231, 297, 385, 490, 627, 792, 1002, 1255, 1575, 1958, 2436, 3010, 3718, 4565, 5604, 6842, 8349, 10143, 12310, 14883, 17977, 21637, 26015, 31185, 37338, 44583, 53174, 63261, 75175, 89134, 105558, 124754, 147273, 173525, 204226, 239943, 281589, 329931, 386155, 451276, 526823, 614154, 715220, 831820, 966467, 1121505, 1300156, 1505499, 1741630, 2012558, 2323520, 2679689, 3087735, 3554345, 4087968, 4697205, 5392783, 6185689, 7089500, 8118264, 9289090, 10619861, 12132160, 13848643, 15796464],
  [1, 1, 2, 3, 5, 7, 11, 15, 22, 30, 42, 56, 77, 101, 135, 176, 231, 297, 385, 490, 627, 792, 1002, 1255, 1575, 1958, 2436, 3010, 3718, 4565, 5604, 6842, 8349, 10143, 12310, 14883, 17977, 21637, 26015, 31185, 37338, 44583, 53174, 63261, 75175, 89134, 105558, 124754, 147273, 173525, 204226, 239943, 281589, 329931, 386155, 451276, 526823, 614154, 715220, 831820, 966467, 1121505, 1300156, 1505499, 1741630, 2012558, 2323520, 2679689, 3087735, 3554345, 4087968, 4697205, 5392783, 6185689, 7089500, 8118264, 9289091, 10619862, 12132162, 13848646, 15796469],
  [1, 1, 2, 3, 5, 7, 11, 15, 22, 30, 42, 56, 77, 101, 135, 176, 231, 297, 385, 490, 627, 792, 1002, 1255, 1575, 1958, 2436, 3010, 3718, 4565, 5604, 6842, 8349, 10143, 12310, 14883, 17977, 21637, 26015, 31185, 37338, 44583, 53174, 63261, 75175, 89134, 105558, 124754, 147273, 173525, 204226, 239943, 281589, 329931, 386155, 451276, 526823, 614154, 715220, 831820, 966467, 1121505, 1300156, 1505499, 1741630, 2012558, 2323520, 2679689, 3087735, 3554345, 4087968, 4697205, 5392783, 6185689, 7089500, 8118264, 9289091, 10619863, 12132163, 13848648, 15796472],
  [1, 1, 2, 3, 5, 7, 11, 15, 22, 30, 42, 56, 77, 101, 135, 176, 231, 297, 385, 490, 627, 792, 1002, 1255, 1575, 1958, 2436, 3010, 3718, 4565, 5604, 6842, 8349, 10143, 12310, 14883, 17977, 21637, 26015, 31185, 37338, 44583, 53174, 63261, 75175, 89134, 105558, 124754, 147273, 173525, 204226, 239943, 281589, 329931, 386155, 451276, 526823, 614154, 715220, 831820, 966467, 1121505, 1300156, 1505499, 1741630, 2012558, 2323520, 2679689, 3087735, 3554345, 4087968, 4697205, 5392783, 6185689, 7089500, 8118264, 9289091, 10619863, 12132164, 13848649, 15796474],
  [1, 1, 2, 3, 5, 7, 11, 15, 22, 30, 42, 56, 77, 101, 135, 176, 231, 297, 385, 490, 627, 792, 1002, 1255, 1575, 1958, 2436, 3010, 3718, 4565, 5604, 6842, 8349, 10143, 12310, 14883, 17977, 21637, 26015, 31185, 37338, 44583, 53174, 63261, 75175, 89134, 105558, 124754, 147273, 173525, 204226, 239943, 281589, 329931, 386155, 451276, 526823, 614154, 715220, 831820, 966467, 1121505, 1300156, 1505499, 1741630, 2012558, 2323520, 2679689, 3087735, 3554345, 4087968, 4697205, 5392783, 6185689, 7089500, 8118264, 9289091, 10619863, 12132164, 13848650, 15796475],
  [1, 1, 2, 3, 5, 7, 11, 15, 22, 30, 42, 56, 77, 101, 135, 176, 231, 297, 385, 490, 627, 792, 1002, 1255, 1575, 1958, 2436, 3010, 3718, 4565, 5604, 6842, 8349, 10143, 12310, 14883, 17977, 21637, 26015, 31185, 37338, 44583, 53174, 63261, 75175, 89134, 105558, 124754, 147273, 173525, 204226, 239943, 281589, 329931, 386155, 451276, 526823, 614154, 715220, 831820, 966467, 1121505, 1300156, 1505499, 1741630, 2012558, 2323520, 2679689, 3087735, 3554345, 4087968, 4697205, 5392783, 6185689, 7089500, 8118264, 9289091, 10619863, 12132164, 13848650, 15796476]]
def R20 : List (List Nat) := [[1, 1, 1, 1, 1, 1, 1, 1, 1, 1, 1, 1, 1, 1, 1, 1, 1, 1, 1, 1, 1, 1, 1, 1, 1, 1, 1, 1, 1, 1, 1, 1, 1, 1, 1, 1, 1, 1, 1, 1, 1, 1, 1, 1, 1, 1, 1, 1, 1, 1, 1, 1, 1, 1, 1, 1, 1, 1, 1, 1, 1, 1, 1, 1, 1, 1, 1, 1, 1, 1, 1, 1, 1, 1, 1, 1, 1, 1, 1, 1, 1, 1, 1, 1, 1, 1, 1, 1, 1, 1, 1, 1, 1, 1, 1, 1, 1, 1, 1, 1, 1, 1, 1, 1, 1, 1, 1, 1, 1, 1, 1, 1, 1, 1, 1, 1, 1, 1, 1, 1, 1, 1, 1, 1, 1, 1, 1, 1, 1, 1, 1, 1, 1, 1, 1, 1, 1, 1, 1, 1, 1, 1, 1, 1, 1, 1, 1, 1, 1, 1, 1, 1, 1, 1, 1, 1, 1, 1, 1, 1, 1, 1, 1, 1, 1, 1, 1, 1, 1, 1, 1, 1, 1, 1, 1, 1, 1, 1, 1, 1, 1, 1, 1, 1, 1, 1, 1, 1, 1, 1, 1, 1, 1, 1, 1, 1, 1, 1, 1, 1, 1, 1, 1, 1, 1, 1, 1, 1, 1, 1, 1, 1, 1, 1, 1, 1, 1, 1, 1, 1, 1, 1, 1, 1, 1, 1, 1, 1, 1, 1, 1, 1, 1, 1, 1, 1, 1, 1, 1, 1, 1, 1, 1, 1, 1, 1, 1, 1, 1, 1, 1, 1, 1, 1, 1, 1, 1, 1, 1, 1, 1, 1, 1, 1, 1, 1, 1, 1, 1, 1, 1, 1, 1, 1, 1, 1, 1, 1, 1, 1, 1, 1, 1, 1, 1, 1, 1, 1, 1, 1, 1, 1, 1, 1, 1, 1, 1, 1, 1, 1, 1, 1, 1, 1, 1, 1, 1, 1, 1, 1, 1, 1, 1, 1, 1, 1, 1, 1, 1, 1, 1, 1, 1, 1, 1, 1, 1, 1, 1, 1, 1, 1, 1, 1, 1, 1, 1, 1, 1, 1, 1, 1, 1, 1, 1, 1, 1, 1, 1, 1, 1, 1, 1, 1, 1, 1, 1, 1, 1, 1, 1, 1, 1, 1, 1, 1, 1, 1, 1, 1, 1, 1, 1, 1, 1, 1, 1, 1, 1, 1, 1, 1, 1, 1, 1, 1, 1, 1, 1, 1, 1, 1, 1, 1, 1, 1, 1, 1, 1, 1, 1],
  [1, 1, 2, 2, 3, 3, 4, 4, 5, 5, 6, 6, 7, 7, 8, 8, 9, 9, 10, 10, 11, 11, 12, 12, 13, 13, 14, 14, 15, 15, 16, 16, 17, 17, 18, 18, 19, 19, 20, 20, 21, 21, 22, 22, 23, 23, 24, 24, 25, 25, 26, 26, 27, 27, 28, 28, 29, 29, 30, 30, 31, 31, 32, 32, 33, 33, 34, 34, 35, 35, 36, 36, 37, 37, 38, 38, 39, 39, 40, 40, 41, 41, 42, 42, 43, 43, 44, 44, 45, 45, 46, 46, 47, 47, 48, 48, 49, 49, 50, 50, 51, 51, 52, 52, 53, 53, 54, 54, 55, 55, 56, 56, 57, 57, 58, 58, 59, 59, 60, 60, 61, 61, 62, 62, 63, 63, 64, 64, 65, 65, 66, 66, 67, 67, 68, 68, 69, 69, 70, 70, 71, 71, 72, 72, 73, 73, 74, 74, 75, 75, 76, 76, 77, 77, 78, 78, 79, 79, 80, 80, 81, 81, 82, 82, 83, 83, 84, 84, 85, 85, 86, 86, 87, 87, 88, 88, 89, 89, 90, 90, 91, 91, 92, 92, 93, 93, 94, 94, 95, 95, 96, 96, 97, 97, 98, 98, 99, 99, 100, 100, 101, 101, 102, 102, 103, 103, 104, 104, 105, 105, 106, 106, 107, 107, 108, 108, 109, 109, 110, 110, 111, 111, 112, 112, 113, 113, 114, 114, 115, 115, 116, 116, 117, 117, 118, 118, 119, 119, 120, 120, 121, 121, 122, 122, 123, 123, 124, 124, 125, 125, 126, 126, 127, 127, 128, 128, 129, 129, 130, 130, 131, 131, 132, 132, 133, 133, 134, 134, 135, 135, 136, 136, 137, 137, 138, 138, 139, 139, 140, 140, 141, 141, 142, 142, 143, 143, 144, 144, 145, 145, 146, 146, 147, 147, 148, 148, 149, 149, 150, 150, 151, 151, 152, 152, 153, 153, 154, 154, 155, 155, 156, 156, 157, 157, 158, 158, 159, 159, 160, 160, 161, 161, 162, 162, 163, 163, 164, 164, 165, 165, 166, 166, 167, 167, 168, 168, 169, 169, 170, 170, 171, 171, 172, 172, 173, 173, 174, 174, 175, 175, 176, 176, 177, 177, 178, 178, 179, 179, 180, 180, 181, 181, 182, 182, 183, 183, 184, 184, 185, 185, 186, 186, 187, 187, 188, 188, 189, 189, 190, 190, 191, 191, 192, 192, 193, 193, 194, 194, 195, 195, 196, 196, 197, 197, 198, 198, 199, 199, 200, 200, 201],
  [1, 1, 2, 3, 4, 5, 7, 8, 10, 12, 14, 16, 19, 21, 24, 27, 30, 33, 37, 40, 44, 48, 52, 56, 61, 65, 70, 75, 80, 85, 91, 96, 102, 108, 114, 120, 127, 133, 140, 147, 154, 161, 169, 176, 184, 192, 200, 208, 217, 225, 234, 243, 252, 261, 271, 280, 290, 300, 310, 320, 331, 341, 352, 363, 374, 385, 397, 408, 420, 432, 444, 456, 469, 481, 494, 507, 520, 533, 547, 560, 574, 588, 602, 616, 631, 645, 660, 675, 690, 705, 721, 736, 752, 768, 784, 800, 817, 833, 850, 867, 884, 901, 919, 936, 954, 972, 990, 1008, 1027, 1045, 1064, 1083, 1102, 1121, 1141, 1160, 1180, 1200, 1220, 1240, 1261, 1281, 1302, 1323, 1344, 1365, 1387, 1408, 1430, 1452, 1474, 1496, 1519, 1541, 1564, 1587, 1610, 1633, 1657, 1680, 1704, 1728, 1752, 1776, 1801, 1825, 1850, 1875, 1900, 1925, 1951, 1976, 2002, 2028, 2054, 2080, 2107, 2133, 2160, 2187, 2214, 2241, 2269, 2296, 2324, 2352, 2380, 2408, 2437, 2465, 2494, 2523, 2552, 2581, 2611, 2640, 2670, 2700, 2730, 2760, 2791, 2821, 2852, 2883, 2914, 2945, 2977, 3008, 3040, 3072, 3104, 3136, 3169, 3201, 3234, 3267, 3300, 3333, 3367, 3400, 3434, 3468, 3502, 3536, 3571, 3605, 3640, 3675, 3710, 3745, 3781, 3816, 3852, 3888, 3924, 3960, 3997, 4033, 4070, 4107, 4144, 4181, 4219, 4256, 4294, 4332, 4370, 4408, 4447, 4485, 4524, 4563, 4602, 4641, 4681, 4720, 4760, 4800, 4840, 4880, 4921, 4961, 5002, 5043, 5084, 5125, 5167, 5208, 5250, 5292, 5334, 5376, 5419, 5461, 5504, 5547, 5590, 5633, 5677, 5720, 5764, 5808, 5852, 5896, 5941, 5985, 6030, 6075, 6120, 6165, 6211, 6256, 6302, 6348, 6394, 6440, 6487, 6533, 6580, 6627, 6674, 6721, 6769, 6816, 6864, 6912, 6960, 7008, 7057, 7105, 7154, 7203, 7252, 7301, 7351, 7400, 7450, 7500, 7550, 7600, 7651, 7701, 7752, 7803, 7854, 7905, 7957, 8008, 8060, 8112, 8164, 8216, 8269, 8321, 8374, 8427, 8480, 8533, 8587, 8640, 8694, 8748, 8802, 8856, 8911, 8965, 9020, 9075, 9130, 9185, 9241, 9296, 9352, 9408, 9464, 9520, 9577, 9633, 9690, 9747, 9804, 9861, 9919, 9976, 10034, 10092, 10150, 10208, 10267, 10325, 10384, 10443, 10502, 10561, 10621, 10680, 10740, 10800, 10860, 10920, 10981, 11041, 11102, 11163, 11224, 11285, 11347, 11408, 11470, 11532, 11594, 11656, 11719, 11781, 11844, 11907, 11970, 12033, 12097, 12160, 12224, 12288, 12352, 12416, 12481, 12545, 12610, 12675, 12740, 12805, 12871, 12936, 13002, 13068, 13134, 13200, 13267, 13333, 13400, 13467, 13534],
  [1, 1, 2, 3, 5, 6, 9, 11, 15, 18, 23, 27, 34, 39, 47, 54, 64, 72, 84, 94, 108, 120, 136, 150, 169, 185, 206, 225, 249, 270, 297, 321, 351, 378, 411, 441, 478, 511, 551, 588, 632, 672, 720, 764, 816, 864, 920, 972, 1033, 1089, 1154, 1215, 1285, 1350, 1425, 1495, 1575, 1650, 1735, 1815, 1906, 1991, 2087, 2178, 2280, 2376, 2484, 2586, 2700, 2808, 2928, 3042, 3169, 3289, 3422, 3549, 3689, 3822, 3969, 4109, 4263, 4410, 4571, 4725, 4894, 5055, 5231, 5400, 5584, 5760, 5952, 6136, 6336, 6528, 6736, 6936, 7153, 7361, 7586, 7803, 8037, 8262, 8505, 8739, 8991, 9234, 9495, 9747, 10018, 10279, 10559, 10830, 11120, 11400, 11700, 11990, 12300, 12600, 12920, 13230, 13561, 13881, 14222, 14553, 14905, 15246, 15609, 15961, 16335, 16698, 17083, 17457, 17854, 18239, 18647, 19044, 19464, 19872, 20304, 20724, 21168, 21600, 22056, 22500, 22969, 23425, 23906, 24375, 24869, 25350, 25857, 26351, 26871, 27378, 27911, 28431, 28978, 29511, 30071, 30618, 31192, 31752, 32340, 32914, 33516, 34104, 34720, 35322, 35953, 36569, 37214, 37845, 38505, 39150, 39825, 40485, 41175, 41850, 42555, 43245, 43966, 44671, 45407, 46128, 46880, 47616, 48384, 49136, 49920, 50688, 51488, 52272, 53089, 53889, 54722, 55539, 56389, 57222, 58089, 58939, 59823, 60690, 61591, 62475, 63394, 64295, 65231, 66150, 67104, 68040, 69012, 69966, 70956, 71928, 72936, 73926, 74953, 75961, 77006, 78033, 79097, 80142, 81225, 82289, 83391, 84474, 85595, 86697, 87838, 88959, 90119, 91260, 92440, 93600, 94800, 95980, 97200, 98400, 99640, 100860, 102121, 103361, 104642, 105903, 107205, 108486, 109809, 111111, 112455, 113778, 115143, 116487, 117874, 119239, 120647, 122034, 123464, 124872, 126324, 127754, 129228, 130680, 132176, 133650, 135169, 136665, 138206, 139725, 141289, 142830, 144417, 145981, 147591, 149178, 150811, 152421, 154078, 155711, 157391, 159048, 160752, 162432, 164160, 165864, 167616, 169344, 171120, 172872, 174673, 176449, 178274, 180075, 181925, 183750, 185625, 187475, 189375, 191250, 193175, 195075, 197026, 198951, 200927, 202878, 204880, 206856, 208884, 210886, 212940, 214968, 217048, 219102, 221209, 223289, 225422, 227529, 229689, 231822, 234009, 236169, 238383, 240570, 242811, 245025, 247294, 249535, 251831, 254100, 256424, 258720, 261072, 263396, 265776, 268128, 270536, 272916, 275353, 277761, 280226, 282663, 285157, 287622, 290145, 292639, 295191, 297714, 300295, 302847, 305458, 308039, 310679, 313290, 315960, 318600, 321300, 323970, 326700, 329400, 332160, 334890, 337681, 340441, 343262, 346053, 348905, 351726, 354609, 357461, 360375, 363258, 366203, 369117, 372094, 375039, 378047, 381024, 384064, 387072, 390144, 393184, 396288, 399360, 402496, 405600, 408769, 411905, 415106, 418275, 421509, 424710, 427977, 431211, 434511, 437778, 441111, 444411, 447778, 451111, 454511, 457878, 461312],
  [1, 1, 2, 3, 5, 7, 10, 13, 18, 23, 30, 37, 47, 57, 70, 84, 101, 119, 141, 164, 192, 221, 255, 291, 333, 377, 427, 480, 540, 603, 674, 748, 831, 918, 1014, 1115, 1226, 1342, 1469, 1602, 1747, 1898, 2062, 2233, 2418, 2611, 2818, 3034, 3266, 3507, 3765, 4033, 4319, 4616, 4932, 5260, 5608, 5969, 6351, 6747, 7166, 7599, 8056, 8529, 9027, 9542, 10083, 10642, 11229, 11835, 12470, 13125, 13811, 14518, 15257, 16019, 16814, 17633, 18487, 19366, 20282, 21224, 22204, 23212, 24260, 25337, 26455, 27604, 28796, 30020, 31289, 32591, 33940, 35324, 36756, 38225, 39744, 41301, 42910, 44559, 46262, 48006, 49806, 51649, 53550, 55496, 57501, 59553, 61667, 63829, 66055, 68331, 70673, 73067, 75529, 78045, 80631, 83273, 85987, 88759, 91606, 94512, 97495, 100540, 103664, 106852, 110121, 113456, 116875, 120362, 123935, 127578, 131310, 135114, 139009, 142979, 147042, 151182, 155418, 159733, 164147, 168642, 173238, 177918, 182702, 187572, 192548, 197613, 202787, 208052, 213429, 218899, 224484, 230165, 235963, 241860, 247877, 253995, 260236, 266581, 273052, 279629, 286335, 293150, 300097, 307156, 314349, 321657, 329103, 336666, 344370, 352194, 360162, 368253, 376491, 384855, 393369, 402012, 410808, 419736, 428821, 438040, 447419, 456936, 466616, 476437, 486424, 496555, 506856, 517304, 527925, 538696, 549644, 560745, 572026, 583464, 595085, 606866, 618834, 630965, 643287, 655775, 668457, 681309, 694359, 707582, 721006, 734607, 748413, 762399, 776594, 790972, 805563, 820341, 835335, 850520, 865925, 881524, 897347, 913368, 929617, 946067, 962749, 979636, 996759, 1014091, 1031662, 1049446, 1067474, 1085718, 1104210, 1122922, 1141886, 1161074, 1180518, 1200190, 1220122, 1240286, 1260714, 1281378, 1302311, 1323483, 1344928, 1366617, 1388583, 1410797, 1433292, 1456039, 1479072, 1502361, 1525940, 1549779, 1573913, 1598311, 1623008, 1647974, 1673243, 1698785, 1724635, 1750762, 1777202, 1803923, 1830961, 1858285, 1885931, 1913867, 1942129, 1970686, 1999574, 2028761, 2058284, 2088110, 2118277, 2148752, 2179572, 2210705, 2242188, 2273988, 2306143, 2338620, 2371457, 2404620, 2438148, 2472007, 2506236, 2540801, 2575740, 2611020, 2646680, 2682685, 2719075, 2755815, 2792945, 2830430, 2868310, 2906550, 2945190, 2984195, 3023605, 3063385, 3103576, 3144141, 3185122, 3226483, 3268265, 3310432, 3353025, 3396008, 3439423, 3483233, 3527480, 3572127, 3617217, 3662712, 3708655, 3755009, 3801816, 3849039, 3896721, 3944824, 3993392, 4042386, 4091850, 4141746, 4192118, 4242927, 4294217, 4345950, 4398170, 4450838, 4503999, 4557613, 4611726, 4666298, 4721374, 4776915, 4832966, 4889487, 4946524, 5004037, 5062072, 5120588, 5179632, 5239163, 5299228, 5359786, 5420883, 5482479, 5544621, 5607267, 5670465, 5734173, 5798439, 5863221, 5928567, 5994435, 6060873, 6127839, 6195381, 6263457, 6332116, 6401314, 6471101, 6541434, 6612362, 6683842, 6755923, 6828562, 6901809, 6975620, 7050045, 7125040, 7200656, 7276848, 7353667, 7431069, 7509104, 7587728, 7666992, 7746851, 7827357, 7908464, 7990224, 8072592, 8155620, 8239262, 8323570, 8408499, 8494101, 8580330, 8667239, 8754781, 8843010, 8931879, 9021441, 9111650, 9202559, 9294121, 9386390, 9479319, 9572962],
  [1, 1, 2, 3, 5, 7, 11, 14, 20, 26, 35, 44, 58, 71, 90, 110, 136, 163, 199, 235, 282, 331, 391, 454, 532, 612, 709, 811, 931, 1057, 1206, 1360, 1540, 1729, 1945, 2172, 2432, 2702, 3009, 3331, 3692, 4070, 4494, 4935, 5427, 5942, 6510, 7104, 7760, 8442, 9192, 9975, 10829, 11720, 12692, 13702, 14800, 15944, 17180, 18467, 19858, 21301, 22856, 24473, 26207, 28009, 29941, 31943, 34085, 36308, 38677, 41134, 43752, 46461, 49342, 52327, 55491, 58767, 62239, 65827, 69624, 73551, 77695, 81979, 86499, 91164, 96079, 101155, 106491, 111999, 117788, 123755, 130019, 136479, 143247, 150224, 157532, 165056, 172929, 181038, 189509, 198230, 207338, 216705, 226479, 236534, 247010, 257783, 269005, 280534, 292534, 304865, 317683, 330850, 344534, 358579, 373165, 388138, 403670, 419609, 436140, 453091, 470660, 488678, 507334, 526461, 546261, 566547, 587535, 609040, 631269, 654039, 677571, 701661, 726544, 752019, 778311, 805221, 832989, 861394, 890691, 920661, 951549, 983139, 1015691, 1048966, 1083239, 1118274, 1154336, 1191191, 1229120, 1267865, 1307723, 1348439, 1390299, 1433051, 1476997, 1521860, 1567959, 1615020, 1663351, 1712680, 1763332, 1815010, 1868056, 1922176, 1977700, 2034337, 2092435, 2151676, 2212426, 2274370, 2337862, 2402590, 2468926, 2536531, 2605795, 2676382, 2748670, 2822326, 2897747, 2974571, 3053214, 3133318, 3215286, 3298763, 3384171, 3471126, 3560070, 3650622, 3743211, 3837459, 3933815, 4031871, 4132096, 4234086, 4338296, 4444325, 4552649, 4662836, 4775383, 4889861, 5006753, 5125634, 5247008, 5370418, 5496389, 5624468, 5755166, 5888033, 6023602, 6161390, 6301952, 6444809, 6590501, 6738553, 6889527, 7042914, 7199299, 7358177, 7520118, 7684620, 7852276, 8022550, 8196058, 8372268, 8551780, 8734066, 8919750, 9108268, 9300268, 9495190, 9693666, 9895140, 10100268, 10308458, 10520390, 10735476, 10954380, 11176518, 11402579, 11631941, 11865318, 12102093, 12342963, 12587315, 12835871, 13087980, 13344390, 13604454, 13868903, 14137094, 14409784, 14686291, 14967398, 15252428, 15542146, 15835879, 16134419, 16437053, 16744600, 17056351, 17373107, 17694164, 18020350, 18350920, 18686729, 19027037, 19372681, 19722925, 20078634, 20439030, 20805006, 21175789, 21552253, 21933630, 22320822, 22713018, 23111149, 23514409, 23923710, 24338250, 24758970, 25185025, 25617385, 26055210, 26499450, 26949270, 27405650, 27867710, 28336460, 28811025, 29292395, 29779700, 30273960, 30774260, 31281650, 31795220, 32316000, 32843085, 33377536, 33918401, 34466772, 35021703, 35584265, 36153517, 36730561, 37314409, 37906195, 38504936, 39111745, 39725644, 40347778, 40977121, 41614850, 42259945, 42913561, 43574683, 44244499, 44921945, 45608242, 46302331, 47005411, 47716429, 48436617, 49164872, 49902459, 50648281, 51403581, 52167267, 52940616, 53722485, 54514185, 55314579, 56124955, 56944182, 57773582, 58611972, 59460709, 60318616, 61187027, 62064770, 62953214, 63851135, 64759937, 65678402, 66607910, 67547249, 68497835, 69458402, 70430402, 71412575, 72406349, 73410470, 74426402, 75452837, 76491275, 77540414, 78601730, 79673927, 80758518, 81854151, 82962376, 84081848, 85214092, 86357769, 87514441, 88682713, 89864185, 91057468, 92264137, 93482809, 94715097, 95959561, 97217852, 98488537, 99773241, 101070537, 102382089, 103706412, 105045209, 106397001, 107763465, 109143129, 110537709, 111945674, 113368779, 114805500, 116257566, 117723459, 119204948, 120700455, 122211789, 123737379, 125279007, 126835109, 128407507, 129994576, 131598179, 133216698, 134851969],
  [1, 1, 2, 3, 5, 7, 11, 15, 21, 28, 38, 49, 65, 82, 105, 131, 164, 201, 248, 300, 364, 436, 522, 618, 733, 860, 1009, 1175, 1367, 1579, 1824, 2093, 2400, 2738, 3120, 3539, 4011, 4526, 5102, 5731, 6430, 7190, 8033, 8946, 9953, 11044, 12241, 13534, 14950, 16475, 18138, 19928, 21873, 23961, 26226, 28652, 31275, 34082, 37108, 40340, 43819, 47527, 51508, 55748, 60289, 65117, 70281, 75762, 81612, 87816, 94425, 101423, 108869, 116742, 125104, 133939, 143307, 153192, 163662, 174696, 186366, 198655, 211634, 225286, 239691, 254826, 270775, 287521, 305146, 323633, 343074, 363446, 384845, 407254, 430768, 455370, 481165, 508130, 536375, 565883, 596763, 628998, 662708, 697870, 734609, 772909, 812893, 854546, 898003, 943242, 990404, 1039474, 1090592, 1143743, 1199080, 1256582, 1316407, 1378542, 1443144, 1510201, 1579883, 1652171, 1727242, 1805085, 1885876, 1969605, 2056462, 2146430, 2239706, 2336282, 2436354, 2539915, 2647176, 2758123, 2872974, 2991725, 3114593, 3241575, 3372904, 3508570, 3648814, 3793635, 3943274, 4097732, 4257266, 4421870, 4591809, 4767088, 4947971, 5134465, 5326852, 5525131, 5729593, 5940248, 6157387, 6381022, 6611462, 6848712, 7093090, 7344613, 7603599, 7870067, 8144354, 8426472, 8716768, 9015266, 9322313, 9637936, 9962502, 10296030, 10638898, 10991138, 11353128, 11724903, 12106862, 12499033, 12901825, 13315280, 13739808, 14175454, 14622650, 15081433, 15552247, 16035143, 16530566, 17038571, 17559625, 18093776, 18641503, 19202869, 19778354, 20368025, 20972386, 21591496, 22225872, 22875589, 23541165, 24222679, 24920674, 25635222, 26366879, 27115733, 27882342, 28666799, 29469687, 30291092, 31131611, 31991347, 32870899, 33770375, 34690401, 35631077, 36593044, 37576420, 38581848, 39609452, 40659902, 41733315, 42830376, 43951221, 45096538, 46266468, 47461728, 48682452, 49929373, 51202644, 52503001, 53830604, 55186218, 56569996, 57982720, 59424563, 60896310, 62398141, 63930872, 65494676, 67090386, 68718196, 70378943, 72072828, 73800720, 75562813, 77359994, 79192479, 81061159, 82966258, 84908699, 86888700, 88907203, 90964448, 93061382, 95198253, 97376042, 99594990, 101856098, 104159631, 106506594, 108897261, 111332672, 113813095, 116339590, 118912449, 121532738, 124200758, 126917611, 129683592, 132499824, 135366627, 138285130, 141255663, 144279392, 147356641, 150488598, 153675613, 156918880, 160218760, 163576485, 166992410, 170467790, 174003007, 177599323, 181257130, 184977730, 188761510, 192609795, 196523000, 200502457, 204548593, 208662780, 212845440, 217097970, 221420820, 225815395, 230282157, 234822553, 239437040, 244127090, 248893190, 253736820, 258658480, 263659693, 268740954, 273903812, 279148793, 284477455, 289890337, 295389041, 300974102, 306647149, 312408748, 318260538, 324203099, 330238115, 336366162, 342588952, 348907094, 355322309, 361835221, 368447598, 375160060, 381974404, 388891283, 395912505, 403038738, 410271838, 417612470, 425062519, 432622685, 440294864, 448079772, 455979354, 463994323, 472126655, 480377098, 488747640, 497239046, 505853354, 514591326, 523455032, 532445271, 541564125, 550812410, 560192260, 569704489, 579351263, 589133434, 599053181, 609111374, 619310245, 629650662, 640134891, 650763838, 661539783, 672463651, 683537776, 694763082, 706141937, 717675305, 729365568, 741213710, 753222169, 765391927, 777725458, 790223785, 802889397, 815723337, 828728151, 841904882, 855256112, 868782926, 882487922, 896372206, 910438434, 924687712, 939122734, 953744649, 968556167, 983558459, 998754295, 1014144846, 1029732921, 1045519735, 1061508114, 1077699296, 1094096168, 1110699969, 1127513625, 1144538421, 1161777301, 1179231573, 1196904244, 1214796623, 1232911758, 1251251004, 1269817428, 1288612410, 1307639080, 1326898820, 1346394802, 1366128456, 1386102973],
  [1, 1, 2, 3, 5, 7, 11, 15, 22, 29, 40, 52, 70, 89, 116, 146, 186, 230, 288, 352, 434, 525, 638, 764, 919, 1090, 1297, 1527, 1801, 2104, 2462, 2857, 3319, 3828, 4417, 5066, 5812, 6630, 7564, 8588, 9749, 11018, 12450, 14012, 15765, 17674, 19805, 22122, 24699, 27493, 30588, 33940, 37638, 41635, 46031, 50774, 55974, 61575, 67696, 74280, 81457, 89162, 97539, 106522, 116263, 126692, 137977, 150042, 163069, 176978, 191964, 207945, 225132, 243434, 263081, 283981, 306376, 330170, 355626, 382641, 411498, 442089, 474715, 509267, 546067, 584996, 626401, 670162, 716644, 765722, 817789, 872713, 930912, 992250, 1057169, 1125532, 1197809, 1273852, 1354164, 1438596, 1527675, 1621248, 1719877, 1823402, 1932418, 2046761, 2167057, 2293142, 2425678, 2564490, 2710281, 2862876, 3023010, 3190504, 3366137, 3549724, 3742085, 3943032, 4153425, 4373077, 4602893, 4842675, 5093379, 5354809, 5627961, 5912637, 6209887, 6519507, 6842599, 7178957, 7529733, 7894724, 8275137, 8670760, 9082861, 9511232, 9957192, 10420532, 10902637, 11403294, 11923951, 12464395, 13026135, 13608964, 14214458, 14842402, 15494446, 16170382, 16871922, 17598860, 18352987, 19134095, 19944051, 20782650, 21651833, 22551404, 23483384, 24447572, 25446077, 26478708, 27547650, 28652717, 29796187, 30977876, 32200152, 33462838, 34768390, 36116644, 37510152, 38948747, 40435085, 41969014, 43553280, 45187741, 46875252, 48615677, 50411977, 52264027, 54174893, 56144468, 58175930, 60269174, 62427499, 64650820, 66942543, 69302598, 71734518, 74238244, 76817433, 79472043, 82205853, 85018845, 87914929, 90894094, 93960390, 97113833, 100358598, 103694722, 107126527, 110654067, 114281808, 118009827, 121842732, 125780632, 129828285, 133985814, 138258138, 142645414, 147152707, 151780202, 156533133, 161411709, 166421329, 171562234, 176839986, 182254866, 187812609, 193513517, 199363509, 205362930, 211517867, 217828702, 224301714, 230937318, 237741982, 244716161, 251866510, 259193534, 266704085, 274398698, 282284434, 290361881, 298638292, 307114302, 315797382, 324688210, 333794471, 343116894, 352663377, 362434709, 372439012, 382677115, 393157376, 403880689, 414855630, 426083152, 437572076, 449323409, 461346215, 473641563, 486218758, 499078942, 512231672, 525678142, 539428174, 553483040, 567852809, 582538824, 597551430, 612892037, 628571262, 644590591, 660960912, 677683798, 694770420, 712222416, 730051254, 748258664, 766856392, 785846254, 805240304, 825040439, 845259018, 865898029, 886970134, 908477424, 930432877, 952838664, 975708094, 999043446, 1022858341, 1047155159, 1071947864, 1097238934, 1123042672, 1149361664, 1176210551, 1203592039, 1231521121, 1260000599, 1289045834, 1318659754, 1348858067, 1379643821, 1411033104, 1443029079, 1475648211, 1508893789, 1542782654, 1577318234, 1612517760, 1648384775, 1684936916, 1722177872, 1760125666, 1798784126, 1838171695, 1878292336, 1919164909, 1960793523, 2003197454, 2046380971, 2090363781, 2135150288, 2180760647, 2227199430, 2274487218, 2322628744, 2371645052, 2421541031, 2472338185, 2524041571, 2576673152, 2630238168, 2684759056, 2740241214, 2796707571, 2854163716, 2912633049, 2972121343, 3032652506, 3094232491, 3156885711, 3220618312, 3285455211, 3351402762, 3418486403, 3486712669, 3556107538, 3626677762, 3698449836, 3771430722, 3845647471, 3921107251, 3997837666, 4075846103, 4155160719, 4235789136, 4317760081, 4401081384, 4485782362, 4571871089, 4659377449, 4748309754, 4838698495, 4930552218, 5023902018, 5118756689, 5215147930, 5313084799, 5412599618, 5513701681, 5616423953, 5720776003, 5826791415, 5934480026, 6043876081, 6154989681, 6267855730, 6382484607, 6498911875, 6617148209, 6737229849, 6859167738, 6982998815, 7108734330, 7236411897, 7366043066, 7497666170, 7631293055, 7766962770, 7904687473, 8044506929, 8186433626, 8330508065, 8476743035, 8625179795, 8775831476, 8928740071, 9083919046, 9241411173, 9401230249, 9563419823, 9727994039, 9894997223, 10064443886, 10236379151, 10410817866, 10587805975, 10767358705, 10949522796],
  [1, 1, 2, 3, 5, 7, 11, 15, 22, 30, 41, 54, 73, 94, 123, 157, 201, 252, 318, 393, 488, 598, 732, 887, 1076, 1291, 1549, 1845, 2194, 2592, 3060, 3589, 4206, 4904, 5708, 6615, 7657, 8824, 10156, 11648, 13338, 15224, 17354, 19720, 22380, 25331, 28629, 32278, 36347, 40831, 45812, 51294, 57358, 64015, 71362, 79403, 88252, 97922, 108527, 120092, 132751, 146520, 161554, 177884, 195666, 214944, 235899, 258569, 283161, 309729, 338484, 369499, 403016, 439100, 478025, 519880, 564945, 613331, 665355, 721125, 780997, 845105, 913815, 987292, 1065947, 1149941, 1239732, 1335517, 1437769, 1546719, 1662894, 1786528, 1918204, 2058197, 2207110, 2365264, 2533326, 2711621, 2900883, 3101490, 3314203, 3539452, 3778074, 4030512, 4297682, 4580087, 4878678, 5194025, 5527168, 5878693, 6249733, 6640950, 7053522, 7488186, 7946224, 8428402, 8936110, 9470200, 10032118, 10622810, 11243843, 11896197, 12581565, 13301033, 14056363, 14848747, 15680087, 16551625, 17465409, 18422800, 19425930, 20476289, 21576170, 22727123, 23931608, 25191319, 26508817, 27885941, 29325437, 30829224, 32400240, 34040565, 35753258, 37540572, 39405777, 41351219, 43380387, 45495819, 47701146, 49999100, 52393552, 54887353, 57484623, 60188427, 63003052, 65931791, 68979203, 72148718, 75445177, 78872260, 82435003, 86137340, 89984614, 93980928, 98131943, 102442041, 106917108, 111561821, 116382412, 121383750, 126572425, 131953628, 137534208, 143319684, 149317293, 155532785, 161973798, 168646439, 175558643, 182716893, 190129558, 197803382, 205747183, 213968113, 222475328, 231276396, 240380957, 249796887, 259534326, 269601601, 280009235, 290766028, 301883042, 313369422, 325236786, 337494790, 350155485, 363229048, 376728128, 390663302, 405047836, 419892869, 435212154, 451017418, 467323075, 484141299, 501487186, 519373542, 537816009, 556828038, 576426002, 596623863, 617438747, 638885309, 660981285, 683742052, 707186151, 731329526, 756191547, 781788932, 808141730, 835267449, 863187023, 891918603, 921484034, 951902312, 983196036, 1015385081, 1048493017, 1082540428, 1117551883, 1153548904, 1190556895, 1228598336, 1267699694, 1307884246, 1349179552, 1391609911, 1435203805, 1479986592, 1525987916, 1573234010, 1621755712, 1671580383, 1722739876, 1775262704, 1829181987, 1884527214, 1941332807, 1999629479, 2059452768, 2120834654, 2183812055, 2248418018, 2314690878, 2382665027, 2452380023, 2523871631, 2597180909, 2672344805, 2749405916, 2828402646, 2909378930, 2992374676, 3077435447, 3164602439, 3253922885, 3345439573, 3439201197, 3535252170, 3633642950, 3734419369, 3837633694, 3943333476, 4051572573, 4162400309, 4275872450, 4392039861, 4510960264, 4632686396, 4757277710, 4884788853, 5015281340, 5148811507, 5285442981, 5425234114, 5568250412, 5714552303, 5864207517, 6017278309, 6173834687, 6333941094, 6497669574, 6665086802, 6836267218, 7011279491, 7190200514, 7373101306, 7560060963, 7751152921, 7946458854, 8146054349, 8350023718, 8558445090, 8771405157, 8988984640, 9211273001, 9438353299, 9670317830, 9907252377, 10149251803, 10396404689, 10648808871, 10906555445, 11169745287, 11438472431, 11712840517, 11992946574, 12278897429, 12570792834, 12868742874, 13172850442, 13483228597, 13799983455, 14123231487, 14453081731, 14789654145, 15133061145, 15483425883, 15840864217, 16205502948, 16577461088, 16956869166, 17343849799, 17738536942, 18141056907, 18551547548, 18970138552, 19396971755, 19832180710, 20275910924, 20728299888, 21189497270, 21659644193, 22138894573, 22627393651, 23125299271, 23632760891, 24149940791, 24676992308, 25214082250, 25761368359, 26319021642, 26887204327, 27466092146, 28055851489, 28656662909, 29268697480, 29892140238, 30527167049, 31173967977, 31832723323, 32503628280, 33186868149, 33882642904, 34591142935, 35312573561, 36047129919, 36795022779, 37556452584, 38331635198, 39120776489, 39924097998, 40741810642, 41574141750, 42421307891, 43283541816, 44161065845, 45054118754, 45962928253, 46887739259, 47828785471, 48786317571, 49760575376, 50751815956, 51760284851, 52786245640, 53829950230, 54891668324, 55971658305, 57070196644, 58187547820, 59323995199, 60479809995, 61655282074, 62850689526, 64066329381, 65302486190, 66559464280, 67837555349, 69137070616],
  [1, 1, 2, 3, 5, 7, 11, 15, 22, 30, 42, 55, 75, 97, 128, 164, 212, 267, 340, 423, 530, 653, 807, 984, 1204, 1455, 1761, 2112, 2534, 3015, 3590, 4242, 5013, 5888, 6912, 8070, 9418, 10936, 12690, 14663, 16928, 19466, 22367, 25608, 29292, 33401, 38047, 43214, 49037, 55494, 62740, 70760, 79725, 89623, 100654, 112804, 126299, 141136, 157564, 175586, 195491, 217280, 241279, 267507, 296320, 327748, 362198, 399705, 440725, 485315, 533975, 586779, 644295, 706607, 774345, 847628, 927143, 1013036, 1106080, 1206440, 1314972, 1431884, 1558110, 1693899, 1840292, 1997569, 2166875, 2348553, 2543849, 2753159, 2977866, 3218412, 3476314, 3752096, 4047402, 4362833, 4700201, 5060174, 5444732, 5854649, 6292069, 6757864, 7254388, 7782608, 8345084, 8942920, 9578879, 10254199, 10971900, 11733342, 12541802, 13398814, 14307910, 15270794, 16291308, 17371322, 18514989, 19724399, 21004018, 22356152, 23785645, 25295011, 26889475, 28571827, 30347671, 32220069, 34195076, 36276024, 38469427, 40778952, 43211575, 45771300, 48465645, 51298950, 54279279, 57411388, 60703893, 64161965, 67794864, 71608176, 75611815, 79811865, 84218903, 88839522, 93685056, 98762607, 104084280, 109657784, 115496010, 121607276, 128005367, 134699218, 141703526, 149027949, 156688108, 164694398, 173063483, 181806502, 190941187, 200479536, 210440370, 220836558, 231688140, 243008877, 254820051, 267136439, 279980591, 293368323, 307323599, 321863286, 337012795, 352790186, 369222348, 386328561, 404137344, 422669224, 441954389, 462014762, 482882242, 504580179, 527142353, 550593568, 574969531, 600296674, 626612672, 653945620, 682335346, 711811649, 742416568, 774181780, 807151588, 841359596, 876852573, 913666096, 951849458, 991440410, 1032490831, 1075040697, 1119144696, 1164845082, 1212199424, 1261252465, 1312064727, 1364683514, 1419172533, 1475581709, 1533978017, 1594414239, 1656960705, 1721673120, 1788625426, 1857876328, 1929503474, 2003568823, 2080153818, 2159323761, 2241164168, 2325743765, 2413152252, 2503462052, 2596767156, 2693143777, 2792690497, 2895487426, 3001637852, 3111226073, 3224360204, 3341128846, 3461645269, 3586002480, 3714319039, 3846692681, 3983247392, 4124085762, 4269337546, 4419110319, 4573539756, 4732738757, 4896849074, 5065989072, 5240306955, 5419926691, 5605003104, 5795666145, 5992077422, 6194373023, 6402721743, 6617265971, 6838181881, 7065618551, 7299759723, 7540761345, 7788815159, 8044084163, 8306768300, 8577038050, 8855101766, 9141137602, 9435362790, 9737963356, 10049165639, 10369163991, 10698194089, 11036458839, 11384203747, 11741640489, 12109024651, 12486577175, 12874563987, 13273215526, 13682808589, 14103583360, 14535827783, 14979792315, 15435776320, 15904040798, 16384897101, 16878617036, 17385524251, 17905901922, 18440086299, 18988372213, 19551109123, 20128603822, 20721219301, 21329274912, 21953147513, 22593169339, 23249731768, 23923180231, 24613920986, 25322313307, 26048778697, 26793690624, 27557486519, 28340554403, 29143348027, 29966270645, 30809792731, 31674333152, 32560379840, 33468367656, 34398802415, 35352135714, 36328891676, 37329539043, 38354621028, 39404623944, 40480110561, 41581585529, 42709631643, 43864772345, 45047611286, 46258691159, 47498636963, 48768011474, 50067461545, 51397570518, 52759007990, 54152378363, 55578374517, 57037622787, 58530839883, 60058674614, 61621868450, 63221093205, 64857115690, 66530631663, 68242433873, 69993242580, 71783877465, 73615083875, 75487709049, 77402524413, 79360405392, 81362150112, 83408663238, 85500770215, 87639405628, 89825423290, 92059788389, 94343383763, 96677206319, 99062168606, 101499299965, 103989543763, 106533962509, 109133531106, 111789346419, 114502415598, 117273870639, 120104752122, 122996227961, 125949372933, 128965392111, 132045395252, 135190625418, 138402228586, 141681486657, 145029582647, 148447838616, 151937475445, 155499856241, 159136241082, 162848035015, 166636538187, 170503198979, 174449358505, 178476509436, 182586035231, 186779473814, 191058251934, 195423954239, 199878051724, 204422176765, 209057846078, 213786740795, 218610424350, 223530628190, 228548963484, 233667213073, 238887037405, 244210271810, 249638627100, 255173992721, 260818130929, 266572986435, 272440374580, 278422296514, 284520621789, 290737409717, 297074585225, 303534267009, 310118437095, 316829274795, 323668820455, 330639315816, 337742860770, 344981760794, 352358177138, 359874480333],
  [1, 1, 2, 3, 5, 7, 11, 15, 22, 30, 42, 56, 76, 99, 131, 169, 219, 278, 355, 445, 560, 695, 863, 1060, 1303, 1586, 1930, 2331, 2812, 3370, 4035, 4802, 5708, 6751, 7972, 9373, 11004, 12866, 15021, 17475, 20298, 23501, 27169, 31316, 36043, 41373, 47420, 54218, 61903, 70515, 80215, 91058, 103226, 116792, 131970, 148847, 167672, 188556, 211782, 237489, 266006, 297495, 332337, 370733, 413112, 459718, 511045, 567377, 629281, 697097, 771464, 852785, 941790, 1038944, 1145078, 1260740, 1386861, 1524081, 1673457, 1835721, 2012069, 2203348, 2410895, 2635689, 2879236, 3142647, 3427615, 3735414, 4067930, 4426616, 4813587, 5230481, 5679662, 6162991, 6683091, 7242069, 7842848, 8487789, 9180146, 9922579, 10718685, 11571451, 12484869, 13462270, 14508075, 15626011, 16820948, 18097047, 19459689, 20913488, 22464381, 24117499, 25879361, 27755663, 29753578, 31879397, 34141000, 36545347, 39101065, 41815841, 44699133, 47759392, 51006974, 54451188, 58103334, 61973647, 66074473, 70417024, 75014774, 79880017, 85027416, 90470433, 96225037, 102305924, 108730467, 115514722, 122677540, 130236438, 138211888, 146622950, 155491832, 164839281, 174689336, 185064559, 195990980, 207493074, 219599002, 232335324, 245732448, 259819164, 274628317, 290191050, 306542807, 323717285, 341752667, 360685378, 380556557, 401405504, 423276511, 446211984, 470259534, 495464875, 521879190, 549551684, 578537336, 608889106, 640665969, 673924880, 708729103, 745139797, 783224779, 823049720, 864687223, 908207751, 953689028, 1001206560, 1050843495, 1102680731, 1156807122, 1213309282, 1272282150, 1333818347, 1398019251, 1464983897, 1534820423, 1607634648, 1683541906, 1762655144, 1845097299, 1930988902, 2020460870, 2113641746, 2210670920, 2311685347, 2416833355, 2526260833, 2640125479, 2758582603, 2881799840, 3009942381, 3143188326, 3281713335, 3425706473, 3575354434, 3730857880, 3892415064, 4060238850, 4234539718, 4415543308, 4603472960, 4798567807, 5001064654, 5211216809, 5429275296, 5655508252, 5890181641, 6133579232, 6385982615, 6647691970, 6919005360, 7200240116, 7491711584, 7793755151, 8106704235, 8430913148, 8766734325, 9114541845, 9474708078, 9847627884, 10233694450, 10633324399, 11046932797, 11474958976, 11917840913, 12376041781, 12850023467, 13340274081, 13847280602, 14371557152, 14913616956, 15474001405, 16053251090, 16651935901, 17270625121, 17909918335, 18570414804, 19252745210, 19957540052, 20685462483, 21437175703, 22213376679, 23014762750, 23842066249, 24696020064, 25577393421, 26486956385, 27425516570, 28393882812, 29392902842, 30423425839, 31486341342, 32582540670, 33712956839, 34878525088, 36080223811, 37319033910, 38595981036, 39912093745, 41268446799, 42666118368, 44106234428, 45589924702, 47118368453, 48692749154, 50314301408, 51984264609, 53703931011, 55474598072, 57297617996, 59174348721, 61106204667, 63094606641, 65141033825, 67246972275, 69413968455, 71643576320, 73937412122, 76297100350, 78724329840, 81220798227, 83788269707, 86428517974, 89143385338, 91934724449, 94804458794, 97754522858, 100786924347, 103903682767, 107106893081, 110398662992, 113781178067, 117256637363, 120827320389, 124495521052, 128263616125, 132133997837, 136109143886, 140191548291, 144383793328, 148688478610, 153108294635, 157645950412, 162304248649, 167086011548, 171994158015, 177031627599, 182201459382, 187506714404, 192950556281, 198536171691, 204266853127, 210145917422, 216176790295, 222362923263, 228707879998, 235215251220, 241888743289, 248732091045, 255749148277, 262943798861, 270320049156, 277881937002, 285633626471, 293579314708, 301723328655, 310070030110, 318623914458, 327389513504, 336371496673, 345574571567, 355003587250, 364663432919, 374559143321, 384695795077, 395078614673, 405712872418, 416603992619, 427757445564, 439178859923, 450873912271, 462848442206, 475108339372, 487659660880, 500508516254, 513661187188, 527124009925, 540903497836, 555006221205, 569438932221, 584208442570, 599321750887, 614785917651, 630608195613, 646795901962, 663356551269, 680297725375, 697627208904, 715352856341, 733482730641, 752024967452, 770987916384, 790380002821, 810209871890, 830486247337, 851218078727, 872414397347, 894084466170, 916237633254, 938883484531, 962031694125, 985692180525, 1009874953789, 1034590274631, 1059848498990, 1085660240058, 1112036209656, 1138987383782, 1166524840750, 1194659929768, 1223404106320, 1252769103842, 1282766765750, 1313409220798, 1344708711726, 1376677773785, 1409329060513, 1442675525472, 1476730244552, 1511506601544, 1547018106906, 1583278586653],
  [1, 1, 2, 3, 5, 7, 11, 15, 22, 30, 42, 56, 77, 100, 133, 172, 224, 285, 366, 460, 582, 725, 905, 1116, 1380, 1686, 2063, 2503, 3036, 3655, 4401, 5262, 6290, 7476, 8877, 10489, 12384, 14552, 17084, 19978, 23334, 27156, 31570, 36578, 42333, 48849, 56297, 64707, 74287, 85067, 97299, 111036, 126560, 143948, 163540, 185425, 210005, 237405, 268079, 302196, 340293, 382562, 429636, 481769, 539672, 603666, 674585, 752802, 839286, 934502, 1039543, 1154981, 1282083, 1421506, 1574714, 1742509, 1926533, 2127747, 2348042, 2588523, 2851355, 3137850, 3450438, 3790670, 4161319, 4564153, 5002329, 5477923, 5994463, 6554363, 7161629, 7819004, 8531017, 9300841, 10133529, 11032739, 12004167, 13051942, 14182475, 15400502, 16713148, 18125814, 19646498, 21281274, 23039092, 24926852, 26954477, 29129786, 31463856, 33965430, 36646856, 39518001, 42592509, 45881477, 49400076, 53160671, 57180092, 61472199, 66055542, 70945627, 76162989, 81724822, 87653830, 93969189, 100695843, 107855124, 115474549, 123577695, 132194866, 141352216, 151082958, 161416060, 172388026, 184030746, 196384297, 209483911, 223373383, 238091562, 253686437, 270200645, 287686698, 306191497, 325772294, 346480619, 368379006, 391523820, 415983299, 441819235, 469105831, 497910726, 528314754, 560391695, 594229505, 629908782, 667524961, 707165997, 748935563, 792929324, 839259810, 888031219, 939365365, 993375601, 1050193944, 1109943379, 1172766841, 1238797888, 1308190930, 1381090877, 1457664666, 1538069121, 1622484589, 1711080939, 1804052588, 1901583352, 2003882972, 2111149939, 2223610336, 2341478619, 2464998052, 2594400159, 2729946816, 2871887468, 3020503840, 3176064836, 3338873011, 3509218000, 3687424878, 3873805083, 4068707635, 4272467521, 4485458922, 4708041905, 4940617736, 5183572815, 5437337195, 5702325669, 5978998490, 6267800603, 6569224718, 6883747464, 7211895961, 7554180856, 7911165395, 8283396339, 8671475616, 9075987879, 9497576045, 9936865387, 10394541798, 10871273563, 11367792525, 11884812118, 12423112770, 12983456152, 13566673647, 14173577980, 14805054848, 15461970494, 16145268015, 16855870747, 17594781914, 18362985147, 19161547676, 19991516353, 20854025918, 21750190477, 22681215492, 23648286058, 24652682732, 25695664944, 26778592414, 27902803544, 29069740890, 30280826060, 31537589457, 32841539820, 34194299999, 35597471079, 37052772644, 38561903014, 40126684137, 41748916034, 43430528315, 45173428665, 46979659225, 48851240864, 50790334667, 52799079872, 54879762482, 57034646782, 59266149323, 61576665764, 63968750386, 66444936098, 69007921736, 71660385050, 74405175795, 77245123676, 80183237509, 83222505711, 86366103824, 89617187452, 92979106162, 96455190852, 100048974197, 103763970008, 107603902772, 111572478795, 115673622594, 119911242044, 124289471937, 128812430413, 133484472277, 138309936606, 143293407570, 148439455461, 153752905208, 159238568080, 164901520768, 170746827516, 176779827261, 183005848685, 189430505762, 196059402688, 202898440732, 209953512926, 217230819692, 224736555811, 232477235048, 240459366307, 248689790475, 257175345490, 265923212599, 274940573134, 284234964556, 293813925546, 303685365079, 313857195693, 324337712773, 335135218803, 346258413115, 357716003670, 369517110864, 381670866542, 394186828724, 407074570971, 420344108442, 434005473837, 448069158407, 462545674303, 477446007408, 492781169215, 508562661764, 524802015218, 541511268879, 558702494141, 576388288106, 594581285375, 613294664723, 632541645528, 652336011534, 672691591725, 693622797703, 715144092478, 737270541762, 760017266438, 783400012168, 807434585186, 832137436383, 857525084236, 883614713879, 910423582530, 937969638005, 966270906433, 995346126358, 1025214122588, 1055894456220, 1087406779942, 1119771508841, 1153009156753, 1187141023633, 1222188517155, 1258173857200, 1295119377607, 1333048252678, 1371983778851, 1411950118977, 1452971568152, 1495073316143, 1538280692213, 1582619951047, 1628117496125, 1674800684513, 1722697033409, 1771835044388, 1822243387532, 1873951750514, 1926990000056, 1981389051198, 2037180010722, 2094395067030, 2153066609864, 2213228146660, 2274913398087, 2338157235782, 2402994758784, 2469462253292, 2537596243873, 2607434481155, 2679014967508, 2752376967582, 2827560013543, 2904604938920, 2983552857201, 3064446225387, 3147327795434, 3232241701952, 3319232392038, 3408345737823, 3499627937998, 3593126661680, 3688889921297, 3786967242213, 3887408512533, 3990265178978, 4095589066857, 4203433609169, 4313852636184, 4426901631720, 4542636498358, 4661114841665, 4782394703748, 4906535882478, 5033598633023, 5163645015998, 5296737573046, 5432940704450, 5572319311409, 5714940210713, 5860870743090, 6010180218373],
  [1, 1, 2, 3, 5, 7, 11, 15, 22, 30, 42, 56, 77, 101, 134, 174, 227, 290, 373, 471, 597, 747, 935, 1158, 1436, 1763, 2164, 2637, 3210, 3882, 4691, 5635, 6761, 8073, 9624, 11424, 13542, 15988, 18847, 22142, 25971, 30366, 35452, 41269, 47968, 55610, 64370, 74331, 85711, 98609, 113287, 129883, 148702, 169919, 193906, 220877, 251274, 285373, 323689, 366566, 414624, 468273, 528245, 595056, 669555, 752368, 844504, 946708, 1060163, 1185776, 1324916, 1478670, 1648649, 1836130, 2042987, 2270754, 2521589, 2797302, 3100410, 3433027, 3798063, 4198013, 4636214, 5115586, 5639989, 6212802, 6838459, 7520910, 8265217, 9075952, 9958931, 10919414, 11964044, 13098904, 14331542, 15668953, 17119753, 18691931, 20395277, 22238961, 24234058, 26391031, 28722450, 31240205, 33958506, 36890896, 40053381, 43461328, 47132809, 51085183, 55338787, 59913278, 64831470, 70115535, 75791107, 81883121, 88420297, 95430705, 102946438, 110999008, 119624317, 128857631, 138739013, 149307976, 160609121, 172686594, 185590084, 199368802, 214077987, 229772513, 246513663, 264362498, 283387034, 303655063, 325241928, 348222924, 372681359, 398700683, 426373031, 455790729, 487055500, 520269484, 555544807, 592994282, 632741504, 674910854, 719638362, 767061163, 817328755, 870592085, 927015437, 986764726, 1050020234, 1116964282, 1187794445, 1262710804, 1341929845, 1425670828, 1514170664, 1607669581, 1706426528, 1810704356, 1920786029, 2036958816, 2159531567, 2288818122, 2425155212, 2568885322, 2720375470, 2879998966, 3048155417, 3225251603, 3411722169, 3608009880, 3814587328, 4031935968, 4260569152, 4501010186, 4753816174, 5019555371, 5298832138, 5592262938, 5900502806, 6224220253, 6564124614, 6920940169, 7295434758, 7688392411, 8100643603, 8533036673, 8986469108, 9461858079, 9960173107, 10482404953, 11029600133, 11602828475, 12203218743, 12831925217, 13490164887, 14179182222, 14900288372, 15654824459, 16444202068, 17269865447, 18133333695, 19036160986, 19979980998, 20966465520, 21997370273, 23074492306, 24199717742, 25374977005, 26602294992, 27883744524, 29221498106, 30617780048, 32074920295, 33595304189, 35181429001, 36835851745, 38561247434, 40360355420, 42236039982, 44191234095, 46229002923, 48352485469, 50564960016, 52869784164, 55270462780, 57770585239, 60373896603, 63084232545, 65905592635, 68842073494, 71897944877, 75077579802, 78385534094, 81826474002, 85405258113, 89126863030, 92996468301, 97019378814, 101201113554, 105547325268, 110063891770, 114756833499, 119632408161, 124697024749, 129957342284, 135420180876, 141092623325, 146981923877, 153095613416, 159441404399, 166027300550, 172861498604, 179952501063, 187309015446, 194940071008, 202854913872, 211063128573, 219574529736, 228399287038, 237547814177, 247030898074, 256859583424, 267045307171, 277599779345, 288535121198, 299863743107, 311598487383, 323752501421, 336339386149, 349373065179, 362867937306, 376838742499, 391300719385, 406269466154, 421761104192, 437792134687, 454379606606, 471540969883, 489294248869, 507657890071, 526650942153, 546292899075, 566603884871, 587604493117, 609315977547, 631760085692, 654959256629, 678936449682, 703715347286, 729320179740, 755775934439, 783108174415, 811343255150, 840508137846, 870630611848, 901739103674, 933862906232, 967031981217, 1001277196556, 1036630123171, 1073123278406, 1110789918257, 1149664288182, 1189781408276, 1231177332822, 1273888929453, 1317954145254, 1363411781063, 1410301765438, 1458664921450, 1508543250096, 1559979690697, 1613018411277, 1667704563781, 1724084582980, 1782205933710, 1842117419810, 1903868924547, 1967511727156, 2033098237732, 2100682322825, 2170319031876, 2242064933618, 2315977835282, 2392117127080, 2470543495513, 2551319277660, 2634508165510, 2720175571715, 2808388326243, 2899215050905, 2992725849744, 3088992693952, 3188089102767, 3290090540717, 3395074090371, 3503118858915, 3614305644235, 3728717352713, 3846438655267, 3967556418188, 4092159350566, 4220338445220, 4352186619057, 4487799165887, 4627273386165, 4770709053814, 4918208036842, 5069874774884, 5225815892324, 5386140688623, 5550960740245, 5720390405781, 5894546418244, 6073548401764, 6257518455942, 6446581686087, 6640865775751, 6840501532825, 7045622451901, 7256365272624, 7472869533668, 7695278145616, 7923736932496, 8158395221400, 8399405373289, 8646923385826, 8901108415307, 9162123394862, 9430134543288, 9705312001138, 9987829328259, 10277864153853, 10575597664662, 10881215271491, 11194906083614, 11516863594176, 11847285142697, 12186372615502, 12534331898359, 12891373594285, 13257712461719, 13633568152457, 14019164637322, 14414730959979, 14820500652211, 15236712506327, 15663609975239, 16101441966092, 16550462227199, 17010930158695, 17483110188548, 17967272602809, 18463692905694, 18972652672432, 19494438895547, 20029344855695],
  [1, 1, 2, 3, 5, 7, 11, 15, 22, 30, 42, 56, 77, 101, 135, 175, 229, 293, 378, 478, 608, 762, 957, 1188, 1478, 1819, 2241, 2738, 3345, 4057, 4920, 5928, 7139, 8551, 10232, 12186, 14499, 17176, 20325, 23961, 28212, 33104, 38797, 45326, 52888, 61538, 71509, 82882, 95943, 110795, 127786, 147059, 169027, 193880, 222118, 253981, 290071, 330699, 376577, 428104, 486133, 551155, 624188, 705851, 797341, 899427, 1013531, 1140588, 1282281, 1439757, 1614987, 1809369, 2025226, 2264234, 2529120, 2821909, 3145777, 3503153, 3897751, 4332454, 4811594, 5338601, 5918495, 6555343, 7254976, 8022171, 8863685, 9785144, 10794337, 11897861, 13104708, 14422567, 15861795, 17431358, 19143136, 21007554, 23038248, 25247274, 27650253, 30261132, 33097743, 36176175, 39516787, 43138066, 47063214, 51313463, 55915176, 60892686, 66275945, 72092737, 78377035, 85160552, 92481723, 100376667, 108888850, 118059296, 127937084, 138568771, 150009652, 162312471, 175539493, 189750317, 205014958, 221400713, 238986156, 257847146, 278071807, 299745469, 322966837, 347831809, 374450747, 402931269, 433396686, 465967534, 500781421, 537973241, 577696317, 620101396, 665359187, 713637875, 765127307, 820014953, 878511644, 940826091, 1007192251, 1077842123, 1153035048, 1233028697, 1318110176, 1408565326, 1504711754, 1606866122, 1715379421, 1830602157, 1952921752, 2082725757, 2220441489, 2366496919, 2521362915, 2685511704, 2859461576, 3043733053, 3238896205, 3445524142, 3664243321, 3895684244, 4140534633, 4399487479, 4673297222, 4962724723, 5268596906, 5591748522, 5933085084, 6293521584, 6674048904, 7075669021, 7499465357, 7946534328, 8418059495, 8915239615, 9439366771, 9991750417, 10573800028, 11186944976, 11832721520, 12512688691, 13228519842, 13981913995, 14774692507, 15608705694, 16485934465, 17408392407, 18378232602, 19397644568, 20468966904, 21594578892, 22777018771, 24018870193, 25322886407, 26691870913, 28128808214, 29636738454, 31218894575, 32878571141, 34619268160, 36444553393, 38358213600, 40364110088, 42466337177, 44669071198, 46976736513, 49393847198, 51925181399, 54575615437, 57350306320, 60254518502, 63293814870, 66473875330, 69800697161, 73280405138, 76919461034, 80724465508, 84702377159, 88860305293, 93205739436, 97746332667, 102490141415, 107445399601, 112620769100, 118025103741, 123667711473, 129558107875, 135706289796, 142122478632, 148817405911, 155802045310, 163087911253, 170686779295, 178610997549, 186873195697, 195486609716, 204464778415, 213821882654, 223572429009, 233731603243, 244314941374, 255338697957, 266819503381, 278774748195, 291222226186, 304180534578, 317668703172, 331706610965, 346314600096, 361513910266, 377326277019, 393774383717, 410881444455, 428671674251, 447169855246, 466401826530, 486394033117, 507174035233, 528770040363, 551211432652, 574528286596, 598751918136, 623914379441, 650049031464, 677190020126, 705372871100, 734633945876, 765011060400, 796542920425, 829269763836, 863232775616, 898474754618, 935039506517, 972972536844, 1012320421283, 1053131524742, 1095455349324, 1139343280333, 1184847910197, 1232023813253, 1280926844951, 1331614945271, 1384147413542, 1438585741383, 1494992861308, 1553434011247, 1613975956199, 1676687884130, 1741640601023, 1808907459181, 1878563523739, 1950686535483, 2025356048043, 2102654425101, 2182665948625, 2265477851503, 2351179394759, 2439862937939, 2531622984479, 2626557289653, 2724765874456, 2826352172312, 2931422009299, 3040084792003, 3152452453192, 3268640680737, 3388767829106, 3512956190539, 3641330870075, 3774021101599, 3911159085456, 4052881349216, 4199327548260, 4350641872633, 4506971808166, 4668469592122, 4835290933846, 5007596519159, 5185550690924, 5369323003562, 5559086860982, 5755021124157, 5957308705357, 6166138228679, 6381702580969, 6604200626876, 6833835713770, 7070817444348, 7315360134409, 7567684643027, 7828016783590, 8096589213111, 8373639793691, 8659413544279, 8954160951353, 9258139983072, 9571614349592, 9894855581392, 10228141236236, 10571757045064, 10925995064336, 11291155889568, 11667546753466, 12055483808914, 12455290169755, 12867298266925, 13291847830533, 13729288319163, 14179976843677, 14644280671695, 15122575089837, 15615245987173, 16122687654480, 16645305446828, 17183513520278, 17737737575655, 18308412529217, 18895985341739, 19500912621656, 20123663539549, 20764717364201, 21424566464779, 22103713776173, 22802675893095, 23521980463126, 24262169372999, 25023796069787, 25807428841690, 26613648063566, 27443049576793, 28296241857476, 29173849495592, 30076510286318, 31004878811040, 31959623447815, 32941430058955, 33950998918870, 34989048508597, 36056312361485, 37153542967284, 38281508531506, 39440996994147, 40632812700888, 41857780536772, 43116742509687, 44410562001919, 45740120261557, 47106320777132, 48510085675014, 49952360217650, 51434109107418, 52956321111406, 54520005267179, 56126195639716, 57775947427053, 59470341849842],
  [1, 1, 2, 3, 5, 7, 11, 15, 22, 30, 42, 56, 77, 101, 135, 176, 230, 295, 381, 483, 615, 773, 972, 1210, 1508, 1861, 2297, 2815, 3446, 4192, 5096, 6158, 7434, 8932, 10715, 12801, 15272, 18148, 21535, 25469, 30073, 35401, 41612, 48772, 57080, 66634, 77667, 90316, 104875, 121510, 140587, 162331, 187175, 215415, 247587, 284054, 325472, 372311, 425349, 485184, 552767, 628822, 714504, 810726, 918851, 1040014, 1175862, 1327763, 1497696, 1687344, 1899041, 2134841, 2397537, 2689583, 3014304, 3374676, 3774599, 4217657, 4708477, 5251305, 5851608, 6514463, 7246258, 8053039, 8942320, 9921212, 10998526, 12182681, 13483920, 14912165, 16479384, 18197166, 20079452, 22139835, 24394441, 26859162, 29552711, 32493532, 35703292, 39203452, 43018955, 47174701, 51699468, 56621986, 61975379, 67792847, 74112342, 80972138, 88415780, 96487178, 105236197, 114713263, 124975255, 136079959, 148092302, 161078251, 175111785, 190268239, 206631638, 224287850, 243332340, 263862659, 285987096, 309816493, 335473334, 363083343, 392785070, 424720724, 459046796, 495924111, 535528998, 578043054, 623664925, 672599172, 725069271, 781305581, 841558976, 906088492, 975175680, 1049111209, 1128210650, 1212800023, 1303232368, 1399872887, 1503116362, 1613371121, 1731078102, 1856693622, 1990709348, 2133634597, 2286017335, 2448425098, 2621467913, 2805777837, 3002032961, 3210936407, 3433241512, 3669729287, 3921235802, 4188628066, 4472832697, 4774811155, 5095589827, 5436233490, 5797877918, 6181701579, 6588959731, 7020955392, 7479075059, 7964757684, 8479533313, 9024990034, 9602814371, 10214757386, 10862676970, 11548501718, 12274276512, 13042124155, 13854292985, 14713117533, 15621068350, 16580710148, 17594755420, 18666020035, 19797479204, 20992222004, 22253509876, 23584728366, 24989449893, 26471382664, 28034436183, 29682668919, 31420356757, 33251937553, 35182084437, 37215647242, 39357728919, 41613625613, 43988906442, 46489350117, 49121030218, 51890248330, 54803622941, 57868021034, 61090650824, 64478989576, 68040882519, 71784466845, 75718274730, 79851155635, 84192383755, 88751576117, 93538807012, 98564521879, 103839656437, 109375548720, 115184063200, 121277498271, 127668718195, 134371055962, 141398450610, 148765348027, 156486844004, 164578580023, 173056895071, 181938716422, 191241717532, 200984206613, 211185290979, 221864760178, 233043260193, 244742171075, 256983788067, 269791196827, 283188461873, 297200495920, 311853259280, 327173623299, 343189577572, 359930090768, 377425326138, 395706495947, 414806089267, 434757719988, 455596363421, 477358201567, 500080869032, 523803291448, 548565945022, 574410688059, 601381030498, 629521962452, 658880234264, 689504177668, 721444001034, 754751603157, 789480879664, 825687533722, 863429394239, 902766218667, 943760028097, 986474902149, 1030977326681, 1077335985385, 1125622120711, 1175909317094, 1228273880588, 1282794613705, 1339553209132, 1398634021160, 1460124474257, 1524114825540, 1590698594122, 1659972314664, 1732035982503, 1806992803713, 1884949656767, 1966016833198, 2050308522229, 2137942541994, 2229040841836, 2323729229912, 2422137894038, 2524401119329, 2630657834413, 2741051319208, 2855729770811, 2974846007664, 3098558056047, 3227028843811, 3360426814960, 3498925612966, 3642704717328, 3791949123252, 3946850001175, 4107604365575, 4274415765395, 4447493942081, 4627055544430, 4813323783038, 5006529170711, 5206909165570, 5414708945603, 5630181040526, 5853586133464, 6085192689416, 6325277785278, 6574126726627, 6832033915255, 7099302454367, 7376245046312, 7663183594501, 7960450132620, 8268386414505, 8587344884637, 8917688256167, 9259790514786, 9614036493863, 9980822913159, 10360557941630, 10753662281538, 11160568719124, 11581723245786, 12017584606179, 12468625457929, 12935331907294, 13418204718658, 13917758837977, 14434524643184, 14969047465606, 15521888883043, 16093626228556, 16684853938211, 17296183047568, 17928242584657, 18581679065128, 19257157932235, 19955363039477, 20676998150458, 21422786409282, 22193471890366, 22989819068250, 23812614419369, 24662665879420, 25540804510670, 26447883947379, 27384782118124, 28352400691677, 29351666856482, 30383532754412, 31448977332053, 32549005762768, 33684651358640, 34856974994135, 36067067080977, 37316046980203, 38605065055423, 39935302073849, 41307971326248, 42724318030948, 44185621523034, 45693194647341, 47248386033416, 48852579478138, 50507196293961, 52213694696254, 53973572227547, 55788365134813, 57659650887230, 59589047544103, 61578216353202, 63628861125210, 65742730915539, 67921619389814, 70167367607741, 72481863380510, 74867044142933, 77324896319734, 79857458289178, 82466819741776, 85155124755209, 87924571146417, 90777413643410, 93715963248715, 96742590511387, 99859724884708, 103069858119357, 106375543616427, 109779399926586, 113284110117428, 116892425382429, 120607164404490, 124431217096866, 128367543964192, 132419179959426, 136589233862627, 140880892257823, 145297418910589, 149842158888431, 154518537938440, 159330066734550],
  [1, 1, 2, 3, 5, 7, 11, 15, 22, 30, 42, 56, 77, 101, 135, 176, 231, 296, 383, 486, 620, 780, 983, 1225, 1530, 1891, 2339, 2871, 3523, 4293, 5231, 6334, 7665, 9228, 11098, 13287, 15892, 18928, 22518, 26694, 31603, 37292, 43951, 51643, 60603, 70927, 82898, 96650, 112540, 130738, 151685, 175618, 203067, 234343, 270105, 310748, 357075, 409603, 469300, 536827, 613370, 699749, 797402, 907376, 1031391, 1170752, 1327547, 1503381, 1700763, 1921687, 2169146, 2445589, 2754612, 3099186, 3483604, 3911503, 4387969, 4917406, 5505879, 6158681, 6882999, 7685215, 8573805, 9556420, 10643083, 11842899, 13167672, 14628270, 16238532, 18011351, 19962988, 22108669, 24467421, 27057241, 29900320, 33017843, 36435710, 40178747, 44277097, 48759872, 53662038, 59017600, 64867140, 71250256, 78213911, 85804198, 94075330, 103080807, 112883201, 123544419, 135136517, 147731106, 161410965, 176258706, 192369399, 209838123, 228773823, 249285839, 271498778, 295538106, 321546251, 349666857, 380062426, 412897300, 448356535, 486627762, 527921587, 572451830, 620457761, 672182817, 727898397, 787881177, 852438748, 921885011, 996568049, 1076843687, 1163105227, 1255755349, 1355238106, 1462008509, 1576567185, 1699427785, 1831153955, 1972324717, 2123574123, 2285553938, 2458976499, 2644574799, 2843148096, 3055519608, 3282585384, 3525268785, 3784573140, 4061533186, 4357271067, 4672944916, 5009808697, 5369157072, 5752389757, 6160952783, 6596406820, 7060365093, 7554566326, 8080808289, 8641026014, 9237221187, 9871545115, 10546224177, 11263648199, 12026290870, 12836804380, 13697934950, 14612623068, 15583914458, 16615066727, 17709454501, 18870683332, 20102489248, 21408859311, 22793925822, 24262094364, 25817931335, 27466300535, 29212244212, 31061127403, 33018512874, 35090314256, 37282663316, 39602072961, 42055297122, 44649502910, 47392123420, 50291040089, 53354426801, 56590943748, 60009573064, 63619823283, 67431556948, 71455206977, 75701594329, 80182157621, 84908761204, 89893937197, 95150684350, 100692723785, 106534286698, 112690385429, 119176590265, 126009314819, 133205582436, 140783327503, 148761149181, 157158630295, 165996078827, 175294863414, 185077143049, 195366220821, 206186259475, 217562655392, 229521740312, 242091174395, 255299634725, 269177229433, 283755170288, 299066209890, 315144298858, 332025045035, 349745355794, 368343921274, 387860839005, 408338123607, 429819314124, 452350008888, 475977456302, 500751117265, 526722236232, 553944433675, 582473258024, 612366807005, 643685261056, 676491536028, 710850794805, 746831134302, 784503075782, 823940284695, 865219040572, 908418992639, 953622605572, 1000915953910, 1050388144361, 1102132147763, 1156244198684, 1212824667939, 1271977435692, 1333810808039, 1398436864213, 1465972415692, 1536538328527, 1610260528541, 1687269294449, 1767700312792, 1851693942721, 1939396319320, 2030958590957, 2126538074621, 2226297461455, 2330406028351, 2439038812389, 2552377877071, 2670611456852, 2793935282296, 2922551689753, 3056671009814, 3196510643191, 3342296511044, 3494262098162, 3652649969559, 3817710775919, 3989704841549, 4168901132951, 4355578916457, 4550026691367, 4752543922389, 4963439931718, 5183035711484, 5411662776060, 5649665053107, 5897397697417, 6155229065861, 6423539487002, 6702723326004, 6993187711128, 7295354686887, 7609659899171, 7936554842724, 8276505498526, 8629994681852, 8997520633448, 9379599466819, 9776763714756, 10189564882195, 10618571941630, 11064373998710, 11527578737943, 12008815199325, 12508732176418, 13028001111282, 13567314437755, 14127388602142, 14708962353538, 15312799889036, 15939689093027, 16590444814472, 17265907047953, 17966944351456, 18694451970923, 19449355396981, 20232608435493, 21045196911869, 21888136679573, 22762477480863, 23669300895542, 24609724357068, 25584899043934, 26596014060071, 27644294260832, 28731004607694, 29857447931004, 31024969457656, 32234954513559, 33488833234499, 34788078199479, 36134209335192, 37528791483061, 38973439496526, 40469815744701, 42019635413098, 43624663935019, 45286722507526, 47007685453216, 48789485950437, 50634113329082, 52543619027063, 54520113810424, 56565773968326, 58682838460938, 60873615352623, 63140478891156, 65485876191674, 67912324237473, 70422416828579, 73018821507469, 75704286771738, 78481638929154, 81353789588503, 84323732433419, 87394551005860, 90569415402931, 93851590353311, 97244431841372, 100751395491360, 104376033108279, 108122001386039, 111993058369294, 115993072485635, 120126018933727, 124395989056126, 128807186642282, 133363937658968, 138070686473257, 142932005941705, 147952593558629, 153137281921399, 158491034792745, 164018957961052, 169726295221882, 175618439634293, 181700929428013, 187979459675217, 194459878111070, 201148197240844, 208050590080144, 215173402699536, 222523149890997, 230106528170355, 237930411357965, 246001864061062, 254328137175056, 262916681847985, 271775144910173, 280911383343481, 290333459626372, 300049656731159, 310068473392205, 320398639634643, 331049111973697, 342029089498667, 353348008990733, 365015561587967, 377041687829437, 389436594904905],
  [1, 1, 2, 3, 5, 7, 11, 15, 22, 30, 42, 56, 77, 101, 135, 176, 231, 297, 384, 488, 623, 785, 990, 1236, 1545, 1913, 2369, 2913, 3579, 4370, 5332, 6469, 7841, 9459, 11395, 13671, 16380, 19551, 23303, 27684, 32839, 38837, 45864, 54012, 63516, 74506, 87268, 101982, 119009, 138579, 161144, 187013, 216738, 250723, 289656, 334051, 384759, 442442, 508137, 582691, 667382, 763265, 871908, 994644, 1133373, 1289761, 1466126, 1664525, 1887776, 2138425, 2419869, 2735245, 3088663, 3483945, 3926046, 4419640, 4970660, 5584788, 6269144, 7030589, 7877643, 8818588, 9863566, 11022546, 12307608, 13730675, 15306097, 17048139, 18973777, 21100014, 23446933, 26034715, 28887061, 32027901, 35485108, 39286987, 43466299, 48056390, 53095685, 58623438, 64684584, 71325208, 78597815, 86556353, 95262050, 104777975, 115175344, 126527740, 138917916, 152431480, 167164418, 183216214, 200697952, 219725005, 240425789, 262933808, 287397261, 313970423, 342823986, 374135921, 408102604, 444928907, 484840401, 528072644, 574884275, 625545678, 680353067, 739616248, 803673975, 872880769, 947623402, 1028306966, 1115372556, 1209282272, 1310538472, 1419667673, 1537241148, 1663857953, 1800167013, 1946848910, 2104639829, 2274312060, 2456699633, 2652677784, 2863190371, 3089227913, 3331857268, 3592198201, 3871455062, 4170892164, 4491867656, 4835807257, 5204240813, 5598774334, 6021129020, 6473111929, 6956657607, 7473796901, 8026701817, 8617652416, 9249084604, 9923555464, 10643794239, 11412665557, 12233224215, 13108676249, 14042437279, 15038091833, 16099455456, 17230531683, 18435578714, 19719063970, 21085734997, 22540572065, 24088863628, 25736156318, 27488335748, 29351573852, 31332414775, 33437720061, 35674759921, 38051155550, 40574976784, 43254681491, 46099219236, 49117968330, 52320845939, 55718242030, 59321136931, 63141032119, 67190074975, 71480987048, 76027196407, 80842762549, 85942517600, 91341987839, 97057543344, 103106316869, 109506362527, 116276571113, 123436839112, 131007980440, 139011905527, 147471530289, 156410965815, 165855423629, 175831417548, 186366665240, 197490301867, 209232778843, 221626090052, 234703666781, 248500618134, 263053622171, 278401180283, 294583505576, 311642791934, 329623098587, 348570635832, 368533645839, 389562704684, 411710600540, 435032653062, 459586587836, 485432875130, 512634600725, 541257823878, 571371445846, 603047588055, 636361457139, 671391745778, 708220494407, 746933514464, 787620248236, 830374215852, 875292872064, 922478079514, 972035962708, 1024077407545, 1078717914118, 1136078123864, 1196283669935, 1259465735027, 1325760899660, 1395311730541, 1468266628627, 1544780449778, 1625014351350, 1709136448317, 1797321658825, 1889752395999, 1986618414536, 2088117540003, 2194455515206, 2305846770747, 2422514271758, 2544690329810, 2672616452391, 2806544198476, 2946735029476, 3093461212452, 3247005673262, 3407662947947, 3575739040735, 3751552425971, 3935433909772, 4127727687176, 4328791208388, 4538996291607, 4758728996855, 4988390797502, 5228398460500, 5479185281572, 5741200973001, 6014912963435, 6300806296638, 6599384999035, 6911171988371, 7236710514811, 7576564080898, 7931317957192, 8301579117338, 8687977832161, 9091167618894, 9511826919872, 9950659067667, 10408394049962, 10885788494919, 11383627526361, 11902724768574, 12443924299005, 13008100674563, 13596160983525, 14209044898206, 14847726831095, 15513216013337, 16206558762750, 16928838590640, 17681178584157, 18464741546917, 19280732501089, 20130398861502, 21015033066377, 21935972787905, 22894603694244, 23892359702779, 24930725879856, 26011238736760, 27135489276705, 28305123337063, 29521844787242, 30787415924122, 32103660827809, 33472465810703, 34895782942096, 36375630555080, 37914096943898, 39513340936582, 41175595773371, 42903169745950, 44698450268768, 46563904589786, 48502084059847, 50515624923790, 52607252796831, 54779783537537, 57036127944757, 59379292718246, 61812385381778, 64338615341368, 66961299045202, 69683861141575, 72509839890272, 75442888426959, 78486780433108, 81645411518072, 84922805159048, 88323114203787, 91850627097312, 95509769513063, 99305110874227, 103241366125913, 107323402564600, 111556241755181, 115945066686572, 120495223842716, 125212230693991, 130101777936358, 135169737333249, 140422164127745, 145865305255538, 151505601940577, 157349698289810, 163404444088202, 169676903792290, 176174359530731, 182904320518923, 189874526277158, 197092956479224, 204567834405972, 212307637246541, 220321099794851, 228617225228755, 237205289063285, 246094850421993, 255295756266976, 264818153183871, 274672491897820, 284869539599545, 295420384763067, 306336450029907, 317629497350919, 329311641452130, 341395355311668, 353893484238210, 366819251701106, 380186274040265, 394008566674554, 408300559470068, 423077103339825, 438353486304129, 454145440502137, 470469158966512, 487341303074868, 504779020068175, 522799950957510, 541422248824129, 560664587204963, 580546179198904, 601086786362303, 622306738655149, 644226943864582, 666868908432265, 690254747432470, 714407206309197, 739349671443765, 765106192838492, 791701495294862, 819161002090104, 847510846795949, 876777897979773],
  [1, 1, 2, 3, 5, 7, 11, 15, 22, 30, 42, 56, 77, 101, 135, 176, 231, 297, 385, 489, 625, 788, 995, 1243, 1556, 1928, 2391, 2943, 3621, 4426, 5409, 6570, 7976, 9635, 11626, 13968, 16765, 20040, 23928, 28472, 33834, 40080, 47420, 55940, 65907, 77449, 90889, 106408, 124418, 145149, 169120, 196648, 228364, 264691, 306421, 354091, 408687, 470914, 541971, 622771, 714802, 819205, 937815, 1072093, 1224262, 1396169, 1590544, 1809674, 2056896, 2335073, 2648233, 2999936, 3395084, 3838036, 4334733, 4890554, 5512631, 6207559, 6983946, 7849794, 8815458, 9890681, 11087828, 12418715, 13898152, 15540349, 17362993, 19383212, 21622010, 24099950, 26842017, 29872751, 33221794, 36918455, 40997739, 45494546, 50450245, 55906184, 61911143, 68514119, 75772412, 83743923, 92495967, 102096702, 112625043, 124161187, 136797354, 150627690, 165759933, 182304231, 200386212, 220134669, 241695691, 265219551, 290876034, 318839992, 349308404, 382484542, 418596398, 457879844, 500598571, 547025609, 597465444, 652233831, 711681629, 776173368, 846113000, 921920479, 1004060187, 1093015438, 1189319093, 1293526517, 1406248590, 1528122264, 1659846876, 1802152215, 1955837546, 2121737797, 2300765584, 2493874519, 2702105273, 2926545891, 3168381262, 3428851152, 3709303371, 4011148392, 4335917455, 4685213639, 5060774155, 5464418681, 5898116246, 6363929521, 6864087689, 7400926549, 7976966566, 8594849726, 9257423191, 9967671420, 10728807090, 11544198307, 12417465866, 13352406616, 14353097610, 15423813949, 16569141670, 17793889888, 19103211434, 20502510514, 21997571702, 23594461204, 25299666403, 27119990519, 29062701563, 31135421791, 33346286819, 35703827738, 38217142838, 40895772159, 43749880641, 46790126677, 50027857531, 53474969499, 57144118454, 61048571379, 65202430670, 69620478844, 74318417641, 79312703234, 84620803334, 90261022638, 96252776538, 102616408839, 109373483226, 116546590287, 124159660438, 132237759998, 140807423985, 149896443546, 159534220058, 169751540612, 180580957566, 192056551819, 204214336197, 217092009133, 230729383456, 245168126863, 260452220882, 276627687878, 293743078405, 311849187682, 330999573278, 351250257068, 372660278572, 395291382169, 419208604268, 444479949122, 471177011992, 499374639199, 529151593398, 560590197658, 593777040881, 628802609673, 665762036518, 704754714699, 745885096012, 789262288603, 835000902283, 883220633528, 934047161333, 987611714207, 1044052024350, 1103511876576, 1166142118732, 1232100197358, 1301551227844, 1374667511263, 1451629672912, 1532626160366, 1617854448426, 1707520523791, 1801840160382, 1901038384634, 2005350831039, 2115023188263, 2230312632824, 2351487262155, 2478827611111, 2612626065557, 2753188472667, 2900833535401, 3055894514731, 3218718611894, 3389668767847, 3569123026469, 3757476443659, 3955140432124, 4162544778236, 4380136976182, 4608384358858, 4847773414110, 5098812043491, 5362028861525, 5637975580771, 5927226302890, 6230380037082, 6548059975329, 6880916159843, 7229624743789, 7594890806338, 7977447608749, 8378059565349, 8797521486969, 9236661725231, 9696341405125, 10177457741671, 10680943272820, 11207769357893, 11758945402481, 12335522558302, 12938592942423, 13569293537963, 14228805420228, 14918357869243, 15639227594223, 16392743079715, 17180283811456, 18003284856300, 18863236103668, 19761687091710, 20700246255543, 21680586024236, 22704442079688, 23773618725196, 24889988171026, 26055496188988, 27272161415818, 28542081321052, 29867431533063, 31250472122120, 32693546967145, 34199090370332, 35769626455725, 37407776146092, 39116256599361, 40897888550544, 42755595806447, 44692412971566, 46711484992303, 48816075300941, 51009565416751, 53295463512438, 55677404095148, 58159157016797, 60744627226521, 63437864263148, 66243062088143, 69164569066018, 72206887903727, 75374686143703, 78672796201675, 82106226414860, 85680161189147, 89399972610391, 93271220730237, 97299665768397, 101491268529840, 105852203245698, 110388858134997, 115107848894216, 120016019436516, 125120456061999, 130428488368096, 135947704153420, 141685950515102, 147651349499126, 153852299421799, 160297491302751, 166995910405462, 173956853512172, 181189930702210, 188705083484618, 196512586856150, 204623068332997, 213047510285021, 221797269932270, 230884081977713, 240320079588207, 250117797372874, 260290193395248, 270850652495841, 281813009408958, 293191552455679, 305001047788936, 317256743510001, 329974395095041, 343170269936193, 356861174031095, 371064456979368, 385798039963842, 401080421262122, 416930705579538, 433368610079872, 450414495161025, 468089371040998, 486414930010200, 505413553639850, 525108346579119, 545523144393661, 566682549008503, 588611937218746, 611337497818843, 634886240860920, 659286036547171, 684565625247861, 710754658269305, 737883708680474, 765984314004107, 795088987936676, 825231265049606, 856445713419697, 888767981465154, 922234811543135, 956884088976712, 992754856714718, 1029887366647294, 1068323095351171, 1108104797832632, 1149276524423709, 1191883677017747, 1235973027223223, 1281592775202320, 1328792569112443, 1377623566701570, 1428138456112944, 1480391520313304, 1534438659380441, 1590337457888098, 1648147208714559, 1707928983555258, 1769745658339084, 1833661986956485],
  [1, 1, 2, 3, 5, 7, 11, 15, 22, 30, 42, 56, 77, 101, 135, 176, 231, 297, 385, 490, 626, 790, 998, 1248, 1563, 1939, 2406, 2965, 3651, 4468, 5465, 6647, 8077, 9770, 11802, 14199, 17062, 20425, 24418, 29098, 34624, 41078, 48668, 57503, 67846, 79855, 93854, 110059, 128886, 150614, 175767, 204725, 238134, 276493, 320620, 371153, 429112, 495332, 571069, 657395, 755880, 867873, 995318, 1139939, 1304117, 1490023, 1700603, 1938560, 2207510, 2510840, 2852958, 3238070, 3671577, 4158656, 4705886, 5319666, 6007963, 6778628, 7641341, 8605674, 9683331, 10885999, 12227767, 13722832, 15388175, 17240952, 19301553, 21590722, 24132850, 26952908, 30080087, 33544328, 37380450, 41624341, 46317405, 51502509, 57228873, 63547525, 70516817, 78197450, 86658411, 95971690, 106218799, 117484877, 129865995, 143462740, 158388076, 174760540, 192712841, 212384318, 233930540, 257515119, 283320032, 311536956, 342378543, 376068865, 412855929, 453001359, 496793848, 544538255, 596570261, 653244408, 714950321, 782099826, 855144369, 934561444, 1020873540, 1114633320, 1216444505, 1326945978, 1446834212, 1576846549, 1717785546, 1870500807, 2035915741, 2215008144, 2408838905, 2618531645, 2845303839, 3090444780, 3355349681, 3641496212, 3950481088, 4283995521, 4643864815, 5032021932, 5450550775, 5901658144, 6387720133, 6911252893, 7474962795, 8081715067, 8734588496, 9436842290, 10191974710, 11003688631, 11875954836, 12812975259, 13819251870, 14899547988, 16058962078, 17302887704, 18637093131, 20067678764, 21601163602, 23244440663, 25004869578, 26890230647, 28908824595, 31069423999, 33381381470, 35854579015, 38499543853, 41327396501, 44349975450, 47579782574, 51030118097, 54715024029, 58649428629, 62849088755, 67330745235, 72112062630, 77211797218, 82649734981, 88446871333, 94625348422, 101208648288, 108221527829, 115690227333, 123642404108, 132107355553, 141115952692, 150700879727, 160896565737, 171739443012, 183267878095, 195522448014, 208545872175, 222383308813, 237082285847, 252693020196, 269268349037, 286864071178, 305538880466, 325354731878, 346376775151, 368673748711, 392317915211, 417385482513, 443956543235, 472115525970, 501951136795, 533556844309, 567030825181, 602476482363, 640002397136, 679722884167, 721757948012, 766233879245, 813283217854, 863045389918, 915666680851, 971300916984, 1030109446577, 1092261871163, 1157936037314, 1227318817494, 1300606116041, 1378003704568, 1459727240177, 1546003161145, 1637068720885, 1733172943913, 1834576679721, 1941553624980, 2054390395430, 2173387620924, 2298860039611, 2431137666280, 2570565913709, 2717506841233, 2872339301618, 3035460277616, 3207285059426, 3388248670138, 3578806079649, 3779433727152, 3990629770125, 4212915712844, 4446836696546, 4692963235616, 4951891555807, 5224245447568, 5510676651449, 5811866839089, 6128528053048, 6461404817847, 6811274642462, 7178950272567, 7565280255343, 7971151345109, 8397489139141, 8845260640197, 9315474973028, 9809186116731, 10327493702481, 10871545929968, 11442540456633, 12041727502884, 12670410844365, 13329951121156, 14021766934537, 14747338376680, 15508208244214, 16305985794719, 17142348090667, 18019044000355, 18937895675048, 19900802813645, 20909744287532, 21966782677104, 23074066060425, 24233832842271, 25448413710954, 26720236782196, 28051829741424, 29445825312933, 30904963606552, 32432097936075, 34030197376699, 35702352958773, 37451780456368, 39281826969410, 41195973965745, 43197844279655, 45291205416173, 47479976996100, 49768234346708, 52160216409652, 54660329644249, 57273156430757, 60003459297996, 62856189857046, 65836493381557, 68949718291968, 72201421119380, 75597376578118, 79143582928378, 82846272677640, 86711918375524, 90747243968806, 94959231064558, 99355130982542, 103942471506176, 108729069679321, 113723039084243, 118932803412726, 124367104313379, 130035015787952, 135945952632432, 142109685712856, 148536351046193, 155236465991948, 162220939022205, 169501086887777, 177088645107958, 184995786174076, 193235130812637, 201819767269740, 210763263405322, 220079687126557, 229783619350638, 239890175659596, 250415020194423, 261374388583369, 272785102834525, 284664595616130, 297030926193414, 309902806144604, 323299616415066, 337241434530811, 351749052848098, 366844007355202, 382548597172798, 398885915040228, 415879868151789, 433555210400844, 451937564642614, 471053456800570, 490930339622398, 511596628759596, 533081728115275, 555416067983359, 578631132093370, 602759497929566, 627834865552323, 653892100224509, 680967263123972, 709097656378908, 738321855792933, 768679758427636, 800212617435074, 832963092333823, 866975286081226, 902294798161989, 938968764040694, 977045911221733, 1016576601194231, 1057612888630901, 1100208565978342, 1144419225934118, 1190302308844279, 1237917168640541, 1287325123177427, 1338589523821628, 1391775808904983, 1446951577128079, 1504186644315584, 1563553120842539, 1625125471847333, 1688980598900228, 1755197903876958, 1823859375057938, 1895049654876707, 1968856130687988, 2045369006572904, 2124681399026863, 2206889413054610, 2292092242996089, 2380392253157341, 2471895084046599, 2566709737752984, 2664948689878997, 2766727979934572, 2872167329218287, 2981390236508520, 3094524102203682, 3211700329557098, 3333054455402591, 3458726257239312, 3588859890833443],
  [1, 1, 2, 3, 5, 7, 11, 15, 22, 30, 42, 56, 77, 101, 135, 176, 231, 297, 385, 490, 627, 791, 1000, 1251, 1568, 1946, 2417, 2980, 3673, 4498, 5507, 6703, 8154, 9871, 11937, 14375, 17293, 20722, 24803, 29588, 35251, 41869, 49668, 58754, 69414, 81801, 96271, 113039, 132559, 155112, 181274, 211428, 246288, 286364, 332557, 385528, 446405, 516054, 595872, 686983, 791131, 909742, 1044986, 1198693, 1373531, 1571824, 1796874, 2051599, 2340069, 2665952, 3034232, 3449498, 3917865, 4445020, 5038443, 5705194, 6454368, 7294682, 8237213, 9292657, 10474462, 11795741, 13272753, 14921525, 16761706, 18812776, 21098427, 23642321, 26472919, 29618860, 33114319, 36993826, 41298315, 46069361, 51355848, 57207703, 63683241, 70842207, 78754030, 87490107, 97132873, 107767431, 119491552, 132406402, 146627701, 162275516, 179486503, 198402861, 219185760, 242003178, 267044859, 294508945, 324618347, 357606317, 393734391, 433276568, 476539170, 523843566, 575547878, 632028362, 693703134, 761011839, 834441873, 914506228, 1001772070, 1096836960, 1200360043, 1313036181, 1435630265, 1568949156, 1713879071, 1871355494, 2042403893, 2228107124, 2429650132, 2648284712, 2885378075, 3142375211, 3420851717, 3722473142, 4049052815, 4402508051, 4784922961, 5198501749, 5645636885, 6128858892, 6650910818, 7214694325, 7823350398, 8480202049, 9188841866, 9953070561, 10776992389, 11664949414, 12621624842, 13651973343, 14761332911, 15955350470, 17240103587, 18622021130, 20108014893, 21705395755, 23422016092, 25266180513, 27246800487, 29373299555, 31655780396, 34104924972, 36732174993, 39549626048, 42570223336, 45807649576, 49276536242, 52992345915, 56971600292, 61231755917, 65791451008, 70670374499, 75889532216, 81471109885, 87438760128, 93817458385, 100633813310, 107915915494, 115693671820, 123998647977, 132864428684, 142326452801, 152422402326, 163192030156, 174677578889, 186923602268, 199977415969, 213888911652, 228711043304, 244499634012, 261313899022, 279216246674, 298272841029, 318553395732, 340131780324, 363085807422, 387497884488, 413454795960, 441048403698, 470375423128, 501538177395, 534644368012, 569807884839, 607148573391, 646793104859, 688874739063, 733534260278, 780919736833, 831187525667, 884502031148, 941036783189, 1000974194686, 1064506720274, 1131836613586, 1203177170242, 1278752488273, 1358798801472, 1443564242537, 1533310274861, 1628311460442, 1728856994889, 1835250484053, 1947811589407, 2066875813568, 2192796266004, 2325943459948, 2466707204191, 2615496416554, 2772741150647, 2938892426578, 3114424404113, 3299834234297, 3495644386554, 3702402527295, 3920684011475, 4151091789891, 4394259079088, 4650849301963, 4921558944999, 5207117540091, 5508290722041, 5825880254178, 6160727302251, 6513712510114, 6885759501620, 7277835015755, 7690952651759, 8126173068003, 8584607989736, 9067420479626, 9575829221960, 10111108876759, 10674594659121, 11267682782638, 11891835356584, 12548580929032, 13239519719285, 13966324274991, 14730745061730, 15534611242572, 16379836652009, 17268420710811, 18202454805135, 19184123354479, 20215710622776, 21299601950292, 22438291028439, 23634381312217, 24890593784455, 26209768570293, 27594873222315, 29049004551807, 30575397472766, 32177427070170, 33858618033688, 35622646989457, 37473352561556, 39414737985945, 41450981843926, 43586440983996, 45825661964942, 48173384317363, 50634552741210, 53214320731178, 55918063581549, 58751382406660, 61720117997849, 64830355277962, 68088438064110, 71500973986466, 75074850218415, 78817238898515, 82735613882418, 86837756714419, 91131774464445, 95626106287453, 100329542418602, 105251231367502, 110400700135894, 115787862103376, 121423038543060, 127316967245741, 133480825418850, 139926239106702, 146665307550355, 153710613471218, 161075248980391, 168772826784138, 176817507743431, 185224013070709, 194007653631141, 203184343211894, 212770629670370, 222783709346851, 233241460177301, 244162457333646, 255566008410550, 267472170389707, 279901787023671, 292876507211334, 306418824717136, 320552098058378, 335300592688590, 350689502512024, 366744994676912, 383494232821856, 400965424639987, 419187846978561, 438191896326800, 458009115905234, 478672249247271, 500215269405308, 522673435814974, 546083325761917, 570482894708112, 595911510181744, 622410015765752, 650020767562505, 678787702063899, 708756375363123, 739974035117980, 772489662700992, 806354049489160, 841619842134422, 878341623436508, 916575960937131, 956381492623346, 997818979071931, 1040951394256366, 1085843981457557, 1132564349471780, 1181182532529280, 1231771092193882, 1284405181554850, 1339162653135748, 1396124127616818, 1455373108099575, 1516996053643731, 1581082500225888, 1647725139403817, 1717019946339713, 1789066263895223, 1863966938120061, 1941828408112764, 2022760849370626, 2106878269781410, 2194298661263887, 2285144102249358, 2379540918077994, 2477619790362540, 2579515926599859, 2685369176844864, 2795324213036421, 2909530653402183, 3028143252035976, 3151322031493776, 3279232483157513, 3412045708520438, 3549938630913876, 3693094145976721, 3841701345366576, 3995955676949833, 4156059181116150, 4322220661270105, 4494655933417225, 4673588007534394, 4859247351142884, 5051872082183930, 5251708247296281, 5459010026871060, 5674040028803541, 5897069506401962, 6128378668439012, 6368256910641495, 6617003142869419]]
def PL : List Nat := [1, 1, 2, 3, 5, 7, 11, 15, 22, 30, 42, 56, 77, 101, 135, 176, 231, 297, 385, 490, 627, 792, 1002, 1255, 1575, 1958, 2436, 3010, 3718, 4565, 5604, 6842, 8349, 10143, 12310, 14883, 17977, 21637, 26015, 31185, 37338, 44583, 53174, 63261, 75175, 89134, 105558, 124754, 147273, 173525, 204226, 239943, 281589, 329931, 386155, 451276, 526823, 614154, 715220, 831820, 966467, 1121505, 1300156, 1505499, 1741630, 2012558, 2323520, 2679689, 3087735, 3554345, 4087968, 4697205, 5392783, 6185689, 7089500, 8118264, 9289091, 10619863, 12132164, 13848650, 15796476, 18004327, 20506255, 23338469, 26543660, 30167357, 34262962, 38887673, 44108109, 49995925, 56634173, 64112359, 72533807, 82010177, 92669720, 104651419, 118114304, 133230930, 150198136, 169229875, 190569292, 214481126, 241265379, 271248950, 304801365, 342325709, 384276336, 431149389, 483502844, 541946240, 607163746, 679903203, 761002156, 851376628, 952050665, 1064144451, 1188908248, 1327710076, 1482074143, 1653668665, 1844349560, 2056148051, 2291320912, 2552338241, 2841940500, 3163127352, 3519222692, 3913864295, 4351078600, 4835271870, 5371315400, 5964539504, 6620830889, 7346629512, 8149040695, 9035836076, 10015581680, 11097645016, 12292341831, 13610949895, 15065878135, 16670689208, 18440293320, 20390982757, 22540654445, 24908858009, 27517052599, 30388671978, 33549419497, 37027355200, 40853235313, 45060624582, 49686288421, 54770336324, 60356673280, 66493182097, 73232243759, 80630964769, 88751778802, 97662728555, 107438159466, 118159068427, 129913904637, 142798995930, 156919475295, 172389800255, 189334822579, 207890420102, 228204732751, 250438925115, 274768617130, 301384802048, 330495499613, 362326859895, 397125074750, 435157697830, 476715857290, 522115831195, 571701605655, 625846753120, 684957390936, 749474411781, 819876908323, 896684817527, 980462880430, 1071823774337, 1171432692373, 1280011042268, 1398341745571, 1527273599625, 1667727404093, 1820701100652, 1987276856363, 2168627105469, 2366022741845, 2580840212973, 2814570987591, 3068829878530, 3345365983698, 3646072432125, 3972999029388, 4328363658647, 4714566886083, 5134205287973, 5590088317495, 6085253859260, 6622987708040, 7206841706490, 7840656226137, 8528581302375, 9275102575355, 10085065885767, 10963707205259, 11916681236278, 12950095925895, 14070545699287, 15285151248481, 16601598107914, 18028182516671, 19573856161145, 21248279009367, 23061871173849, 25025873760111, 27152408925615, 29454549941750, 31946390696157, 34643126322519, 37561133582570, 40718063627362, 44132934884255, 47826239745920, 51820051838712, 56138148670947, 60806135438329, 65851585970275, 71304185514919, 77195892663512, 83561103925871, 90436839668817, 97862933703585, 105882246722733, 114540884553038, 123888443077259, 133978259344888, 144867692496445, 156618412527946, 169296722391554, 182973889854026, 197726516681672, 213636919820625, 230793554364681, 249291451168559, 269232701252579, 290726957916112, 313891991306665, 338854264248680, 365749566870782, 394723676655357, 425933084409356, 459545750448675, 495741934760846, 534715062908609, 576672674947168, 621837416509615, 670448123060170, 722760953690372, 779050629562167, 839611730366814, 904760108316360, 974834369944625, 1050197489931117, 1131238503938606, 1218374349844333, 1312051800816215, 1412749565173450, 1520980492851175, 1637293969337171, 1762278433057269, 1896564103591584, 2040825852575075, 2195786311682516, 2362219145337711, 2540952590045698, 2732873183547535, 2938929793929555, 3160137867148997, 3397584011986773, 3652430836071053, 3925922161489422, 4219388528587095, 4534253126900886, 4872038056472084, 5234371069753672, 5622992691950605, 6039763882095515, 6486674127079088, 6965850144195831, 7479565078510584, 8030248384943040, 8620496275465025, 9253082936723602, 9930972392403501, 10657331232548839, 11435542077822104, 12269218019229465, 13162217895057704, 14118662665280005, 15142952738857194, 16239786535829663, 17414180133147295, 18671488299600364, 20017426762576945, 21458096037352891, 23000006655487337, 24650106150830490, 26415807633566326, 28305020340996003, 30326181989842964, 32488293351466654, 34800954869440830, 37274405776748077, 39919565526999991, 42748078035954696, 45772358543578028, 49005643635237875, 52462044228828641, 56156602112874289, 60105349839666544, 64325374609114550, 68834885946073850, 73653287861850339, 78801255302666615, 84300815636225119, 90175434980549623, 96450110192202760, 103151466321735325, 110307860425292772, 117949491546113972, 126108517833796355, 134819180623301520, 144117936527873832, 154043597379576030, 164637479165761044, 175943559810422753, 188008647052292980, 200882556287683159, 214618299743286299, 229272286871217150, 244904537455382406, 261578907351144125, 279363328483702152, 298330063062758076, 318555973788329084, 340122810048577428, 363117512048110005, 387632532919029223, 413766180933342362, 441622981929358437, 471314064268398780, 502957566506000020, 536679070310691121, 572612058898037559, 610898403751884101, 651688879997206959, 695143713458946040, 741433159884081684, 790738119649411319, 843250788562528427, 899175348396088349, 958728697912338045, 1022141228367345362, 1089657644424399782, 1161537834849962850, 1238057794119125085, 1319510599727473500, 1406207446561484054, 1498478743590581081, 1596675274490756791, 1701169427975813525, 1812356499739472950, 1930656072350465812, 2056513475336633805, 2190401332423765131, 2332821198543892336, 2484305294265418180, 2645418340688763701, 2816759503217942792, 2998964447736452194, 3192707518433532826, 3398704041358160275, 3617712763867604423, 3850538434667429186, 4098034535626594791, 4361106170762284114, 4640713124699623515, 4937873096788191655, 5253665124416975163, 5589233202595404488, 5945790114707874597, 6324621482504294325, 6727090051741041926]
theorem R80_ok : chain 1 (1 :: List.replicate 80 0) R80 = true := by decide +kernel
theorem R20_ok : chain 1 (1 :: List.replicate 400 0) R20 = true := by decide +kernel
theorem PL_ok : eqR (it 400 1 (1 :: List.replicate 400 0)) PL = true := by decide +kernel
def T80 : List (List Nat) := (1 :: List.replicate 80 0) :: R80
def T20 : List (List Nat) := (1 :: List.replicate 400 0) :: R20
theorem R80_len : R80.length = 80 := by decide +kernel
theorem R20_len : R20.length = 20 := by decide +kernel
theorem T80_get {i : Nat} (hi : i ≤ 80) : IsRow i (T80.getD i []) ∧ (T80.getD i []).length = 81 := by
  have := chain_get R80_ok (isRow_0 80) i (by rw [List.length_cons, R80_len]; omega)
  rw [Nat.zero_add, List.length_cons, List.length_replicate] at this
  exact this
theorem T20_get {i : Nat} (hi : i ≤ 20) : IsRow i (T20.getD i []) ∧ (T20.getD i []).length = 401 := by
  have := chain_get R20_ok (isRow_0 400) i (by rw [List.length_cons, R20_len]; omega)
  rw [Nat.zero_add, List.length_cons, List.length_replicate] at this
  exact this
theorem PL_get {n : Nat} (hn : n ≤ 400) : ((PL.getD n 0 : Nat) : Int) = pa n n := by
  have h := it_row 400 0 _ (isRow_0 400)
  rw [eqR_eq PL_ok, Nat.zero_add, List.length_cons, List.length_replicate] at h
  rw [h.1 n (by rw [h.2]; omega), show (400 : Nat) = n + (400 - n) by omega, pa_top]
/-! sums of products -/
def dot : List Nat → List Nat → Nat
  | x :: xs, y :: ys => x * y + dot xs ys
  | _, _ => 0
theorem dot_eq : ∀ (xs ys : List Nat) (n : Nat), xs.length = n → ys.length = n → dot xs ys = ((List.range n).map fun b => xs.getD b 0 * ys.getD b 0).sum
  | [], [], n, h, _ => by
    subst h
    rfl
  | x :: xs, y :: ys, n, h, h' => by
    subst h
    have ih := dot_eq xs ys xs.length rfl (by simpa using h')
    rw [List.length_cons, List.range_succ_eq_map, List.map_cons, List.sum_cons, List.map_map]
    show x * y + dot xs ys = _
    rw [ih]
    rfl
  | [], _ :: _, n, h, h' => by subst h; cases h'
  | _ :: _, [], n, h, h' => by subst h; cases h'
/-- all x of the first N + 1, by those of the other one from behind -/
def cv (r s : List Nat) (N : Nat) : Nat := dot (r.take (N + 1)) (s.take (N + 1)).reverse
theorem cv_eq {r s : List Nat} {N : Nat} (hr : N < r.length) (hs : N < s.length) : cv r s N = ((List.range (N + 1)).map fun b => r.getD b 0 * s.getD (N - b) 0).sum := by
  unfold cv
  rw [dot_eq _ _ (N + 1) (by rw [List.length_take]; omega) (by rw [List.length_reverse, List.length_take]; omega)]
  congr 1
  refine List.map_congr_left fun b hb => ?_
  have hb : b < N + 1 := List.mem_range.mp hb
  congr 1
  · rw [List.getD_eq_getElem?_getD, List.getElem?_take, if_pos hb, ← List.getD_eq_getElem?_getD]
  · rw [List.getD_eq_getElem?_getD, List.getElem?_reverse (by rw [List.length_take]; omega), List.length_take, List.getElem?_take, if_pos (by omega), List.getD_eq_getElem?_getD]
    congr 2
    omega
theorem sum_cast {f : Nat → Nat} {g : Nat → Int} : ∀ (l : List Nat), (∀ b, b ∈ l → ((f b : Nat) : Int) = g b) → (((l.map f).sum : Nat) : Int) = (l.map g).sum
  | [], _ => rfl
  | x :: xs, h => by
    rw [List.map_cons, List.map_cons, List.sum_cons, List.sum_cons, ← sum_cast xs (fun b hb => h b (List.mem_cons_of_mem _ hb)), ← h x List.mem_cons_self]
    omega
theorem cv_pa {r s : List Nat} {i j N : Nat} (hi : IsRow i r) (hj : IsRow j s) (hr : N < r.length) (hs : N < s.length) : ((cv r s N : Nat) : Int) = ((List.range (N + 1)).map fun b => pa i b * pa j (N - b)).sum := by
  rw [cv_eq hr hs]
  refine sum_cast _ fun b hb => ?_
  have hb : b < N + 1 := List.mem_range.mp hb
  rw [← hi b (by omega), ← hj (N - b) (by omega)]
  exact Int.natCast_mul _ _
/-- how many rows of n have the square i -/
def sqc (n i : Nat) : Int := ((List.range (n - i * i + 1)).map fun b => pa i b * pa i (n - i * i - b)).sum
def sq20 (n i : Nat) : Nat := cv (T20.getD i []) (T20.getD i []) (n - i * i)
theorem sq20_eq {n i : Nat} (hi : i ≤ 20) (hn : n ≤ 400) : ((sq20 n i : Nat) : Int) = sqc n i := by
  obtain ⟨h1, h2⟩ := T20_get hi
  exact cv_pa h1 h1 (by rw [h2]; omega) (by rw [h2]; omega)
def sq80 (n i : Nat) : Nat := cv (T80.getD i []) (T80.getD i []) (n - i * i)
theorem sq80_eq {n i : Nat} (hi : i ≤ 80) (hn : n ≤ 80) : ((sq80 n i : Nat) : Int) = sqc n i := by
  obtain ⟨h1, h2⟩ := T80_get hi
  exact cv_pa h1 h1 (by rw [h2]; omega) (by rw [h2]; omega)
/-- the root -/
def rt : Nat → Nat → Nat
  | 0, _ => 0
  | f + 1, n => if (f + 1) * (f + 1) ≤ n then f + 1 else rt f n
def sumTo (f : Nat → Nat) : Nat → Nat
  | 0 => 0
  | n + 1 => sumTo f n + f n
theorem sumTo_eq (f : Nat → Nat) : ∀ n, sumTo f n = ((List.range n).map f).sum
  | 0 => rfl
  | n + 1 => by
    rw [List.range_succ, List.map_append, List.sum_append, ← sumTo_eq f n]
    simp [sumTo]
def allTo (f : Nat → Bool) : Nat → Bool
  | 0 => true
  | n + 1 => f n && allTo f n
theorem allTo_get {f : Nat → Bool} : ∀ {n : Nat}, allTo f n = true → ∀ i, i < n → f i = true
  | n + 1, h, i, hi => by
    unfold allTo at h
    rw [Bool.and_eq_true] at h
    by_cases e : i = n
    · rw [e]; exact h.1
    · exact allTo_get h.2 i (by omega)
def whole20 (n : Nat) : Bool := Nat.beq (sumTo (sq20 n) (rt 20 n + 1)) (PL.getD n 0)
theorem whole_a : allTo (fun i => whole20 (374 + i)) 27 = true := by decide +kernel
theorem whole_b : allTo whole20 81 = true := by decide +kernel
theorem rt_le : ∀ (f n : Nat), rt f n ≤ f
  | 0, _ => Nat.le_refl 0
  | f + 1, n => by
    unfold rt
    split
    · exact Nat.le_refl _
    · have := rt_le f n
      omega
theorem whole {n : Nat} (h : n ≤ 80 ∨ 374 ≤ n ∧ n ≤ 400) : ((List.range (rt 20 n + 1)).map (sqc n)).sum = pa n n := by
  have hw : whole20 n = true := by
    rcases h with h | h
    · exact allTo_get whole_b n (by omega)
    · have := allTo_get whole_a (n - 374) (by omega)
      rw [show 374 + (n - 374) = n by omega] at this
      exact this
  have e := Nat.eq_of_beq_eq_true hw
  rw [sumTo_eq] at e
  have hr := rt_le 20 n
  rw [← PL_get (by omega), ← e]
  refine (sum_cast _ fun b hb => ?_).symm
  have := List.mem_range.mp hb
  exact sq20_eq (by omega) (by omega)
theorem rt_ok : ∀ (f n : Nat), n < (f + 1) * (f + 1) → rt f n * rt f n ≤ n ∧ n < (rt f n + 1) * (rt f n + 1)
  | 0, n, h => ⟨Nat.zero_le _, h⟩
  | f + 1, n, h => by
    unfold rt
    split
    · rename_i e
      exact ⟨e, h⟩
    · rename_i e
      exact rt_ok f n (by omega)
theorem sqc_one {n : Nat} (h : 0 < n) : sqc n 1 = n := by
  unfold sqc
  rw [show n - 1 * 1 + 1 = n by omega]
  have : ∀ l : List Nat, (l.map fun b => pa 1 b * pa 1 (n - 1 * 1 - b)).sum = (l.length : Int) := by
    intro l
    induction l with
    | nil => rfl
    | cons x xs ih =>
      rw [List.map_cons, List.sum_cons, ih, pa_one, pa_one, List.length_cons]
      omega
  rw [this, List.length_range]
theorem en_sum (n : Nat) : ∀ m, ((List.range (m + 1)).map fun i => en i n).sum = pa m n
  | 0 => by
    show en 0 n + 0 = _
    unfold en
    rw [if_pos (Nat.zero_le n), Int.add_zero, Nat.sub_zero]
  | m + 1 => by
    rw [List.range_succ, List.map_append, List.sum_append, en_sum n m, pa_up]
    show _ + (en (m + 1) n + 0) = _
    unfold en
    omega
/-! how many rows reach a square -/
def rq (n s : Nat) : Nat := sumTo (fun i => cv (T80.getD (s + i) []) (T80.getD (s - 1) []) (n - (s + i) * s)) (n / s + 1 - s)
theorem rcI_sum (n s m : Nat) : ∀ j, rcI n s m j = ((List.range j).map fun b => en m (m + b) * pa (s - 1) (n - (m * s + b))).sum
  | 0 => rfl
  | j + 1 => by
    rw [List.range_succ, List.map_append, List.sum_append, ← rcI_sum n s m j]
    show _ = _ + (_ + 0)
    rw [Int.add_zero]
    rfl
theorem rcO_sum (n s : Nat) : ∀ i, rcO n s i = ((List.range i).map fun b => rcI n s (s + b) (n + 1 - (s + b) * s)).sum
  | 0 => rfl
  | j + 1 => by
    rw [List.range_succ, List.map_append, List.sum_append, ← rcO_sum n s j]
    show _ = _ + (_ + 0)
    rw [Int.add_zero]
    rfl
theorem rq_eq {n s : Nat} (hs : 0 < s) (hn : n ≤ 80) : ((rq n s : Nat) : Int) = rc n s := by
  unfold rq rc
  rw [sumTo_eq, rcO_sum]
  refine sum_cast _ fun i hi => ?_
  have hi := List.mem_range.mp hi
  have hd : n / s ≤ n := Nat.div_le_self n s
  have hm : (s + i) * s ≤ n := Nat.le_trans (Nat.mul_le_mul_right s (show s + i ≤ n / s by omega)) (Nat.div_mul_le_self n s)
  obtain ⟨h1, h2⟩ := T80_get (i := s + i) (by omega)
  obtain ⟨h3, h4⟩ := T80_get (i := s - 1) (by omega)
  rw [cv_pa h1 h3 (by rw [h2]; omega) (by rw [h4]; omega), rcI_sum, show n - (s + i) * s + 1 = n + 1 - (s + i) * s by omega]
  congr 1
  refine List.map_congr_left fun b hb => ?_
  have hb := List.mem_range.mp hb
  unfold en
  rw [if_pos (by omega), show s + i + b - (s + i) = b by omega, show n - (s + i) * s - b = n - ((s + i) * s + b) by omega]
def stepQ (n i : Nat) : Bool := match i with
  | 0 => Nat.beq (sq80 n 0 + rq n 1) (PL.getD n 0)
  | i + 1 => Nat.beq (sq80 n (i + 1) + rq n (i + 2)) (rq n (i + 1))
theorem step_all : allTo (fun n => allTo (stepQ n) (rt 20 n + 1)) 81 = true := by decide +kernel
theorem step_0 {n : Nat} (hn : n ≤ 80) : sqc n 0 = pa n n - rc n 1 := by
  have h := Nat.eq_of_beq_eq_true (show Nat.beq (sq80 n 0 + rq n 1) (PL.getD n 0) = true from allTo_get (allTo_get step_all n (by omega)) 0 (Nat.succ_pos _))
  rw [← PL_get (by omega), ← sq80_eq (by omega) hn, ← rq_eq (by omega) hn]
  omega
theorem step_s {n i : Nat} (hn : n ≤ 80) (hi : i + 1 < rt 20 n + 1) : sqc n (i + 1) = rc n (i + 1) - rc n (i + 2) := by
  have h := Nat.eq_of_beq_eq_true (show Nat.beq (sq80 n (i + 1) + rq n (i + 2)) (rq n (i + 1)) = true from allTo_get (allTo_get step_all n (by omega)) (i + 1) hi)
  have := rt_le 20 n
  rw [← sq80_eq (by omega) hn, ← rq_eq (by omega) hn, ← rq_eq (by omega) hn]
  omega
/-! all rows of small numbers -/
def lens (n : Nat) : List Int := (rl 13 n n).map fun r => (r.length : Int)
def sqrs (n : Nat) : List Int := (rl 13 n n).map sqr
def smallQ (n : Nat) : Bool := allTo (fun i => Nat.beq ((lens n).count (i : Int)) ((T80.getD i []).getD (n - i) 0)) (n + 1) &&
  (decide ((sqrs n).max? = some ((rt 20 n : Nat) : Int)) && allTo (fun i => Nat.beq ((sqrs n).count (i : Int)) (sq80 n i)) (rt 20 n + 1))
theorem small_all : allTo smallQ 14 = true := by decide +kernel
theorem small_len {n i : Nat} (hn : n ≤ 13) (hi : i ≤ n) : (((lens n).count (i : Int) : Nat) : Int) = pa i (n - i) := by
  have h := allTo_get small_all n (by omega)
  unfold smallQ at h
  rw [Bool.and_eq_true] at h
  have e := Nat.eq_of_beq_eq_true (allTo_get h.1 i (by omega))
  obtain ⟨h1, h2⟩ := T80_get (i := i) (by omega)
  rw [e]
  exact h1 _ (by rw [h2]; omega)
theorem small_max {n : Nat} (hn : n ≤ 13) : (sqrs n).max? = some ((rt 20 n : Nat) : Int) := by
  have h := allTo_get small_all n (by omega)
  unfold smallQ at h
  rw [Bool.and_eq_true, Bool.and_eq_true, decide_eq_true_eq] at h
  exact h.2.1
theorem small_sqr {n i : Nat} (hn : n ≤ 13) (hi : i ≤ rt 20 n) : (((sqrs n).count (i : Int) : Nat) : Int) = sqc n i := by
  have h := allTo_get small_all n (by omega)
  unfold smallQ at h
  rw [Bool.and_eq_true, Bool.and_eq_true] at h
  have := rt_le 20 n
  rw [← sq80_eq (by omega) (by omega)]
  exact congrArg _ (Nat.eq_of_beq_eq_true (allTo_get h.2.2 i (by omega)))
end BX

set_option Elab.async false
set_option linter.all false
set_option maxRecDepth 100000
/-! D23: bounds. -/
namespace BX
theorem pa_nn : ∀ m j, 0 ≤ pa m j
  | 0, j => by
    rw [pa_zero]
    split <;> omega
  | m + 1, j => by
    induction j using Nat.strongRecOn with
    | _ j ih =>
      rw [pa_up]
      have := pa_nn m j
      split
      · have := ih (j - (m + 1)) (by omega)
        omega
      · omega
theorem en_nn (i n : Nat) : 0 ≤ en i n := by
  unfold en
  split
  · exact pa_nn _ _
  · omega
theorem sum_nn {f : Nat → Int} : ∀ {l : List Nat}, (∀ b, b ∈ l → 0 ≤ f b) → 0 ≤ (l.map f).sum
  | [], _ => Int.le_refl 0
  | x :: xs, h => by
    rw [List.map_cons, List.sum_cons]
    have := h x List.mem_cons_self
    have := sum_nn (l := xs) fun b hb => h b (List.mem_cons_of_mem _ hb)
    omega
theorem le_sum {f : Nat → Int} : ∀ {l : List Nat}, (∀ b, b ∈ l → 0 ≤ f b) → ∀ b, b ∈ l → f b ≤ (l.map f).sum
  | x :: xs, h, b, hb => by
    rw [List.map_cons, List.sum_cons]
    have h0 := h x List.mem_cons_self
    have h1 := sum_nn (l := xs) fun b hb => h b (List.mem_cons_of_mem _ hb)
    rcases List.mem_cons.mp hb with rfl | hb
    · omega
    · have := le_sum (l := xs) (fun b hb => h b (List.mem_cons_of_mem _ hb)) b hb
      omega
theorem sqc_nn (n i : Nat) : 0 ≤ sqc n i := sum_nn fun b _ => Int.mul_nonneg (pa_nn _ _) (pa_nn _ _)
theorem PL_few : below 99999999999999999999 PL = true := by decide +kernel
theorem pa_few {n : Nat} (hn : n ≤ 400) : pa n n < 100000000000000000000 := by
  have := below_of PL_few n
  rw [← PL_get hn]
  omega
theorem en_few {n i : Nat} (hn : n ≤ 400) (hi : i ≤ n) : en i n < 100000000000000000000 := by
  have h1 := le_sum (f := fun i => en i n) (l := List.range (n + 1)) (fun b _ => en_nn b n) i (List.mem_range.mpr (by omega))
  rw [en_sum] at h1
  have := pa_few hn
  omega
theorem sqc_few {n i : Nat} (h : n ≤ 80 ∨ 374 ≤ n ∧ n ≤ 400) (hi : i ≤ rt 20 n) : sqc n i < 100000000000000000000 := by
  have h1 := le_sum (f := sqc n) (l := List.range (rt 20 n + 1)) (fun b _ => sqc_nn n b) i (List.mem_range.mpr (by omega))
  rw [whole h] at h1
  have := pa_few (n := n) (by omega)
  omega
theorem root_one {n a b : Nat} (h1 : a * a ≤ n) (h2 : n < (a + 1) * (a + 1)) (h3 : b * b ≤ n) (h4 : n < (b + 1) * (b + 1)) : a = b := by
  rcases Nat.lt_trichotomy a b with h | h | h
  · have : (a + 1) * (a + 1) ≤ b * b := Nat.mul_le_mul h h
    omega
  · exact h
  · have : (b + 1) * (b + 1) ≤ a * a := Nat.mul_le_mul h h
    omega
/-- the lists that the law meets -/
def lnL (n : Nat) : List Int := (List.range (n + 1)).map fun i => pa i (n - i)
def sqL (n : Nat) : List Int := (List.range (rt 20 n + 1)).map (sqc n)
theorem en_lnL (n : Nat) : ((List.range (n + 1)).map fun i => en i n) = lnL n := by
  refine List.map_congr_left fun i hi => ?_
  have := List.mem_range.mp hi
  unfold en
  rw [if_pos (by omega)]
theorem lnL_sum (n : Nat) : (lnL n).sum = pa n n := by rw [← en_lnL, en_sum]
theorem lnL_few {n : Nat} (hn : n ≤ 400) : ∀ x ∈ lnL n, x.natAbs < 10 ^ 20 := by
  intro x hx
  rw [← en_lnL] at hx
  obtain ⟨i, hi, rfl⟩ := List.mem_map.mp hx
  have := List.mem_range.mp hi
  have h1 := en_nn i n
  have h2 := en_few hn (i := i) (by omega)
  show (en i n).natAbs < 10 ^ 20
  omega
theorem sqL_sum {n : Nat} (h : n ≤ 80 ∨ 374 ≤ n ∧ n ≤ 400) : (sqL n).sum = pa n n := whole h
theorem sqL_few {n : Nat} (h : n ≤ 80 ∨ 374 ≤ n ∧ n ≤ 400) : ∀ x ∈ sqL n, x.natAbs < 10 ^ 20 := by
  intro x hx
  obtain ⟨i, hi, rfl⟩ := List.mem_map.mp hx
  have := List.mem_range.mp hi
  have h1 := sqc_nn n i
  have h2 := sqc_few h (i := i) (by omega)
  omega
theorem sqL_len (n : Nat) : (sqL n).length = rt 20 n + 1 := by unfold sqL; simp
theorem lnL_len (n : Nat) : (lnL n).length = n + 1 := by unfold lnL; simp
theorem sqL_get {n i : Nat} (hi : i ≤ rt 20 n) : (sqL n).getD i 0 = sqc n i := ll_get (sqc n) (n := rt 20 n + 1) (by omega)
theorem lens_len {n : Nat} (hn : n ≤ 13) : ((List.range (n + 1)).map fun (i : Nat) => (((lens n).count (i : Int) : Nat) : Int)) = lnL n := by
  refine List.map_congr_left fun i hi => ?_
  have := List.mem_range.mp hi
  exact small_len hn (by omega)
theorem sqrs_sq {n : Nat} (hn : n ≤ 13) : ((List.range (rt 20 n + 1)).map fun (i : Nat) => (((sqrs n).count (i : Int) : Nat) : Int)) = sqL n := by
  refine List.map_congr_left fun i hi => ?_
  have := List.mem_range.mp hi
  exact small_sqr hn (by omega)
theorem rc_sq {n : Nat} (hn : n ≤ 80) : ((List.range (rt 20 n + 1)).map fun i => (pa n n :: (List.range (rt 20 n + 1)).map fun j => rc n (j + 1)).getD i 0 - (pa n n :: (List.range (rt 20 n + 1)).map fun j => rc n (j + 1)).getD (i + 1) 0) = sqL n := by
  refine List.map_congr_left fun i hi => ?_
  have hi := List.mem_range.mp hi
  have hg : ∀ j, j < rt 20 n + 1 → (pa n n :: (List.range (rt 20 n + 1)).map fun j => rc n (j + 1)).getD (j + 1) 0 = rc n (j + 1) := fun j hj => by
    show ((List.range (rt 20 n + 1)).map fun j => rc n (j + 1)).getD j 0 = _
    exact ll_get (fun j => rc n (j + 1)) hj
  cases i with
  | zero =>
    rw [hg 0 hi, step_0 hn]
    rfl
  | succ i =>
    rw [hg (i + 1) hi, hg i (by omega), step_s hn hi]
end BX

set_option Elab.async false
set_option linter.all false
set_option maxRecDepth 100000
namespace MP.K
open PySem L2 MP
def top (i : Nat) : Stmt := PySem.Challenge.pw_letparts_k23_whole_counts_by_length_and.main.body.getD i (.Pass ⟨0, 0, 0, 0⟩)
/-- is_integer(value): slots 0:value -/
def b_p_is_integer : ISs :=
    (.cons (.ret (.and (.isi (.var 0) "int") (.not (.isi (.var 0) "bool"))))
    .nil)
def f_p_is_integer : Fw := ⟨⟨"is_integer", ["value"], ["value"], b_p_is_integer⟩, [], []⟩
/-- is_from_to(value, least, most): slots 0:value 1:least 2:most -/
def b_p_is_from_to : ISs :=
    (.cons (.ret (.and (.call "is_integer" 1 (.cons (.var 0) .nil)) (.chain .le .le (.var 1) (.var 0) (.var 2))))
    .nil)
def f_p_is_from_to : Fw := ⟨⟨"is_from_to", ["value", "least", "most"], ["value", "least", "most"], b_p_is_from_to⟩, [], []⟩
/-- need_from_to(value, least, most): slots 0:value 1:least 2:most -/
def b_p_need_from_to : ISs :=
    (.cons (.ite (.not (.call "is_from_to" 3 (.cons (.var 0) (.cons (.var 1) (.cons (.var 2) .nil)))))
    (.cons .raise
    .nil)
    .nil)
    .nil)
def f_p_need_from_to : Fw := ⟨⟨"need_from_to", ["value", "least", "most"], ["value", "least", "most"], b_p_need_from_to⟩, [], []⟩
/-- need_number(number, most): slots 0:number 1:most -/
def b_p_need_number : ISs :=
    (.cons (.expr (.call "need_from_to" 3 (.cons (.var 0) (.cons (.lit (.int 0)) (.cons (.var 1) .nil)))))
    .nil)
def f_p_need_number : Fw := ⟨⟨"need_number", ["number", "most"], ["number", "most"], b_p_need_number⟩, [], [(.int 400)]⟩
/-- one_alone(most): slots 0:most -/
def b_p_one_alone : ISs :=
    (.cons (.ret (.bin .add (.lst (.cons (.lit (.int 1)) .nil)) (.bin .mul (.lst (.cons (.lit (.int 0)) .nil)) (.var 0))))
    .nil)
def f_p_one_alone : Fw := ⟨⟨"one_alone", ["most"], ["most"], b_p_one_alone⟩, [], []⟩
/-- with_size(series, size): slots 0:series 1:size 2:product 3:at -/
def b_p_with_size : ISs :=
    (.cons (.set 2 (.blt .list (.cons (.var 0) .nil)))
    (.cons (.for [3] (.range (.cons (.var 1) (.cons (.blt .len (.cons (.var 2) .nil)) .nil)))
    (.cons (.augS (.var 2) (.var 3) .add (.idx (.var 2) (.bin .sub (.var 3) (.var 1))))
    .nil))
    (.cons (.ret (.var 2))
    .nil)))
def f_p_with_size : Fw := ⟨⟨"with_size", ["series", "size"], ["series", "size", "product", "at"], b_p_with_size⟩, [], []⟩
/-- rows_up_to(most, number): slots 0:most 1:number 2:table 3:size -/
def b_p_rows_up_to : ISs :=
    (.cons (.set 2 (.lst (.cons (.call "one_alone" 1 (.cons (.var 1) .nil)) .nil)))
    (.cons (.for [3] (.range (.cons (.lit (.int 1)) (.cons (.bin .add (.var 0) (.lit (.int 1))) .nil)))
    (.cons (.expr (.meth .append (.var 2) (.cons (.call "with_size" 2 (.cons (.idx (.var 2) (.bin .sub (.var 3) (.lit (.int 1)))) (.cons (.var 3) .nil))) .nil)))
    .nil))
    (.cons (.ret (.var 2))
    .nil)))
def f_p_rows_up_to : Fw := ⟨⟨"rows_up_to", ["most", "number"], ["most", "number", "table", "size"], b_p_rows_up_to⟩, [], []⟩
/-- length_counts(number): slots 0:number 1:table 2:length -/
def b_p_length_counts : ISs :=
    (.cons (.expr (.calld "need_number" 2 (.cons (.var 0) .nil) [(.int 400)]))
    (.cons (.set 1 (.call "rows_up_to" 2 (.cons (.var 0) (.cons (.var 0) .nil))))
    (.cons (.ret (.blt .tuple (.cons (.comp [2] (.range (.cons (.bin .add (.var 0) (.lit (.int 1))) .nil)) .nil (.idx (.idx (.var 1) (.var 2)) (.bin .sub (.var 0) (.var 2)))) .nil)))
    .nil)))
def f_p_length_counts : Fw := ⟨⟨"length_counts", ["number"], ["number", "table", "length"], b_p_length_counts⟩, [(0, ["number"], [0])], []⟩
/-- square_counts(number): slots 0:number 1:side 2:table 3:found 4:k 5:left 6:beside -/
def b_p_square_counts : ISs :=
    (.cons (.expr (.calld "need_number" 2 (.cons (.var 0) .nil) [(.int 400)]))
    (.cons (.set 1 (.mth .isqrt (.cons (.var 0) .nil)))
    (.cons (.set 2 (.call "rows_up_to" 2 (.cons (.var 1) (.cons (.var 0) .nil))))
    (.cons (.set 3 (.lst .nil))
    (.cons (.for [4] (.range (.cons (.bin .add (.var 1) (.lit (.int 1))) .nil))
    (.cons (.set 5 (.bin .sub (.var 0) (.bin .mul (.var 4) (.var 4))))
    (.cons (.expr (.meth .append (.var 3) (.cons (.blt .sum (.cons (.comp [6] (.range (.cons (.bin .add (.var 5) (.lit (.int 1))) .nil)) .nil (.bin .mul (.idx (.idx (.var 2) (.var 4)) (.var 6)) (.idx (.idx (.var 2) (.var 4)) (.bin .sub (.var 5) (.var 6))))) .nil)) .nil)))
    .nil)))
    (.cons (.ret (.blt .tuple (.cons (.var 3) .nil)))
    .nil))))))
def f_p_square_counts : Fw := ⟨⟨"square_counts", ["number"], ["number", "side", "table", "found", "k", "left", "beside"], b_p_square_counts⟩, [(0, ["number"], [0])], []⟩
/-- well(script, turn): slots 0:script 1:turn 2:cell 3:mixed 4:each -/
def b_l_well : ISs :=
    (.cons (.set 2 (.ite (.cmp .lt (.var 1) (.blt .len (.cons (.var 0) .nil))) (.blt .int (.cons (.idx (.var 0) (.var 1)) .nil)) (.bin .add (.bin .mul (.lit (.int 733)) (.var 1)) (.lit (.int 41)))))
    (.cons (.set 3 (.bin .add (.lit (.int 40231)) (.bin .mul (.lit (.int 5147)) (.var 1))))
    (.cons (.for [4] (.seq (.slc (.var 0) .nil (.cons (.lit (.int 6)) .nil)))
    (.cons (.set 3 (.bin .mod (.blt .int (.cons (.bin .add (.bin .add (.bin .mul (.var 3) (.lit (.int 48271))) (.bin .mod (.blt .int (.cons (.var 4) .nil)) (.lit (.int 2147480011)))) (.lit (.int 7))) .nil)) (.lit (.int 2147483629))))
    .nil))
    (.cons (.set 3 (.bin .mod (.blt .int (.cons (.bin .add (.bin .mul (.var 3) (.lit (.int 59))) (.bin .mul (.bin .mod (.blt .int (.cons (.var 2) .nil)) (.lit (.int 2147480011))) (.lit (.int 20011)))) .nil)) (.lit (.int 2147483629))))
    (.cons (.ret (.lst (.cons (.ite (.or (.cmp .lt (.var 2) (.lit (.int 0))) (.cmp .ge (.var 2) (.bin .pow (.lit (.int 10)) (.lit (.int 17))))) (.blt .abs (.cons (.var 2) .nil)) (.lit (.int 0))) (.cons (.var 3) (.cons (.lit (.int 0)) .nil)))))
    .nil)))))
def f_l_well : Fw := ⟨⟨"_law_well", ["_law_script", "_law_turn"], ["_law_script", "_law_turn", "_law_cell", "_law_mixed", "_law_each"], b_l_well⟩, [], []⟩
/-- dip(well_here, top): slots 0:well_here 1:top 2:digit -/
def b_l_dip : ISs :=
    (.cons (.ite (.cmp .gt (.idx (.var 0) (.lit (.int 0))) (.lit (.int 0)))
    (.cons (.setST (.var 0) (.lit (.int 0)) 2 (.blt .divmod (.cons (.idx (.var 0) (.lit (.int 0))) (.cons (.var 1) .nil))))
    (.cons (.ret (.var 2))
    .nil))
    .nil)
    (.cons (.setS (.var 0) (.lit (.int 2)) (.bin .add (.idx (.var 0) (.lit (.int 2))) (.lit (.int 1))))
    (.cons (.setS (.var 0) (.lit (.int 1)) (.bin .mod (.blt .int (.cons (.bin .add (.bin .add (.bin .mul (.idx (.var 0) (.lit (.int 1))) (.lit (.int 39373))) (.bin .mul (.lit (.int 60013)) (.idx (.var 0) (.lit (.int 2))))) (.lit (.int 11))) .nil)) (.lit (.int 2147483629))))
    (.cons (.ret (.bin .mod (.blt .int (.cons (.bin .fdiv (.idx (.var 0) (.lit (.int 1))) (.lit (.int 127))) .nil)) (.var 1)))
    .nil))))
def f_l_dip : Fw := ⟨⟨"_law_dip", ["_law_well_here", "_law_top"], ["_law_well_here", "_law_top", "_law_digit"], b_l_dip⟩, [], []⟩
/-- of(well_here, some): slots 0:well_here 1:some -/
def b_l_of : ISs :=
    (.cons (.ret (.idx (.var 1) (.call "_law_dip" 2 (.cons (.var 0) (.cons (.blt .len (.cons (.var 1) .nil)) .nil)))))
    .nil)
def f_l_of : Fw := ⟨⟨"_law_of", ["_law_well_here", "_law_some"], ["_law_well_here", "_law_some"], b_l_of⟩, [], []⟩
/-- rows(number, most): slots 0:number 1:most 2:found 3:part 4:rest -/
def b_l_rows : ISs :=
    (.cons (.set 2 (.ite (.cmp .eq (.var 0) (.lit (.int 0))) (.lst (.cons (.tup .nil) .nil)) (.lst .nil)))
    (.cons (.for [3] (.range (.cons (.lit (.int 1)) (.cons (.bin .add (.blt .min (.cons (.var 0) (.cons (.var 1) .nil))) (.lit (.int 1))) .nil)))
    (.cons (.set 2 (.bin .add (.var 2) (.comp [4] (.seq (.call "_law_rows" 2 (.cons (.bin .sub (.var 0) (.var 3)) (.cons (.var 3) .nil)))) .nil (.bin .add (.tup (.cons (.var 3) .nil)) (.var 4)))))
    .nil))
    (.cons (.ret (.var 2))
    .nil)))
def f_l_rows : Fw := ⟨⟨"_law_rows", ["_law_number", "_law_most"], ["_law_number", "_law_most", "_law_found", "_law_part", "_law_rest"], b_l_rows⟩, [], []⟩
/-- square(row): slots 0:row 1:side 2:part -/
def b_l_square : ISs :=
    (.cons (.ret (.blt .max (.cons (.comp [1] (.range (.cons (.bin .add (.blt .len (.cons (.var 0) .nil)) (.lit (.int 1))) .nil)) (.cons (.cmp .ge (.blt .len (.cons (.comp [2] (.seq (.var 0)) (.cons (.cmp .ge (.var 2) (.var 1)) .nil) (.var 2)) .nil)) (.var 1)) .nil) (.var 1)) .nil)))
    .nil)
def f_l_square : Fw := ⟨⟨"_law_square", ["_law_row"], ["_law_row", "_law_side", "_law_part"], b_l_square⟩, [], []⟩
/-- lengths(number): slots 0:number 1:found 2:many 3:ways 4:total -/
def b_l_lengths : ISs :=
    (.cons (.set 1 (.lst (.cons (.bin .add (.lst (.cons (.lit (.int 1)) .nil)) (.bin .mul (.lst (.cons (.lit (.int 0)) .nil)) (.var 0))) .nil)))
    (.cons (.for [2] (.range (.cons (.lit (.int 1)) (.cons (.bin .add (.var 0) (.lit (.int 1))) .nil)))
    (.cons (.set 3 (.bin .mul (.lst (.cons (.lit (.int 0)) .nil)) (.bin .add (.var 0) (.lit (.int 1)))))
    (.cons (.for [4] (.range (.cons (.var 2) (.cons (.bin .add (.var 0) (.lit (.int 1))) .nil)))
    (.cons (.setS (.var 3) (.var 4) (.bin .add (.idx (.idx (.var 1) (.neg (.lit (.int 1)))) (.bin .sub (.var 4) (.lit (.int 1)))) (.idx (.var 3) (.bin .sub (.var 4) (.var 2)))))
    .nil))
    (.cons (.expr (.meth .append (.var 1) (.cons (.var 3) .nil)))
    .nil))))
    (.cons (.ret (.var 1))
    .nil)))
def f_l_lengths : Fw := ⟨⟨"_law_lengths", ["_law_number"], ["_law_number", "_law_found", "_law_many", "_law_ways", "_law_total"], b_l_lengths⟩, [], []⟩
/-- reach(table, number, side): slots 0:table 1:number 2:side 3:size 4:many 5:below 6:found 7:total 8:least -/
def b_l_reach : ISs :=
    (.cons (.setP [5, 6] (.cons (.bin .add (.lst (.cons (.lit (.int 1)) .nil)) (.bin .mul (.lst (.cons (.lit (.int 0)) .nil)) (.var 1))) (.cons (.lit (.int 0)) .nil)))
    (.cons (.for [3] (.range (.cons (.lit (.int 1)) (.cons (.var 2) .nil)))
    (.cons (.for [7] (.range (.cons (.var 3) (.cons (.bin .add (.var 1) (.lit (.int 1))) .nil)))
    (.cons (.setS (.var 5) (.var 7) (.bin .add (.idx (.var 5) (.var 7)) (.idx (.var 5) (.bin .sub (.var 7) (.var 3)))))
    .nil))
    .nil))
    (.cons (.for [4] (.range (.cons (.var 2) (.cons (.bin .add (.bin .fdiv (.var 1) (.var 2)) (.lit (.int 1))) .nil)))
    (.cons (.for [7] (.range (.cons (.bin .mul (.var 4) (.var 2)) (.cons (.bin .add (.var 1) (.lit (.int 1))) .nil)))
    (.cons (.set 8 (.bin .sub (.var 7) (.bin .mul (.var 4) (.bin .sub (.var 2) (.lit (.int 1))))))
    (.cons (.set 6 (.bin .add (.var 6) (.bin .mul (.idx (.idx (.var 0) (.var 4)) (.var 8)) (.idx (.var 5) (.bin .sub (.var 1) (.var 7))))))
    .nil)))
    .nil))
    (.cons (.ret (.var 6))
    .nil))))
def f_l_reach : Fw := ⟨⟨"_law_reach", ["_law_table", "_law_number", "_law_side"], ["_law_table", "_law_number", "_law_side", "_law_size", "_law_many", "_law_below", "_law_found", "_law_total", "_law_least"], b_l_reach⟩, [], []⟩
/-- small(every): slots 0:every 1:number 2:due 3:lengths_here 4:squares 5:row 6:many 7:side -/
def b_l_small : ISs :=
    (.cons (.for [1] (.range (.cons (.lit (.int 14)) .nil))
    (.cons (.setP [3, 4] (.cons (.comp [5] (.seq (.idx (.var 0) (.var 1))) .nil (.blt .len (.cons (.var 5) .nil))) (.cons (.comp [5] (.seq (.idx (.var 0) (.var 1))) .nil (.call "_law_square" 1 (.cons (.var 5) .nil))) .nil)))
    (.cons (.set 2 (.lst (.cons (.blt .tuple (.cons (.comp [6] (.range (.cons (.bin .add (.var 1) (.lit (.int 1))) .nil)) .nil (.meth .count (.var 3) (.cons (.var 6) .nil))) .nil)) .nil)))
    (.cons (.expr (.meth .append (.var 2) (.cons (.blt .tuple (.cons (.comp [7] (.range (.cons (.bin .add (.blt .max (.cons (.var 4) .nil)) (.lit (.int 1))) .nil)) .nil (.meth .count (.var 4) (.cons (.var 7) .nil))) .nil)) .nil)))
    (.cons (.ite (.cmp .ne (.blt .repr (.cons (.lst (.cons (.call "length_counts" 1 (.cons (.var 1) .nil)) (.cons (.call "square_counts" 1 (.cons (.var 1) .nil)) .nil))) .nil)) (.blt .repr (.cons (.var 2) .nil)))
    (.cons (.ret (.lit (.bl false)))
    .nil)
    .nil)
    .nil)))))
    (.cons (.ret (.lit (.bl true)))
    .nil))
def f_l_small : Fw := ⟨⟨"_law_small", ["_law_every"], ["_law_every", "_law_number", "_law_due", "_law_lengths_here", "_law_squares", "_law_row", "_law_many", "_law_side"], b_l_small⟩, [], []⟩
/-- right(well_here): slots 0:well_here 1:number 2:table 3:due 4:told 5:reach_here 6:ways 7:side -/
def b_l_right : ISs :=
    (.cons (.set 1 (.bin .sub (.call "_law_of" 2 (.cons (.var 0) (.cons (.lst (.cons (.lit (.int 80)) (.cons (.lit (.int 80)) (.cons (.lit (.int 80)) (.cons (.lit (.int 80)) (.cons (.lit (.int 40)) (.cons (.lit (.int 40)) (.cons (.lit (.int 40)) (.cons (.lit (.int 400)) .nil))))))))) .nil))) (.call "_law_dip" 2 (.cons (.var 0) (.cons (.lit (.int 27)) .nil)))))
    (.cons (.set 2 (.call "_law_lengths" 1 (.cons (.var 1) .nil)))
    (.cons (.set 3 (.blt .tuple (.cons (.comp [6] (.seq (.var 2)) .nil (.idx (.var 6) (.var 1))) .nil)))
    (.cons (.ite (.cmp .ne (.blt .repr (.cons (.lst (.cons (.call "length_counts" 1 (.cons (.var 1) .nil)) (.cons (.callk "length_counts" 1 .nil ["number"] [0] (.cons (.var 1) .nil)) .nil))) .nil)) (.blt .repr (.cons (.lst (.cons (.var 3) (.cons (.var 3) .nil))) .nil)))
    (.cons (.ret (.lit (.bl false)))
    .nil)
    .nil)
    (.cons (.set 4 (.callk "square_counts" 1 .nil ["number"] [0] (.cons (.var 1) .nil)))
    (.cons (.ite (.or (.cmp .ne (.blt .sum (.cons (.var 4) .nil)) (.blt .sum (.cons (.var 3) .nil))) (.or (.not (.chain .le .lt (.bin .pow (.bin .sub (.blt .len (.cons (.var 4) .nil)) (.lit (.int 1))) (.lit (.int 2))) (.var 1) (.bin .pow (.blt .len (.cons (.var 4) .nil)) (.lit (.int 2))))) (.cmp .ne (.var 4) (.call "square_counts" 1 (.cons (.var 1) .nil)))))
    (.cons (.ret (.lit (.bl false)))
    .nil)
    .nil)
    (.cons (.ite (.cmp .gt (.var 1) (.lit (.int 80)))
    (.cons (.ret (.cmp .eq (.idx (.var 4) (.lit (.int 1))) (.var 1)))
    .nil)
    .nil)
    (.cons (.set 5 (.bin .add (.lst (.cons (.blt .sum (.cons (.var 3) .nil)) .nil)) (.comp [7] (.range (.cons (.lit (.int 1)) (.cons (.bin .add (.blt .len (.cons (.var 4) .nil)) (.lit (.int 1))) .nil))) .nil (.call "_law_reach" 3 (.cons (.var 2) (.cons (.var 1) (.cons (.var 7) .nil)))))))
    (.cons (.ret (.cmp .eq (.blt .repr (.cons (.var 4) .nil)) (.blt .repr (.cons (.blt .tuple (.cons (.comp [7] (.range (.cons (.blt .len (.cons (.var 4) .nil)) .nil)) .nil (.bin .sub (.idx (.var 5) (.var 7)) (.idx (.var 5) (.bin .add (.var 7) (.lit (.int 1)))))) .nil)) .nil))))
    .nil)))))))))
def f_l_right : Fw := ⟨⟨"_law_right", ["_law_well_here"], ["_law_well_here", "_law_number", "_law_table", "_law_due", "_law_told", "_law_reach_here", "_law_ways", "_law_side"], b_l_right⟩, [], []⟩
/-- law(script): slots 0:script 1:every 2:number 3:turn -/
def b_p_law : ISs :=
    (.cons (.setc 1 [2] (.range (.cons (.lit (.int 14)) .nil)) .nil (.call "_law_rows" 2 (.cons (.var 2) (.cons (.var 2) .nil))))
    (.cons (.ret (.and (.call "_law_small" 1 (.cons (.var 1) .nil)) (.blt .all (.cons (.comp [3] (.range (.cons (.lit (.int 2)) .nil)) .nil (.call "_law_right" 1 (.cons (.call "_law_well" 2 (.cons (.var 0) (.cons (.var 3) .nil))) .nil))) .nil))))
    .nil))
def f_p_law : Fw := ⟨⟨"law", ["_law_script"], ["_law_script", "_law_every", "_law_number", "_law_turn"], b_p_law⟩, [], []⟩
def Fs : List Fw := [f_p_is_integer, f_p_is_from_to, f_p_need_from_to, f_p_need_number, f_p_one_alone, f_p_with_size, f_p_rows_up_to, f_p_length_counts, f_p_square_counts, f_l_well, f_l_dip, f_l_of, f_l_rows, f_l_square, f_l_lengths, f_l_reach, f_l_small, f_l_right, f_p_law]
def cons : List (Str × V) := []
def blts : List Str := ["abs", "all", "bool", "divmod", "int", "isinstance", "len", "list", "max", "min", "range", "repr", "sum", "tuple"]
def mths : List (Str × Bf) := [("isqrt", .isqrt)]
abbrev TT : Tab := tabOf Fs cons blts mths
theorem c_p_is_integer : b_p_is_integer.chk TT ["value"] (defScope (top 6)) (fun _ => true) (defBody (top 6)) = true := by decide +kernel
theorem s_p_is_integer : FnScope ["value"] ["value"] (defScope (top 6)) := ⟨rfl, rfl, rfl, by decide +kernel, rfl, by decide +kernel, by decide +kernel⟩
theorem c_p_is_from_to : b_p_is_from_to.chk TT ["value", "least", "most"] (defScope (top 7)) (fun _ => true) (defBody (top 7)) = true := by decide +kernel
theorem s_p_is_from_to : FnScope ["value", "least", "most"] ["value", "least", "most"] (defScope (top 7)) := ⟨rfl, rfl, rfl, by decide +kernel, rfl, by decide +kernel, by decide +kernel⟩
theorem c_p_need_from_to : b_p_need_from_to.chk TT ["value", "least", "most"] (defScope (top 8)) (fun _ => true) (defBody (top 8)) = true := by decide +kernel
theorem s_p_need_from_to : FnScope ["value", "least", "most"] ["value", "least", "most"] (defScope (top 8)) := ⟨rfl, rfl, rfl, by decide +kernel, rfl, by decide +kernel, by decide +kernel⟩
theorem c_p_need_number : b_p_need_number.chk TT ["number", "most"] (defScope (top 9)) (fun _ => true) (defBody (top 9)) = true := by decide +kernel
theorem s_p_need_number : FnScope ["number", "most"] ["number", "most"] (defScope (top 9)) := ⟨rfl, rfl, rfl, by decide +kernel, rfl, by decide +kernel, by decide +kernel⟩
theorem c_p_one_alone : b_p_one_alone.chk TT ["most"] (defScope (top 11)) (fun _ => true) (defBody (top 11)) = true := by decide +kernel
theorem s_p_one_alone : FnScope ["most"] ["most"] (defScope (top 11)) := ⟨rfl, rfl, rfl, by decide +kernel, rfl, by decide +kernel, by decide +kernel⟩
theorem c_p_with_size : b_p_with_size.chk TT ["series", "size", "product", "at"] (defScope (top 12)) (fun _ => true) (defBody (top 12)) = true := by decide +kernel
theorem s_p_with_size : FnScope ["series", "size", "product", "at"] ["series", "size"] (defScope (top 12)) := ⟨rfl, rfl, rfl, by decide +kernel, rfl, by decide +kernel, by decide +kernel⟩
theorem c_p_rows_up_to : b_p_rows_up_to.chk TT ["most", "number", "table", "size"] (defScope (top 13)) (fun _ => true) (defBody (top 13)) = true := by decide +kernel
theorem s_p_rows_up_to : FnScope ["most", "number", "table", "size"] ["most", "number"] (defScope (top 13)) := ⟨rfl, rfl, rfl, by decide +kernel, rfl, by decide +kernel, by decide +kernel⟩
theorem c_p_length_counts : b_p_length_counts.chk TT ["number", "table", "length"] (defScope (top 15)) (fun _ => true) (defBody (top 15)) = true := by decide +kernel
theorem s_p_length_counts : FnScope ["number", "table", "length"] ["number"] (defScope (top 15)) := ⟨rfl, rfl, rfl, by decide +kernel, rfl, by decide +kernel, by decide +kernel⟩
theorem c_p_square_counts : b_p_square_counts.chk TT ["number", "side", "table", "found", "k", "left", "beside"] (defScope (top 16)) (fun _ => true) (defBody (top 16)) = true := by decide +kernel
theorem s_p_square_counts : FnScope ["number", "side", "table", "found", "k", "left", "beside"] ["number"] (defScope (top 16)) := ⟨rfl, rfl, rfl, by decide +kernel, rfl, by decide +kernel, by decide +kernel⟩
theorem c_l_well : b_l_well.chk TT ["_law_script", "_law_turn", "_law_cell", "_law_mixed", "_law_each"] (defScope (top 18)) (fun _ => true) (defBody (top 18)) = true := by decide +kernel
theorem s_l_well : FnScope ["_law_script", "_law_turn", "_law_cell", "_law_mixed", "_law_each"] ["_law_script", "_law_turn"] (defScope (top 18)) := ⟨rfl, rfl, rfl, by decide +kernel, rfl, by decide +kernel, by decide +kernel⟩
theorem c_l_dip : b_l_dip.chk TT ["_law_well_here", "_law_top", "_law_digit"] (defScope (top 19)) (fun _ => true) (defBody (top 19)) = true := by decide +kernel
theorem s_l_dip : FnScope ["_law_well_here", "_law_top", "_law_digit"] ["_law_well_here", "_law_top"] (defScope (top 19)) := ⟨rfl, rfl, rfl, by decide +kernel, rfl, by decide +kernel, by decide +kernel⟩
theorem c_l_of : b_l_of.chk TT ["_law_well_here", "_law_some"] (defScope (top 20)) (fun _ => true) (defBody (top 20)) = true := by decide +kernel
theorem s_l_of : FnScope ["_law_well_here", "_law_some"] ["_law_well_here", "_law_some"] (defScope (top 20)) := ⟨rfl, rfl, rfl, by decide +kernel, rfl, by decide +kernel, by decide +kernel⟩
theorem c_l_rows : b_l_rows.chk TT ["_law_number", "_law_most", "_law_found", "_law_part", "_law_rest"] (defScope (top 21)) (fun _ => true) (defBody (top 21)) = true := by decide +kernel
theorem s_l_rows : FnScope ["_law_number", "_law_most", "_law_found", "_law_part", "_law_rest"] ["_law_number", "_law_most"] (defScope (top 21)) := ⟨rfl, rfl, rfl, by decide +kernel, rfl, by decide +kernel, by decide +kernel⟩
theorem c_l_square : b_l_square.chk TT ["_law_row", "_law_side", "_law_part"] (defScope (top 22)) (fun _ => true) (defBody (top 22)) = true := by decide +kernel
theorem s_l_square : FnScope ["_law_row", "_law_side", "_law_part"] ["_law_row"] (defScope (top 22)) := ⟨rfl, rfl, rfl, by decide +kernel, rfl, by decide +kernel, by decide +kernel⟩
theorem c_l_lengths : b_l_lengths.chk TT ["_law_number", "_law_found", "_law_many", "_law_ways", "_law_total"] (defScope (top 23)) (fun _ => true) (defBody (top 23)) = true := by decide +kernel
theorem s_l_lengths : FnScope ["_law_number", "_law_found", "_law_many", "_law_ways", "_law_total"] ["_law_number"] (defScope (top 23)) := ⟨rfl, rfl, rfl, by decide +kernel, rfl, by decide +kernel, by decide +kernel⟩
theorem c_l_reach : b_l_reach.chk TT ["_law_table", "_law_number", "_law_side", "_law_size", "_law_many", "_law_below", "_law_found", "_law_total", "_law_least"] (defScope (top 24)) (fun _ => true) (defBody (top 24)) = true := by decide +kernel
theorem s_l_reach : FnScope ["_law_table", "_law_number", "_law_side", "_law_size", "_law_many", "_law_below", "_law_found", "_law_total", "_law_least"] ["_law_table", "_law_number", "_law_side"] (defScope (top 24)) := ⟨rfl, rfl, rfl, by decide +kernel, rfl, by decide +kernel, by decide +kernel⟩
theorem c_l_small : b_l_small.chk TT ["_law_every", "_law_number", "_law_due", "_law_lengths_here", "_law_squares", "_law_row", "_law_many", "_law_side"] (defScope (top 25)) (fun _ => true) (defBody (top 25)) = true := by decide +kernel
theorem s_l_small : FnScope ["_law_every", "_law_number", "_law_due", "_law_lengths_here", "_law_squares", "_law_row", "_law_many", "_law_side"] ["_law_every"] (defScope (top 25)) := ⟨rfl, rfl, rfl, by decide +kernel, rfl, by decide +kernel, by decide +kernel⟩
theorem c_l_right : b_l_right.chk TT ["_law_well_here", "_law_number", "_law_table", "_law_due", "_law_told", "_law_reach_here", "_law_ways", "_law_side"] (defScope (top 26)) (fun _ => true) (defBody (top 26)) = true := by decide +kernel
theorem s_l_right : FnScope ["_law_well_here", "_law_number", "_law_table", "_law_due", "_law_told", "_law_reach_here", "_law_ways", "_law_side"] ["_law_well_here"] (defScope (top 26)) := ⟨rfl, rfl, rfl, by decide +kernel, rfl, by decide +kernel, by decide +kernel⟩
theorem c_p_law : b_p_law.chk TT ["_law_script", "_law_every", "_law_number", "_law_turn"] (defScope (top 27)) (fun _ => true) (defBody (top 27)) = true := by decide +kernel
theorem s_p_law : FnScope ["_law_script", "_law_every", "_law_number", "_law_turn"] ["_law_script"] (defScope (top 27)) := ⟨rfl, rfl, rfl, by decide +kernel, rfl, by decide +kernel, by decide +kernel⟩
theorem nodup : (Fs.map fun F => F.fn.name).Nodup := by decide +kernel
section
variable {K : PySem.W.Frag} {mg : Str → Option Value} {h : Heap}
theorem g_p_is_integer (X : K.In h) (G : h.Ns mainGlobals mg) {f : Addr} {od an : Option Addr} {sl : Array (Option Value)} {oc kV dc pm cd ct : Value} (a1 : PySem.W.nsIn K mainGlobals "is_integer" = some (some (.ref f))) (a2 : K.lookup f = some ⟨oc, od, .func (PySem.W.fnOf "is_integer" "is_integer" (defArgs (top 6)) (defBody (top 6)) (defScope (top 6)) .none kV dc pm an cd ct), sl⟩) (a3 : PySem.W.codeIn K cd "is_integer" = true) (a4 : PySem.W.keepIn K (.ref f) = true) : FnS TT K mg f_p_is_integer := by
  have F := fun_mk (st := top 6) a2 a3 a4
  refine ⟨f, _, "is_integer", top 6, PySem.W.mg_of X G a1, .of F, s_p_is_integer, F.binds (ps := ["value"]) fun _ _ _ _ _ _ us hl => match us, hl with | [_], _ => rfl, ?_, (fun j hj => absurd hj (Nat.not_lt_zero j)), c_p_is_integer⟩
  intro q hq
  cases hq
theorem g_p_is_from_to (X : K.In h) (G : h.Ns mainGlobals mg) {f : Addr} {od an : Option Addr} {sl : Array (Option Value)} {oc kV dc pm cd ct : Value} (a1 : PySem.W.nsIn K mainGlobals "is_from_to" = some (some (.ref f))) (a2 : K.lookup f = some ⟨oc, od, .func (PySem.W.fnOf "is_from_to" "is_from_to" (defArgs (top 7)) (defBody (top 7)) (defScope (top 7)) .none kV dc pm an cd ct), sl⟩) (a3 : PySem.W.codeIn K cd "is_from_to" = true) (a4 : PySem.W.keepIn K (.ref f) = true) : FnS TT K mg f_p_is_from_to := by
  have F := fun_mk (st := top 7) a2 a3 a4
  refine ⟨f, _, "is_from_to", top 7, PySem.W.mg_of X G a1, .of F, s_p_is_from_to, F.binds (ps := ["value", "least", "most"]) fun _ _ _ _ _ _ us hl => match us, hl with | [_, _, _], _ => rfl, ?_, (fun j hj => absurd hj (Nat.not_lt_zero j)), c_p_is_from_to⟩
  intro q hq
  cases hq
theorem g_p_need_from_to (X : K.In h) (G : h.Ns mainGlobals mg) {f : Addr} {od an : Option Addr} {sl : Array (Option Value)} {oc kV dc pm cd ct : Value} (a1 : PySem.W.nsIn K mainGlobals "need_from_to" = some (some (.ref f))) (a2 : K.lookup f = some ⟨oc, od, .func (PySem.W.fnOf "need_from_to" "need_from_to" (defArgs (top 8)) (defBody (top 8)) (defScope (top 8)) .none kV dc pm an cd ct), sl⟩) (a3 : PySem.W.codeIn K cd "need_from_to" = true) (a4 : PySem.W.keepIn K (.ref f) = true) : FnS TT K mg f_p_need_from_to := by
  have F := fun_mk (st := top 8) a2 a3 a4
  refine ⟨f, _, "need_from_to", top 8, PySem.W.mg_of X G a1, .of F, s_p_need_from_to, F.binds (ps := ["value", "least", "most"]) fun _ _ _ _ _ _ us hl => match us, hl with | [_, _, _], _ => rfl, ?_, (fun j hj => absurd hj (Nat.not_lt_zero j)), c_p_need_from_to⟩
  intro q hq
  cases hq
theorem g_p_need_number (X : K.In h) (G : h.Ns mainGlobals mg) {f : Addr} {od an : Option Addr} {sl : Array (Option Value)} {oc kV dc pm cd ct : Value} {T : Addr} {oT : Option Addr} {its : Array Value} {nT : Nat} {slT : Array (Option Value)} {ocT : Value} (a5 : K.lookup T = some ⟨ocT, oT, .seq its nT, slT⟩) (a6 : Vals [(.int 400)] its.toList) (a1 : PySem.W.nsIn K mainGlobals "need_number" = some (some (.ref f))) (a2 : K.lookup f = some ⟨oc, od, .func (PySem.W.fnOf "need_number" "need_number" (defArgs (top 9)) (defBody (top 9)) (defScope (top 9)) (.ref T) kV dc pm an cd ct), sl⟩) (a3 : PySem.W.codeIn K cd "need_number" = true) (a4 : PySem.W.keepIn K (.ref f) = true) : FnS TT K mg f_p_need_number := by
  have F : FunD K "need_number" "need_number" (defArgs (top 9)) (defBody (top 9)) (defScope (top 9)) [(.int 400)] [] f _ := ⟨⟨_, _, .ref T, _, _, _, _, _, _, _, rfl, a2, a3, .inr ⟨by simp, T, _, its.toList, nT, rfl, a5, by simp, a6⟩, .inl rfl⟩, a4⟩
  refine ⟨f, _, "need_number", top 9, PySem.W.mg_of X G a1, ⟨⟨_, _, .ref T, _, _, _, _, _, _, _, rfl, a2, a3⟩, a4⟩, s_p_need_number, ?_, ?_, ?_, c_p_need_number⟩
  · obtain ⟨ds, r, b⟩ := F.binds1 (ps := ["number", "most"]) 2 1 (by simp) rfl fun _ _ _ _ _ _ _ us its hu hi => match us, its, hu, hi with | [_, _], [_], _, _ => ⟨_, rfl, rfl⟩
    cases r
    exact b
  rotate_left
  · intro j hj
    have hj : j < 1 := hj
    by_cases e0 : j = 0
    · subst e0
      exact F.binds1 (ps := ["number", "most"]) 1 0 (by simp) rfl fun _ _ _ _ _ _ _ us its hu hi => match us, its, hu, hi with | [_], [_], _, _ => ⟨_, rfl, rfl⟩
    omega
  intro q hq
  cases hq
theorem g_p_one_alone (X : K.In h) (G : h.Ns mainGlobals mg) {f : Addr} {od an : Option Addr} {sl : Array (Option Value)} {oc kV dc pm cd ct : Value} (a1 : PySem.W.nsIn K mainGlobals "one_alone" = some (some (.ref f))) (a2 : K.lookup f = some ⟨oc, od, .func (PySem.W.fnOf "one_alone" "one_alone" (defArgs (top 11)) (defBody (top 11)) (defScope (top 11)) .none kV dc pm an cd ct), sl⟩) (a3 : PySem.W.codeIn K cd "one_alone" = true) (a4 : PySem.W.keepIn K (.ref f) = true) : FnS TT K mg f_p_one_alone := by
  have F := fun_mk (st := top 11) a2 a3 a4
  refine ⟨f, _, "one_alone", top 11, PySem.W.mg_of X G a1, .of F, s_p_one_alone, F.binds (ps := ["most"]) fun _ _ _ _ _ _ us hl => match us, hl with | [_], _ => rfl, ?_, (fun j hj => absurd hj (Nat.not_lt_zero j)), c_p_one_alone⟩
  intro q hq
  cases hq
theorem g_p_with_size (X : K.In h) (G : h.Ns mainGlobals mg) {f : Addr} {od an : Option Addr} {sl : Array (Option Value)} {oc kV dc pm cd ct : Value} (a1 : PySem.W.nsIn K mainGlobals "with_size" = some (some (.ref f))) (a2 : K.lookup f = some ⟨oc, od, .func (PySem.W.fnOf "with_size" "with_size" (defArgs (top 12)) (defBody (top 12)) (defScope (top 12)) .none kV dc pm an cd ct), sl⟩) (a3 : PySem.W.codeIn K cd "with_size" = true) (a4 : PySem.W.keepIn K (.ref f) = true) : FnS TT K mg f_p_with_size := by
  have F := fun_mk (st := top 12) a2 a3 a4
  refine ⟨f, _, "with_size", top 12, PySem.W.mg_of X G a1, .of F, s_p_with_size, F.binds (ps := ["series", "size"]) fun _ _ _ _ _ _ us hl => match us, hl with | [_, _], _ => rfl, ?_, (fun j hj => absurd hj (Nat.not_lt_zero j)), c_p_with_size⟩
  intro q hq
  cases hq
theorem g_p_rows_up_to (X : K.In h) (G : h.Ns mainGlobals mg) {f : Addr} {od an : Option Addr} {sl : Array (Option Value)} {oc kV dc pm cd ct : Value} (a1 : PySem.W.nsIn K mainGlobals "rows_up_to" = some (some (.ref f))) (a2 : K.lookup f = some ⟨oc, od, .func (PySem.W.fnOf "rows_up_to" "rows_up_to" (defArgs (top 13)) (defBody (top 13)) (defScope (top 13)) .none kV dc pm an cd ct), sl⟩) (a3 : PySem.W.codeIn K cd "rows_up_to" = true) (a4 : PySem.W.keepIn K (.ref f) = true) : FnS TT K mg f_p_rows_up_to := by
  have F := fun_mk (st := top 13) a2 a3 a4
  refine ⟨f, _, "rows_up_to", top 13, PySem.W.mg_of X G a1, .of F, s_p_rows_up_to, F.binds (ps := ["most", "number"]) fun _ _ _ _ _ _ us hl => match us, hl with | [_, _], _ => rfl, ?_, (fun j hj => absurd hj (Nat.not_lt_zero j)), c_p_rows_up_to⟩
  intro q hq
  cases hq
theorem g_p_length_counts (X : K.In h) (G : h.Ns mainGlobals mg) {f : Addr} {od an : Option Addr} {sl : Array (Option Value)} {oc kV dc pm cd ct : Value} (a1 : PySem.W.nsIn K mainGlobals "length_counts" = some (some (.ref f))) (a2 : K.lookup f = some ⟨oc, od, .func (PySem.W.fnOf "length_counts" "length_counts" (defArgs (top 15)) (defBody (top 15)) (defScope (top 15)) .none kV dc pm an cd ct), sl⟩) (a3 : PySem.W.codeIn K cd "length_counts" = true) (a4 : PySem.W.keepIn K (.ref f) = true) : FnS TT K mg f_p_length_counts := by
  have F := fun_mk (st := top 15) a2 a3 a4
  refine ⟨f, _, "length_counts", top 15, PySem.W.mg_of X G a1, .of F, s_p_length_counts, F.binds (ps := ["number"]) fun _ _ _ _ _ _ us hl => match us, hl with | [_], _ => rfl, ?_, (fun j hj => absurd hj (Nat.not_lt_zero j)), c_p_length_counts⟩
  intro q hq
  simp only [f_p_length_counts, List.mem_cons, List.not_mem_nil, or_false] at hq
  subst hq
  · exact kwb_of F fun _ _ _ _ _ _ us ws h1 h2 => match us, ws, h1, h2 with | [], [_], _, _ => rfl
theorem g_p_square_counts (X : K.In h) (G : h.Ns mainGlobals mg) {f : Addr} {od an : Option Addr} {sl : Array (Option Value)} {oc kV dc pm cd ct : Value} (a1 : PySem.W.nsIn K mainGlobals "square_counts" = some (some (.ref f))) (a2 : K.lookup f = some ⟨oc, od, .func (PySem.W.fnOf "square_counts" "square_counts" (defArgs (top 16)) (defBody (top 16)) (defScope (top 16)) .none kV dc pm an cd ct), sl⟩) (a3 : PySem.W.codeIn K cd "square_counts" = true) (a4 : PySem.W.keepIn K (.ref f) = true) : FnS TT K mg f_p_square_counts := by
  have F := fun_mk (st := top 16) a2 a3 a4
  refine ⟨f, _, "square_counts", top 16, PySem.W.mg_of X G a1, .of F, s_p_square_counts, F.binds (ps := ["number"]) fun _ _ _ _ _ _ us hl => match us, hl with | [_], _ => rfl, ?_, (fun j hj => absurd hj (Nat.not_lt_zero j)), c_p_square_counts⟩
  intro q hq
  simp only [f_p_square_counts, List.mem_cons, List.not_mem_nil, or_false] at hq
  subst hq
  · exact kwb_of F fun _ _ _ _ _ _ us ws h1 h2 => match us, ws, h1, h2 with | [], [_], _, _ => rfl
theorem g_l_well (X : K.In h) (G : h.Ns mainGlobals mg) {f : Addr} {od an : Option Addr} {sl : Array (Option Value)} {oc kV dc pm cd ct : Value} (a1 : PySem.W.nsIn K mainGlobals "_law_well" = some (some (.ref f))) (a2 : K.lookup f = some ⟨oc, od, .func (PySem.W.fnOf "_law_well" "_law_well" (defArgs (top 18)) (defBody (top 18)) (defScope (top 18)) .none kV dc pm an cd ct), sl⟩) (a3 : PySem.W.codeIn K cd "_law_well" = true) (a4 : PySem.W.keepIn K (.ref f) = true) : FnS TT K mg f_l_well := by
  have F := fun_mk (st := top 18) a2 a3 a4
  refine ⟨f, _, "_law_well", top 18, PySem.W.mg_of X G a1, .of F, s_l_well, F.binds (ps := ["_law_script", "_law_turn"]) fun _ _ _ _ _ _ us hl => match us, hl with | [_, _], _ => rfl, ?_, (fun j hj => absurd hj (Nat.not_lt_zero j)), c_l_well⟩
  intro q hq
  cases hq
theorem g_l_dip (X : K.In h) (G : h.Ns mainGlobals mg) {f : Addr} {od an : Option Addr} {sl : Array (Option Value)} {oc kV dc pm cd ct : Value} (a1 : PySem.W.nsIn K mainGlobals "_law_dip" = some (some (.ref f))) (a2 : K.lookup f = some ⟨oc, od, .func (PySem.W.fnOf "_law_dip" "_law_dip" (defArgs (top 19)) (defBody (top 19)) (defScope (top 19)) .none kV dc pm an cd ct), sl⟩) (a3 : PySem.W.codeIn K cd "_law_dip" = true) (a4 : PySem.W.keepIn K (.ref f) = true) : FnS TT K mg f_l_dip := by
  have F := fun_mk (st := top 19) a2 a3 a4
  refine ⟨f, _, "_law_dip", top 19, PySem.W.mg_of X G a1, .of F, s_l_dip, F.binds (ps := ["_law_well_here", "_law_top"]) fun _ _ _ _ _ _ us hl => match us, hl with | [_, _], _ => rfl, ?_, (fun j hj => absurd hj (Nat.not_lt_zero j)), c_l_dip⟩
  intro q hq
  cases hq
theorem g_l_of (X : K.In h) (G : h.Ns mainGlobals mg) {f : Addr} {od an : Option Addr} {sl : Array (Option Value)} {oc kV dc pm cd ct : Value} (a1 : PySem.W.nsIn K mainGlobals "_law_of" = some (some (.ref f))) (a2 : K.lookup f = some ⟨oc, od, .func (PySem.W.fnOf "_law_of" "_law_of" (defArgs (top 20)) (defBody (top 20)) (defScope (top 20)) .none kV dc pm an cd ct), sl⟩) (a3 : PySem.W.codeIn K cd "_law_of" = true) (a4 : PySem.W.keepIn K (.ref f) = true) : FnS TT K mg f_l_of := by
  have F := fun_mk (st := top 20) a2 a3 a4
  refine ⟨f, _, "_law_of", top 20, PySem.W.mg_of X G a1, .of F, s_l_of, F.binds (ps := ["_law_well_here", "_law_some"]) fun _ _ _ _ _ _ us hl => match us, hl with | [_, _], _ => rfl, ?_, (fun j hj => absurd hj (Nat.not_lt_zero j)), c_l_of⟩
  intro q hq
  cases hq
theorem g_l_rows (X : K.In h) (G : h.Ns mainGlobals mg) {f : Addr} {od an : Option Addr} {sl : Array (Option Value)} {oc kV dc pm cd ct : Value} (a1 : PySem.W.nsIn K mainGlobals "_law_rows" = some (some (.ref f))) (a2 : K.lookup f = some ⟨oc, od, .func (PySem.W.fnOf "_law_rows" "_law_rows" (defArgs (top 21)) (defBody (top 21)) (defScope (top 21)) .none kV dc pm an cd ct), sl⟩) (a3 : PySem.W.codeIn K cd "_law_rows" = true) (a4 : PySem.W.keepIn K (.ref f) = true) : FnS TT K mg f_l_rows := by
  have F := fun_mk (st := top 21) a2 a3 a4
  refine ⟨f, _, "_law_rows", top 21, PySem.W.mg_of X G a1, .of F, s_l_rows, F.binds (ps := ["_law_number", "_law_most"]) fun _ _ _ _ _ _ us hl => match us, hl with | [_, _], _ => rfl, ?_, (fun j hj => absurd hj (Nat.not_lt_zero j)), c_l_rows⟩
  intro q hq
  cases hq
theorem g_l_square (X : K.In h) (G : h.Ns mainGlobals mg) {f : Addr} {od an : Option Addr} {sl : Array (Option Value)} {oc kV dc pm cd ct : Value} (a1 : PySem.W.nsIn K mainGlobals "_law_square" = some (some (.ref f))) (a2 : K.lookup f = some ⟨oc, od, .func (PySem.W.fnOf "_law_square" "_law_square" (defArgs (top 22)) (defBody (top 22)) (defScope (top 22)) .none kV dc pm an cd ct), sl⟩) (a3 : PySem.W.codeIn K cd "_law_square" = true) (a4 : PySem.W.keepIn K (.ref f) = true) : FnS TT K mg f_l_square := by
  have F := fun_mk (st := top 22) a2 a3 a4
  refine ⟨f, _, "_law_square", top 22, PySem.W.mg_of X G a1, .of F, s_l_square, F.binds (ps := ["_law_row"]) fun _ _ _ _ _ _ us hl => match us, hl with | [_], _ => rfl, ?_, (fun j hj => absurd hj (Nat.not_lt_zero j)), c_l_square⟩
  intro q hq
  cases hq
theorem g_l_lengths (X : K.In h) (G : h.Ns mainGlobals mg) {f : Addr} {od an : Option Addr} {sl : Array (Option Value)} {oc kV dc pm cd ct : Value} (a1 : PySem.W.nsIn K mainGlobals "_law_lengths" = some (some (.ref f))) (a2 : K.lookup f = some ⟨oc, od, .func (PySem.W.fnOf "_law_lengths" "_law_lengths" (defArgs (top 23)) (defBody (top 23)) (defScope (top 23)) .none kV dc pm an cd ct), sl⟩) (a3 : PySem.W.codeIn K cd "_law_lengths" = true) (a4 : PySem.W.keepIn K (.ref f) = true) : FnS TT K mg f_l_lengths := by
  have F := fun_mk (st := top 23) a2 a3 a4
  refine ⟨f, _, "_law_lengths", top 23, PySem.W.mg_of X G a1, .of F, s_l_lengths, F.binds (ps := ["_law_number"]) fun _ _ _ _ _ _ us hl => match us, hl with | [_], _ => rfl, ?_, (fun j hj => absurd hj (Nat.not_lt_zero j)), c_l_lengths⟩
  intro q hq
  cases hq
theorem g_l_reach (X : K.In h) (G : h.Ns mainGlobals mg) {f : Addr} {od an : Option Addr} {sl : Array (Option Value)} {oc kV dc pm cd ct : Value} (a1 : PySem.W.nsIn K mainGlobals "_law_reach" = some (some (.ref f))) (a2 : K.lookup f = some ⟨oc, od, .func (PySem.W.fnOf "_law_reach" "_law_reach" (defArgs (top 24)) (defBody (top 24)) (defScope (top 24)) .none kV dc pm an cd ct), sl⟩) (a3 : PySem.W.codeIn K cd "_law_reach" = true) (a4 : PySem.W.keepIn K (.ref f) = true) : FnS TT K mg f_l_reach := by
  have F := fun_mk (st := top 24) a2 a3 a4
  refine ⟨f, _, "_law_reach", top 24, PySem.W.mg_of X G a1, .of F, s_l_reach, F.binds (ps := ["_law_table", "_law_number", "_law_side"]) fun _ _ _ _ _ _ us hl => match us, hl with | [_, _, _], _ => rfl, ?_, (fun j hj => absurd hj (Nat.not_lt_zero j)), c_l_reach⟩
  intro q hq
  cases hq
theorem g_l_small (X : K.In h) (G : h.Ns mainGlobals mg) {f : Addr} {od an : Option Addr} {sl : Array (Option Value)} {oc kV dc pm cd ct : Value} (a1 : PySem.W.nsIn K mainGlobals "_law_small" = some (some (.ref f))) (a2 : K.lookup f = some ⟨oc, od, .func (PySem.W.fnOf "_law_small" "_law_small" (defArgs (top 25)) (defBody (top 25)) (defScope (top 25)) .none kV dc pm an cd ct), sl⟩) (a3 : PySem.W.codeIn K cd "_law_small" = true) (a4 : PySem.W.keepIn K (.ref f) = true) : FnS TT K mg f_l_small := by
  have F := fun_mk (st := top 25) a2 a3 a4
  refine ⟨f, _, "_law_small", top 25, PySem.W.mg_of X G a1, .of F, s_l_small, F.binds (ps := ["_law_every"]) fun _ _ _ _ _ _ us hl => match us, hl with | [_], _ => rfl, ?_, (fun j hj => absurd hj (Nat.not_lt_zero j)), c_l_small⟩
  intro q hq
  cases hq
theorem g_l_right (X : K.In h) (G : h.Ns mainGlobals mg) {f : Addr} {od an : Option Addr} {sl : Array (Option Value)} {oc kV dc pm cd ct : Value} (a1 : PySem.W.nsIn K mainGlobals "_law_right" = some (some (.ref f))) (a2 : K.lookup f = some ⟨oc, od, .func (PySem.W.fnOf "_law_right" "_law_right" (defArgs (top 26)) (defBody (top 26)) (defScope (top 26)) .none kV dc pm an cd ct), sl⟩) (a3 : PySem.W.codeIn K cd "_law_right" = true) (a4 : PySem.W.keepIn K (.ref f) = true) : FnS TT K mg f_l_right := by
  have F := fun_mk (st := top 26) a2 a3 a4
  refine ⟨f, _, "_law_right", top 26, PySem.W.mg_of X G a1, .of F, s_l_right, F.binds (ps := ["_law_well_here"]) fun _ _ _ _ _ _ us hl => match us, hl with | [_], _ => rfl, ?_, (fun j hj => absurd hj (Nat.not_lt_zero j)), c_l_right⟩
  intro q hq
  cases hq
theorem g_p_law (X : K.In h) (G : h.Ns mainGlobals mg) {f : Addr} {od an : Option Addr} {sl : Array (Option Value)} {oc kV dc pm cd ct : Value} (a1 : PySem.W.nsIn K mainGlobals "law" = some (some (.ref f))) (a2 : K.lookup f = some ⟨oc, od, .func (PySem.W.fnOf "law" "law" (defArgs (top 27)) (defBody (top 27)) (defScope (top 27)) .none kV dc pm an cd ct), sl⟩) (a3 : PySem.W.codeIn K cd "law" = true) (a4 : PySem.W.keepIn K (.ref f) = true) : FnS TT K mg f_p_law := by
  have F := fun_mk (st := top 27) a2 a3 a4
  refine ⟨f, _, "law", top 27, PySem.W.mg_of X G a1, .of F, s_p_law, F.binds (ps := ["_law_script"]) fun _ _ _ _ _ _ us hl => match us, hl with | [_], _ => rfl, ?_, (fun j hj => absurd hj (Nat.not_lt_zero j)), c_p_law⟩
  intro q hq
  cases hq
end
theorem all_mk {P : Program} {w : World} {K : PySem.W.Frag} {h : Heap} {mg : Str → Option Value} {fa : Addr} (X : K.In h) (G : h.Ns mainGlobals mg) (hfa : mg "law" = some (.ref fa))
    {f0 : Addr} {od0 an0 : Option Addr} {sl0 : Array (Option Value)} {oc0 kV0 dc0 pm0 cd0 ct0 : Value}
    (a0 : PySem.W.nsIn K mainGlobals "is_integer" = some (some (.ref f0))) (l0 : K.lookup f0 = some ⟨oc0, od0, .func (PySem.W.fnOf "is_integer" "is_integer" (defArgs (top 6)) (defBody (top 6)) (defScope (top 6)) .none kV0 dc0 pm0 an0 cd0 ct0), sl0⟩) (c0 : PySem.W.codeIn K cd0 "is_integer" = true) (k0 : PySem.W.keepIn K (.ref f0) = true)
    {f1 : Addr} {od1 an1 : Option Addr} {sl1 : Array (Option Value)} {oc1 kV1 dc1 pm1 cd1 ct1 : Value}
    (a1 : PySem.W.nsIn K mainGlobals "is_from_to" = some (some (.ref f1))) (l1 : K.lookup f1 = some ⟨oc1, od1, .func (PySem.W.fnOf "is_from_to" "is_from_to" (defArgs (top 7)) (defBody (top 7)) (defScope (top 7)) .none kV1 dc1 pm1 an1 cd1 ct1), sl1⟩) (c1 : PySem.W.codeIn K cd1 "is_from_to" = true) (k1 : PySem.W.keepIn K (.ref f1) = true)
    {f2 : Addr} {od2 an2 : Option Addr} {sl2 : Array (Option Value)} {oc2 kV2 dc2 pm2 cd2 ct2 : Value}
    (a2 : PySem.W.nsIn K mainGlobals "need_from_to" = some (some (.ref f2))) (l2 : K.lookup f2 = some ⟨oc2, od2, .func (PySem.W.fnOf "need_from_to" "need_from_to" (defArgs (top 8)) (defBody (top 8)) (defScope (top 8)) .none kV2 dc2 pm2 an2 cd2 ct2), sl2⟩) (c2 : PySem.W.codeIn K cd2 "need_from_to" = true) (k2 : PySem.W.keepIn K (.ref f2) = true)
    {f3 : Addr} {od3 an3 : Option Addr} {sl3 : Array (Option Value)} {oc3 kV3 dc3 pm3 cd3 ct3 : Value}
    {T3 : Addr} {oT3 : Option Addr} {its3 : Array Value} {nT3 : Nat} {slT3 : Array (Option Value)} {ocT3 : Value}
    (a3 : PySem.W.nsIn K mainGlobals "need_number" = some (some (.ref f3))) (l3 : K.lookup f3 = some ⟨oc3, od3, .func (PySem.W.fnOf "need_number" "need_number" (defArgs (top 9)) (defBody (top 9)) (defScope (top 9)) (.ref T3) kV3 dc3 pm3 an3 cd3 ct3), sl3⟩) (c3 : PySem.W.codeIn K cd3 "need_number" = true) (k3 : PySem.W.keepIn K (.ref f3) = true)
    (t3 : K.lookup T3 = some ⟨ocT3, oT3, .seq its3 nT3, slT3⟩) (v3 : Vals [(.int 400)] its3.toList)
    {f4 : Addr} {od4 an4 : Option Addr} {sl4 : Array (Option Value)} {oc4 kV4 dc4 pm4 cd4 ct4 : Value}
    (a4 : PySem.W.nsIn K mainGlobals "one_alone" = some (some (.ref f4))) (l4 : K.lookup f4 = some ⟨oc4, od4, .func (PySem.W.fnOf "one_alone" "one_alone" (defArgs (top 11)) (defBody (top 11)) (defScope (top 11)) .none kV4 dc4 pm4 an4 cd4 ct4), sl4⟩) (c4 : PySem.W.codeIn K cd4 "one_alone" = true) (k4 : PySem.W.keepIn K (.ref f4) = true)
    {f5 : Addr} {od5 an5 : Option Addr} {sl5 : Array (Option Value)} {oc5 kV5 dc5 pm5 cd5 ct5 : Value}
    (a5 : PySem.W.nsIn K mainGlobals "with_size" = some (some (.ref f5))) (l5 : K.lookup f5 = some ⟨oc5, od5, .func (PySem.W.fnOf "with_size" "with_size" (defArgs (top 12)) (defBody (top 12)) (defScope (top 12)) .none kV5 dc5 pm5 an5 cd5 ct5), sl5⟩) (c5 : PySem.W.codeIn K cd5 "with_size" = true) (k5 : PySem.W.keepIn K (.ref f5) = true)
    {f6 : Addr} {od6 an6 : Option Addr} {sl6 : Array (Option Value)} {oc6 kV6 dc6 pm6 cd6 ct6 : Value}
    (a6 : PySem.W.nsIn K mainGlobals "rows_up_to" = some (some (.ref f6))) (l6 : K.lookup f6 = some ⟨oc6, od6, .func (PySem.W.fnOf "rows_up_to" "rows_up_to" (defArgs (top 13)) (defBody (top 13)) (defScope (top 13)) .none kV6 dc6 pm6 an6 cd6 ct6), sl6⟩) (c6 : PySem.W.codeIn K cd6 "rows_up_to" = true) (k6 : PySem.W.keepIn K (.ref f6) = true)
    {f7 : Addr} {od7 an7 : Option Addr} {sl7 : Array (Option Value)} {oc7 kV7 dc7 pm7 cd7 ct7 : Value}
    (a7 : PySem.W.nsIn K mainGlobals "length_counts" = some (some (.ref f7))) (l7 : K.lookup f7 = some ⟨oc7, od7, .func (PySem.W.fnOf "length_counts" "length_counts" (defArgs (top 15)) (defBody (top 15)) (defScope (top 15)) .none kV7 dc7 pm7 an7 cd7 ct7), sl7⟩) (c7 : PySem.W.codeIn K cd7 "length_counts" = true) (k7 : PySem.W.keepIn K (.ref f7) = true)
    {f8 : Addr} {od8 an8 : Option Addr} {sl8 : Array (Option Value)} {oc8 kV8 dc8 pm8 cd8 ct8 : Value}
    (a8 : PySem.W.nsIn K mainGlobals "square_counts" = some (some (.ref f8))) (l8 : K.lookup f8 = some ⟨oc8, od8, .func (PySem.W.fnOf "square_counts" "square_counts" (defArgs (top 16)) (defBody (top 16)) (defScope (top 16)) .none kV8 dc8 pm8 an8 cd8 ct8), sl8⟩) (c8 : PySem.W.codeIn K cd8 "square_counts" = true) (k8 : PySem.W.keepIn K (.ref f8) = true)
    {f9 : Addr} {od9 an9 : Option Addr} {sl9 : Array (Option Value)} {oc9 kV9 dc9 pm9 cd9 ct9 : Value}
    (a9 : PySem.W.nsIn K mainGlobals "_law_well" = some (some (.ref f9))) (l9 : K.lookup f9 = some ⟨oc9, od9, .func (PySem.W.fnOf "_law_well" "_law_well" (defArgs (top 18)) (defBody (top 18)) (defScope (top 18)) .none kV9 dc9 pm9 an9 cd9 ct9), sl9⟩) (c9 : PySem.W.codeIn K cd9 "_law_well" = true) (k9 : PySem.W.keepIn K (.ref f9) = true)
    {f10 : Addr} {od10 an10 : Option Addr} {sl10 : Array (Option Value)} {oc10 kV10 dc10 pm10 cd10 ct10 : Value}
    (a10 : PySem.W.nsIn K mainGlobals "_law_dip" = some (some (.ref f10))) (l10 : K.lookup f10 = some ⟨oc10, od10, .func (PySem.W.fnOf "_law_dip" "_law_dip" (defArgs (top 19)) (defBody (top 19)) (defScope (top 19)) .none kV10 dc10 pm10 an10 cd10 ct10), sl10⟩) (c10 : PySem.W.codeIn K cd10 "_law_dip" = true) (k10 : PySem.W.keepIn K (.ref f10) = true)
    {f11 : Addr} {od11 an11 : Option Addr} {sl11 : Array (Option Value)} {oc11 kV11 dc11 pm11 cd11 ct11 : Value}
    (a11 : PySem.W.nsIn K mainGlobals "_law_of" = some (some (.ref f11))) (l11 : K.lookup f11 = some ⟨oc11, od11, .func (PySem.W.fnOf "_law_of" "_law_of" (defArgs (top 20)) (defBody (top 20)) (defScope (top 20)) .none kV11 dc11 pm11 an11 cd11 ct11), sl11⟩) (c11 : PySem.W.codeIn K cd11 "_law_of" = true) (k11 : PySem.W.keepIn K (.ref f11) = true)
    {f12 : Addr} {od12 an12 : Option Addr} {sl12 : Array (Option Value)} {oc12 kV12 dc12 pm12 cd12 ct12 : Value}
    (a12 : PySem.W.nsIn K mainGlobals "_law_rows" = some (some (.ref f12))) (l12 : K.lookup f12 = some ⟨oc12, od12, .func (PySem.W.fnOf "_law_rows" "_law_rows" (defArgs (top 21)) (defBody (top 21)) (defScope (top 21)) .none kV12 dc12 pm12 an12 cd12 ct12), sl12⟩) (c12 : PySem.W.codeIn K cd12 "_law_rows" = true) (k12 : PySem.W.keepIn K (.ref f12) = true)
    {f13 : Addr} {od13 an13 : Option Addr} {sl13 : Array (Option Value)} {oc13 kV13 dc13 pm13 cd13 ct13 : Value}
    (a13 : PySem.W.nsIn K mainGlobals "_law_square" = some (some (.ref f13))) (l13 : K.lookup f13 = some ⟨oc13, od13, .func (PySem.W.fnOf "_law_square" "_law_square" (defArgs (top 22)) (defBody (top 22)) (defScope (top 22)) .none kV13 dc13 pm13 an13 cd13 ct13), sl13⟩) (c13 : PySem.W.codeIn K cd13 "_law_square" = true) (k13 : PySem.W.keepIn K (.ref f13) = true)
    {f14 : Addr} {od14 an14 : Option Addr} {sl14 : Array (Option Value)} {oc14 kV14 dc14 pm14 cd14 ct14 : Value}
    (a14 : PySem.W.nsIn K mainGlobals "_law_lengths" = some (some (.ref f14))) (l14 : K.lookup f14 = some ⟨oc14, od14, .func (PySem.W.fnOf "_law_lengths" "_law_lengths" (defArgs (top 23)) (defBody (top 23)) (defScope (top 23)) .none kV14 dc14 pm14 an14 cd14 ct14), sl14⟩) (c14 : PySem.W.codeIn K cd14 "_law_lengths" = true) (k14 : PySem.W.keepIn K (.ref f14) = true)
    {f15 : Addr} {od15 an15 : Option Addr} {sl15 : Array (Option Value)} {oc15 kV15 dc15 pm15 cd15 ct15 : Value}
    (a15 : PySem.W.nsIn K mainGlobals "_law_reach" = some (some (.ref f15))) (l15 : K.lookup f15 = some ⟨oc15, od15, .func (PySem.W.fnOf "_law_reach" "_law_reach" (defArgs (top 24)) (defBody (top 24)) (defScope (top 24)) .none kV15 dc15 pm15 an15 cd15 ct15), sl15⟩) (c15 : PySem.W.codeIn K cd15 "_law_reach" = true) (k15 : PySem.W.keepIn K (.ref f15) = true)
    {f16 : Addr} {od16 an16 : Option Addr} {sl16 : Array (Option Value)} {oc16 kV16 dc16 pm16 cd16 ct16 : Value}
    (a16 : PySem.W.nsIn K mainGlobals "_law_small" = some (some (.ref f16))) (l16 : K.lookup f16 = some ⟨oc16, od16, .func (PySem.W.fnOf "_law_small" "_law_small" (defArgs (top 25)) (defBody (top 25)) (defScope (top 25)) .none kV16 dc16 pm16 an16 cd16 ct16), sl16⟩) (c16 : PySem.W.codeIn K cd16 "_law_small" = true) (k16 : PySem.W.keepIn K (.ref f16) = true)
    {f17 : Addr} {od17 an17 : Option Addr} {sl17 : Array (Option Value)} {oc17 kV17 dc17 pm17 cd17 ct17 : Value}
    (a17 : PySem.W.nsIn K mainGlobals "_law_right" = some (some (.ref f17))) (l17 : K.lookup f17 = some ⟨oc17, od17, .func (PySem.W.fnOf "_law_right" "_law_right" (defArgs (top 26)) (defBody (top 26)) (defScope (top 26)) .none kV17 dc17 pm17 an17 cd17 ct17), sl17⟩) (c17 : PySem.W.codeIn K cd17 "_law_right" = true) (k17 : PySem.W.keepIn K (.ref f17) = true)
    {f18 : Addr} {od18 an18 : Option Addr} {sl18 : Array (Option Value)} {oc18 kV18 dc18 pm18 cd18 ct18 : Value}
    (a18 : PySem.W.nsIn K mainGlobals "law" = some (some (.ref f18))) (l18 : K.lookup f18 = some ⟨oc18, od18, .func (PySem.W.fnOf "law" "law" (defArgs (top 27)) (defBody (top 27)) (defScope (top 27)) .none kV18 dc18 pm18 an18 cd18 ct18), sl18⟩) (c18 : PySem.W.codeIn K cd18 "law" = true) (k18 : PySem.W.keepIn K (.ref f18) = true)
    (z0 : PySem.W.nsIn K mainGlobals "abs" = some none)
    (z1 : PySem.W.nsIn K mainGlobals "all" = some none)
    (z2 : PySem.W.nsIn K mainGlobals "bool" = some none)
    (z3 : PySem.W.nsIn K mainGlobals "divmod" = some none)
    (z4 : PySem.W.nsIn K mainGlobals "int" = some none)
    (z5 : PySem.W.nsIn K mainGlobals "isinstance" = some none)
    (z6 : PySem.W.nsIn K mainGlobals "len" = some none)
    (z7 : PySem.W.nsIn K mainGlobals "list" = some none)
    (z8 : PySem.W.nsIn K mainGlobals "max" = some none)
    (z9 : PySem.W.nsIn K mainGlobals "min" = some none)
    (z10 : PySem.W.nsIn K mainGlobals "range" = some none)
    (z11 : PySem.W.nsIn K mainGlobals "repr" = some none)
    (z12 : PySem.W.nsIn K mainGlobals "sum" = some none)
    (z13 : PySem.W.nsIn K mainGlobals "tuple" = some none)
    (y0 : PySem.W.nsIn K mainGlobals "isqrt" = some (some (.builtin "math.isqrt"))) (kk : Nat) :
    ∀ base : Heap, K.In base → base.Ns mainGlobals mg → ∃ fd : FuncData, Binds K fd ["_law_script"] [] ∧ FnG P w K mg base kk fa fd ["_law_script"] (gam Fs kk "law") := by
  have hS : ∀ F ∈ Fs, FnS TT K mg F := by
    intro F hF
    simp only [Fs, List.mem_cons, List.not_mem_nil, or_false] at hF
    rcases hF with rfl | rfl | rfl | rfl | rfl | rfl | rfl | rfl | rfl | rfl | rfl | rfl | rfl | rfl | rfl | rfl | rfl | rfl | rfl
    · exact g_p_is_integer X G a0 l0 c0 k0
    · exact g_p_is_from_to X G a1 l1 c1 k1
    · exact g_p_need_from_to X G a2 l2 c2 k2
    · exact g_p_need_number X G t3 v3 a3 l3 c3 k3
    · exact g_p_one_alone X G a4 l4 c4 k4
    · exact g_p_with_size X G a5 l5 c5 k5
    · exact g_p_rows_up_to X G a6 l6 c6 k6
    · exact g_p_length_counts X G a7 l7 c7 k7
    · exact g_p_square_counts X G a8 l8 c8 k8
    · exact g_l_well X G a9 l9 c9 k9
    · exact g_l_dip X G a10 l10 c10 k10
    · exact g_l_of X G a11 l11 c11 k11
    · exact g_l_rows X G a12 l12 c12 k12
    · exact g_l_square X G a13 l13 c13 k13
    · exact g_l_lengths X G a14 l14 c14 k14
    · exact g_l_reach X G a15 l15 c15 k15
    · exact g_l_small X G a16 l16 c16 k16
    · exact g_l_right X G a17 l17 c17 k17
    · exact g_p_law X G a18 l18 c18 k18
  have hb : ∀ x ∈ blts, mg x = none := by
    intro x hx
    simp only [blts, List.mem_cons, List.not_mem_nil, or_false] at hx
    rcases hx with rfl | rfl | rfl | rfl | rfl | rfl | rfl | rfl | rfl | rfl | rfl | rfl | rfl | rfl
    · exact PySem.W.mg_none_of X G z0
    · exact PySem.W.mg_none_of X G z1
    · exact PySem.W.mg_none_of X G z2
    · exact PySem.W.mg_none_of X G z3
    · exact PySem.W.mg_none_of X G z4
    · exact PySem.W.mg_none_of X G z5
    · exact PySem.W.mg_none_of X G z6
    · exact PySem.W.mg_none_of X G z7
    · exact PySem.W.mg_none_of X G z8
    · exact PySem.W.mg_none_of X G z9
    · exact PySem.W.mg_none_of X G z10
    · exact PySem.W.mg_none_of X G z11
    · exact PySem.W.mg_none_of X G z12
    · exact PySem.W.mg_none_of X G z13
  have hc : ∀ q ∈ cons, ∃ u, mg q.1 = some u ∧ RelV q.2 u := by
    intro x hx
    cases hx
  have hm : ∀ q ∈ mths, mg q.1 = some (.builtin q.2.id) := by
    intro x hx
    simp only [mths, List.mem_cons, List.not_mem_nil, or_false] at hx
    subst hx
    · exact PySem.W.mg_of X G y0
  intro base hb1 hb2
  obtain ⟨f, fd, q1, q2, q3, q4, q6, q5⟩ := (all_ok (P := P) (w := w) (base := base) nodup hS hb hc hm kk).fn f_p_law.ft (List.mem_map.mpr ⟨f_p_law, by simp [Fs], rfl⟩)
  have e2 := hfa.symm.trans q1
  cases e2
  exact ⟨fd, q3, q5⟩
end MP.K

set_option Elab.async false
set_option linter.all false
set_option maxRecDepth 100000
namespace MP.K
open PySem L2 MP
local macro_rules | `(tactic| walk_at "mp") => `(tactic| try simp only [d_var, d_litI, d_litB, d_conI, d_bin, d_neg, d_cmp, d_chain, chK_bl, d_and, d_or, d_not, d_ite, d_call, d_callk, d_calld, d_mth, d_blt, d_isi, d_meth, d_comp, lcK_loc, t_nil, t_one, d_tup, d_lst, d_idx, d_rev, d_slc, d_nil, d_cons, p_nil, p_one, i_seq, i_rng, s_set, s_setP, s_setS, s_setST, s_augS, s_expr, s_ret, s_ite, s_for, s_raise, s_pass, b_addI, b_subI, i_addI, i_subI, n_I, c_lt, c_le, c_gt, c_ge, c_eqI, c_neI, bl_int, bl_abs, isi_int, wp_bind, wp_ret, wp_fail, wp_opt_some, wp_when, wp_ite, wp_truthB, wp_truthI, wp_newO, wp_seq, wp_nil, sq_next, sq_ret, sq_cont, sq_brk, rq_ret, rq_next, gs_0, gs_s, io_I, ln_nil, ln_cons, we_nil, we_cons, put_1, pa_nil, pa_cons, List.set_cons_succ, List.set_cons_zero, List.length_cons, List.length_nil, List.map_cons, List.map_nil, List.replicate_succ, List.replicate_zero, List.cons_append, List.nil_append, Nat.zero_add, Nat.reduceAdd, Nat.reduceSub, decide_true, eq_self, sz_0, sz_1, sz_2, sz_3, if_true, if_false, true_and, Bool.not_true, Bool.not_false, Bool.false_eq_true, reduceIte])
theorem is_integer (k : Nat) (st : Store) (i : Int) {Q} (q : Q (.v (.bl true)) st) : Wp (gam Fs (k + 1) "is_integer" [.v (.int i)]) st Q := by
  refine wp_fn nodup (F := f_p_is_integer) (by simp [Fs]) rfl ?_
  show Wp (b_p_is_integer.den _ (startE _ _)) _ _
  unfold b_p_is_integer f_p_is_integer
  rw [st_eq]
  walk_at "mp"
  exact q
theorem is_from_to (k : Nat) (st : Store) (i a b : Int) (ha : a ≤ i) (hb : i ≤ b) {Q} (q : Q (.v (.bl true)) st) : Wp (gam Fs (k + 2) "is_from_to" [.v (.int i), .v (.int a), .v (.int b)]) st Q := by
  refine wp_fn nodup (F := f_p_is_from_to) (by simp [Fs]) rfl ?_
  show Wp (b_p_is_from_to.den _ (startE _ _)) _ _
  unfold b_p_is_from_to f_p_is_from_to
  rw [st_eq]
  walk_at "mp"
  refine is_integer k st i ?_
  walk_at "mp"
  rw [decide_eq_true ha, decide_eq_true hb]
  walk_at "mp"
  exact q
theorem need_from_to (k : Nat) (st : Store) (i a b : Int) (ha : a ≤ i) (hb : i ≤ b) {Q} (q : Q (.v .non) st) : Wp (gam Fs (k + 3) "need_from_to" [.v (.int i), .v (.int a), .v (.int b)]) st Q := by
  refine wp_fn nodup (F := f_p_need_from_to) (by simp [Fs]) rfl ?_
  show Wp (b_p_need_from_to.den _ (startE _ _)) _ _
  unfold b_p_need_from_to f_p_need_from_to
  rw [st_eq]
  walk_at "mp"
  refine is_from_to k st i a b ha hb ?_
  walk_at "mp"
  exact q
/-- a new list of ints -/
def NewL (st : Store) (r : List Int) (Q : D → Store → Prop) : Prop := ∀ n st', Ext st st' → st.length ≤ n → st'[n]? = some (.lst (il r)) → Q (.loc n) st'
theorem one_alone (k : Nat) (st : Store) (m : Nat) (hm : m ≤ 1000) {Q} (q : NewL st (1 :: List.replicate m 0) Q) : Wp (gam Fs (k + 1) "one_alone" [.v (.int m)]) st Q := by
  refine wp_fn nodup (F := f_p_one_alone) (by simp [Fs]) rfl ?_
  show Wp (b_p_one_alone.den _ (startE _ _)) _ _
  unfold b_p_one_alone f_p_one_alone
  rw [st_eq]
  walk_at "mp"
  rw [wp_mulL (get_push _ _) (by omega) (by omega), wp_addL (push_old (push_old (get_push _ _))) (get_push _ _) (by simp only [List.length_cons, List.length_nil, List.length_replicate]; omega)]
  refine q _ _ (((Ext.push _ _).trans (Ext.push _ _)).trans ((Ext.push _ _).trans (Ext.push _ _))) (by simp only [List.length_append]; omega) ?_
  rw [get_push]
  simp only [il, List.map_cons, List.map_replicate, Int.toNat_natCast, List.cons_append, List.nil_append]
theorem with_size (k : Nat) (st : Store) (n s : Nat) (xs : List Int) (hx : xs.length ≤ 1000) (hs : s ≤ 1000) (h : st[n]? = some (.lst (il xs))) {Q} (q : NewL st (BX.wsz xs s (xs.length - s)) Q) : Wp (gam Fs (k + 1) "with_size" [.loc n, .v (.int s)]) st Q := by
  refine wp_fn nodup (F := f_p_with_size) (by simp [Fs]) rfl ?_
  show Wp (b_p_with_size.den _ (startE _ _)) _ _
  unfold b_p_with_size f_p_with_size
  rw [st_eq]
  walk_at "mp"
  rw [wp_listL h]
  rw [wp_lenL (get_push _ _)]
  rw [wp_rng2 (by omega) (by omega) (by omega) (by omega)]
  refine wp_for (xs.length - s) (fun i env s' => ∃ x, env = [some (.loc n), some (.v (.int s)), some (.loc st.length), x] ∧ Ext st s' ∧ s'[st.length]? = some (.lst (il (BX.wsz xs s i)))) ⟨_, rfl, Ext.push _ _, get_push _ _⟩ (turns_ok (by omega)) ?_ ?_
  · rintro i env s' hi ⟨x, rfl, e1, e2⟩
    refine ⟨_, at_rng (by omega), ?_⟩
    walk_at "mp"
    have hl : (BX.wsz xs s i).length = xs.length := BX.acc_len _ _ _ _
    rw [wp_idxL e2 (j := s + i) (by omega) (by omega)]
    rw [wp_idxL e2 (j := i) (by omega) (by omega)]
    walk_at "mp"
    rw [wp_setL e2 (j := s + i) (by omega) (by omega)]
    exact ⟨_, rfl, e1.set (Nat.le_refl _), get_set e2⟩
  · rintro env s' ⟨x, rfl, e1, e2⟩
    refine ⟨by rw [show ((xs.length : Int) - s).toNat = xs.length - s by omega]; exact rng_end, ?_⟩
    walk_at "mp"
    exact q _ _ e1 (Nat.le_refl _) e2
/-- what is drawn from -/
def Well (w : Nat) (s : Store) : Prop := ∃ a m c : Int, s[w]? = some (.lst (il [a, m, c])) ∧ 0 ≤ a ∧ 0 ≤ m
theorem dip (k : Nat) (st : Store) (w t : Nat) (ht : 0 < t) (ht' : t ≤ 1000000) (h : Well w st) {Q} (q : ∀ (d : Nat) st', d < t → Well w st' → ExtB w st st' → Q (.v (.int d)) st') : Wp (gam Fs (k + 1) "_law_dip" [.loc w, .v (.int t)]) st Q := by
  refine wp_fn nodup (F := f_l_dip) (by simp [Fs]) rfl ?_
  show Wp (b_l_dip.den _ (startE _ _)) _ _
  unfold b_l_dip f_l_dip
  rw [st_eq]
  walk_at "mp"
  obtain ⟨a, m, c, hw, ha, hm⟩ := h
  rw [wp_i0 hw]
  walk_at "mp"
  by_cases hp : 0 < a
  · refine ite_t (decide_eq_true hp) ?_
    rw [wp_i0 hw, bl_divmod, decide_eq_true (show (0 : Int) < t by omega), decide_eq_true (show (t : Int) < 1073741824 by omega)]
    walk_at "mp"
    rw [wp_opt (show pairOf (D.tup [.v (.int (a / (t : Int))), .v (.int (a % (t : Int)))]) = some (.v (.int (a / (t : Int))), .v (.int (a % (t : Int)))) from rfl)]
    walk_at "mp"
    rw [wp_s0 hw]
    walk_at "mp"
    have h1 : 0 ≤ a % (t : Int) := Int.emod_nonneg _ (by omega)
    have h2 : a % (t : Int) < t := Int.emod_lt_of_pos _ (by omega)
    rw [show a % (t : Int) = (((a % (t : Int)).toNat : Nat) : Int) by omega]
    exact q _ _ (by omega) ⟨_, _, _, get_set hw, Int.ediv_nonneg ha (by omega), hm⟩ (ExtB.refl _ _).set
  · refine ite_f (decide_eq_false hp) ?_
    rw [wp_i2 hw]
    walk_at "mp"
    rw [wp_s2 hw]
    have hw1 := get_set (o := .lst (il [a, m, c + 1])) hw
    rw [wp_i1 hw1, wp_mulJ (by omega) (by omega), wp_i2 hw1, wp_mulI (by omega) (by omega)]
    walk_at "mp"
    rw [wp_modI (by omega), wp_s1 hw1]
    have hw2 := get_set (o := .lst (il [a, (m * 39373 + 60013 * (c + 1) + 11) % 2147483629, c + 1])) hw1
    rw [wp_i1 hw2, wp_divI (by omega) (by omega)]
    walk_at "mp"
    rw [wp_modI (by omega)]
    have h0 : 0 ≤ (m * 39373 + 60013 * (c + 1) + 11) % 2147483629 := Int.emod_nonneg _ (by omega)
    generalize (m * 39373 + 60013 * (c + 1) + 11) % 2147483629 = m' at *
    have h1 : 0 ≤ m' / 127 % (t : Int) := Int.emod_nonneg _ (by omega)
    have h2 : m' / 127 % (t : Int) < t := Int.emod_lt_of_pos _ (by omega)
    rw [show m' / 127 % (t : Int) = (((m' / 127 % (t : Int)).toNat : Nat) : Int) by omega]
    exact q _ _ (by omega) ⟨_, _, _, hw2, ha, h0⟩ (ExtB.refl _ _).set.set
theorem well (k : Nat) (st : Store) (ns : List Int) (i : Nat) (hi : i ≤ 1000) {Q} (q : ∀ n st', Ext st st' → Well n st' → st.length ≤ n → Q (.loc n) st') : Wp (gam Fs (k + 1) "_law_well" [.rl (ns.map D.int), .v (.int i)]) st Q := by
  refine wp_fn nodup (F := f_l_well) (by simp [Fs]) rfl ?_
  show Wp (b_l_well.den _ (startE _ _)) _ _
  unfold b_l_well f_l_well
  rw [st_eq]
  refine wp_seq.mpr (Wp.mono (Q := fun r s => ∃ C : Int, r = (.next, [some (.rl (il ns)), some (.v (.int i)), some (.v (.int C)), none, none]) ∧ s = st) ?_ ?_)
  · walk_at "mp"
    rw [show List.map D.int ns = il ns from rfl, wp_lenR]
    walk_at "mp"
    by_cases h : i < ns.length
    · refine ite_t (decide_eq_true (by omega)) ?_
      rw [wp_idxR (j := i) rfl h]
      walk_at "mp"
      exact ⟨_, rfl, trivial⟩
    · refine ite_f (decide_eq_false (by omega)) ?_
      rw [wp_mulI (by omega) (by omega)]
      walk_at "mp"
      exact ⟨_, rfl, trivial⟩
  · rintro _ s1 ⟨C, rfl, hs⟩
    rw [hs]
    walk_at "mp"
    rw [wp_mulI (by omega) (by omega)]
    walk_at "mp"
    rw [wp_cutR, show (6 : Int) = ((6 : Nat) : Int) from rfl, cut_to, il_take, wp_srcL (get_push _ _)]
    generalize ht : il (ns.take 6) = ts
    refine wp_for ts.length (fun j env s' => ∃ M x, env = [some (.rl (il ns)), some (.v (.int i)), some (.v (.int C)), some (.v (.int M)), x] ∧ s' = st ++ [O.lst ts]) ⟨_, _, rfl, rfl⟩ (turns_ok ?_) ?_ ?_
    · rw [← ht, il_length, List.length_take]
      omega
    · rintro j env s' hj ⟨M, x, rfl, rfl⟩
      obtain ⟨y, hy⟩ : ∃ y, ts[j]? = some (D.v (.int y)) := by
        rw [← ht]
        exact ⟨_, il_get (by rw [← ht, il_length] at hj; exact hj)⟩
      refine ⟨_, at_loc (get_push _ _) hy, ?_⟩
      walk_at "mp"
      rw [wp_mulJ (by omega) (by omega), wp_modI (by omega)]
      walk_at "mp"
      rw [wp_modI (by omega)]
      exact ⟨_, _, rfl, rfl⟩
    · rintro env s' ⟨M, x, rfl, rfl⟩
      refine ⟨loc_end (get_push _ _) (Nat.le_refl _), ?_⟩
      walk_at "mp"
      rw [wp_mulJ (by omega) (by omega), wp_modI (by omega), wp_mulJ (by omega) (by omega)]
      walk_at "mp"
      rw [wp_modI (by omega)]
      generalize hm : (M * 59 + C % 2147480011 * 20011) % 2147483629 = m
      have h0 : 0 ≤ m := by rw [← hm]; exact Int.emod_nonneg _ (by omega)
      have hn : ∀ v : Int, 0 ≤ v → Q (.loc (st ++ [O.lst ts]).length) (st ++ [O.lst ts] ++ [O.lst [D.v (V.int v), D.v (V.int m), D.v (V.int 0)]]) := fun v hv => by
        refine q _ _ ((Ext.push _ _).trans (Ext.push _ _)) ⟨v, m, 0, get_push _ _, hv, h0⟩ ?_
        rw [List.length_append]
        omega
      by_cases hC : C < 0
      · refine ite_t (decide_eq_true hC) (ite_t (decide_eq_true hC) ?_)
        rw [if_pos hC]
        exact hn _ (by omega)
      · refine ite_f (decide_eq_false hC) ?_
        rw [wp_powI (by omega) (by omega) (by omega) (by omega)]
        walk_at "mp"
        rw [if_neg hC]
        split
        · exact hn _ (by omega)
        · exact hn _ (by omega)
theorem Well.ext {w : Nat} {s s' : Store} (h : Well w s) (e : Ext s s') : Well w s' := let ⟨a, m, c, h1, h2⟩ := h; ⟨a, m, c, e _ _ h1, h2⟩
theorem need_number (k : Nat) (st : Store) (n : Nat) (hn : n ≤ 400) {Q} (q : Q (.v .non) st) : Wp (gam Fs (k + 4) "need_number" [.v (.int n), .v (.int 400)]) st Q := by
  refine wp_fn nodup (F := f_p_need_number) (by simp [Fs]) rfl ?_
  show Wp (b_p_need_number.den _ (startE _ _)) _ _
  unfold b_p_need_number f_p_need_number
  rw [st_eq]
  walk_at "mp"
  exact need_from_to k st n 0 400 (by omega) (by omega) q
theorem rows_up_to (k : Nat) (st : Store) (m n : Nat) (hm : m ≤ 400) (hn : n ≤ 400) {Q} (q : ∀ t st' as, Ext st st' → LL st' t (fun i => BX.ll (BX.pa i) (n + 1)) (m + 1) as → Q (.loc t) st') : Wp (gam Fs (k + 2) "rows_up_to" [.v (.int m), .v (.int n)]) st Q := by
  refine wp_fn nodup (F := f_p_rows_up_to) (by simp [Fs]) rfl ?_
  show Wp (b_p_rows_up_to.den _ (startE _ _)) _ _
  unfold b_p_rows_up_to f_p_rows_up_to
  rw [st_eq]
  walk_at "mp"
  refine one_alone k st n (by omega) fun n1 s1 E1 hn1 h1 => ?_
  walk_at "mp"
  rw [wp_rng2 (by omega) (by omega) (by omega) (by omega)]
  have hlt := lt_of_get h1
  refine wp_for m (fun i env s' => ∃ x as, env = [some (.v (.int m)), some (.v (.int n)), some (.loc s1.length), x] ∧ Ext st s' ∧ LL s' s1.length (fun i => BX.ll (BX.pa i) (n + 1)) (i + 1) as) ⟨_, [n1], rfl, E1.trans (Ext.push _ _), get_push _ _, rfl, ?_⟩ (turns_ok (by omega)) ?_ ?_
  · intro j a z
    match j, z with
    | 0, z =>
      cases z
      exact ⟨by omega, by rw [push_old h1, BX.pa_start]⟩
    | j + 1, z => cases z
  · rintro i env s' hi ⟨x, as, rfl, e1, L⟩
    refine ⟨_, at_rng (by omega), ?_⟩
    rw [show (1 + (i : Int) * 1) = ((i + 1 : Nat) : Int) by omega]
    walk_at "mp"
    rw [wp_listQ L.at']
    obtain ⟨a, ha, hb⟩ := L.get (j := i) (by omega)
    rw [wp_idxD L.at' (j := i) (by omega) ha]
    refine with_size k s' a (i + 1) _ (by rw [BX.ll_len]; omega) (by omega) hb fun n2 s2 E2 hn2 h2 => ?_
    walk_at "mp"
    have L2 := L.ext E2
    rw [BX.ll_len, BX.pa_wsz] at h2
    rw [wp_appL L2.at' (by rw [List.length_map, L2.ln]; omega)]
    refine ⟨_, _, rfl, (e1.trans E2).set ?_, L2.push ?_ h2⟩
    · exact E1.len
    · have := lt_of_get L.at'
      omega
  · rintro env s' ⟨x, as, rfl, e1, L⟩
    refine ⟨by rw [show ((m : Int) + 1 - 1).toNat = m by omega]; exact rng_end, ?_⟩
    walk_at "mp"
    exact q _ _ _ e1 L
theorem length_counts (k : Nat) (st : Store) (n : Nat) (hn : n ≤ 400) {Q} (q : ∀ st', Ext st st' → Q (.tup (il ((List.range (n + 1)).map fun i => BX.pa i (n - i)))) st') : Wp (gam Fs (k + 5) "length_counts" [.v (.int n)]) st Q := by
  refine wp_fn nodup (F := f_p_length_counts) (by simp [Fs]) rfl ?_
  show Wp (b_p_length_counts.den _ (startE _ _)) _ _
  unfold b_p_length_counts f_p_length_counts
  rw [st_eq]
  walk_at "mp"
  refine need_number k st n hn ?_
  refine rows_up_to (k + 2) st n n hn hn fun t s1 as E1 L => ?_
  walk_at "mp"
  rw [wp_rng1 (by omega) (by omega)]
  refine wp_lcD (n + 1) (fun i => .v (.int (BX.pa i (n - i)))) (by omega) ?_ (fun s e => by rw [show ((n : Int) + 1).toNat = n + 1 by omega]; exact rng_end) ?_
  · intro j s e hj
    refine ⟨_, at_rng (by omega), fun R r => ?_⟩
    rw [show (0 : Int) + (j : Int) * 1 = (j : Int) by omega]
    walk_at "mp"
    obtain ⟨a, ha, hb⟩ := (L.ext e).get (j := j) hj
    rw [wp_idxD (L.ext e).at' (j := j) rfl ha]
    walk_at "mp"
    rw [wp_idxL hb (j := n - j) (by omega) (by rw [BX.ll_len]; omega), BX.ll_get _ (by omega)]
    exact r s (Ext.refl s)
  · intro s2 E2 h2
    rw [wp_tupleL h2, il_range]
    exact q _ (E1.trans E2)
theorem mth_isqrt {st : Store} {n : Nat} (hn : n ≤ 1000000) {Q : D → Store → Prop} : Wp (mthM .isqrt [.v (.int n)]) st Q ↔ Q (.v (.int (Float64.isqrt n : Nat))) st := by
  simp only [mthM, wp_when, wp_ret, Bool.and_eq_true, decide_eq_true_eq, Int.toNat_natCast]
  exact ⟨fun z => z.2, fun z => ⟨⟨by omega, by omega⟩, z⟩⟩
def sqQ : Nat → Bool
  | 0 => true
  | n + 1 => decide (Float64.isqrt n * Float64.isqrt n ≤ n) && decide (n < (Float64.isqrt n + 1) * (Float64.isqrt n + 1)) && sqQ n
theorem sq_all : sqQ 401 = true := by decide +kernel
theorem sq_of : ∀ {m : Nat}, sqQ m = true → ∀ n, n < m → Float64.isqrt n * Float64.isqrt n ≤ n ∧ n < (Float64.isqrt n + 1) * (Float64.isqrt n + 1)
  | m + 1, h, n, hn => by
    unfold sqQ at h
    rw [Bool.and_eq_true, Bool.and_eq_true, decide_eq_true_eq, decide_eq_true_eq] at h
    by_cases e : n = m
    · rw [e]; exact h.1
    · exact sq_of h.2 n (by omega)
theorem square_counts (k : Nat) (st : Store) (n : Nat) (hn : n ≤ 400) {Q} (q : ∀ st', Ext st st' → Q (.tup (il ((List.range (Float64.isqrt n + 1)).map fun i => ((List.range (n - i * i + 1)).map fun b => BX.pa i b * BX.pa i (n - i * i - b)).sum))) st') : Wp (gam Fs (k + 5) "square_counts" [.v (.int n)]) st Q := by
  refine wp_fn nodup (F := f_p_square_counts) (by simp [Fs]) rfl ?_
  show Wp (b_p_square_counts.den _ (startE _ _)) _ _
  unfold b_p_square_counts f_p_square_counts
  rw [st_eq]
  walk_at "mp"
  refine need_number k st n hn ?_
  rw [mth_isqrt (by omega)]
  obtain ⟨hs1, hs2⟩ := sq_of sq_all n (by omega)
  generalize hS : Float64.isqrt n = S at *
  have hS20 : S ≤ 20 := by
    by_cases h : S ≤ 20
    · exact h
    · have : 21 * 21 ≤ S * S := Nat.mul_le_mul (by omega) (by omega)
      omega
  refine rows_up_to (k + 2) st S n (by omega) hn fun t s1 as E1 L => ?_
  walk_at "mp"
  rw [wp_rng1 (by omega) (by omega)]
  have hlt := lt_of_get L.at'
  refine wp_for (S + 1) (fun i env s' => ∃ x y, env = [some (.v (.int n)), some (.v (.int S)), some (.loc t), some (.loc s1.length), x, y, none] ∧ Ext s1 s' ∧ s'[s1.length]? = some (.lst (il ((List.range i).map fun i => ((List.range (n - i * i + 1)).map fun b => BX.pa i b * BX.pa i (n - i * i - b)).sum)))) ⟨_, _, rfl, Ext.push _ _, get_push _ _⟩ (turns_ok (by omega)) ?_ ?_
  · rintro i env s' hi ⟨x, y, rfl, e1, e2⟩
    have hii : i * i ≤ n := Nat.le_trans (Nat.mul_le_mul (show i ≤ S by omega) (show i ≤ S by omega)) hs1
    refine ⟨_, at_rng (by omega), ?_⟩
    rw [show (0 + (i : Int) * 1) = (i : Int) by omega]
    walk_at "mp"
    rw [wp_mulI (by omega) (by omega), show (i : Int) * (i : Int) = ((i * i : Nat) : Int) from rfl]
    walk_at "mp"
    rw [wp_listQ e2, show (n : Int) - ((i * i : Nat) : Int) = ((n - i * i : Nat) : Int) by omega]
    rw [wp_rng1 (by omega) (by omega)]
    have Li := L.ext e1
    obtain ⟨a, ha, hb⟩ := Li.get (j := i) hi
    refine wp_lcD (n - i * i + 1) (fun b => .v (.int (BX.pa i b * BX.pa i (n - i * i - b)))) (by omega) ?_ (fun s e => by rw [show (((n - i * i : Nat) : Int) + 1).toNat = n - i * i + 1 by omega]; exact rng_end) ?_
    · intro j s e hj
      refine ⟨_, at_rng (by omega), fun R r => ?_⟩
      rw [show (0 + (j : Int) * 1) = (j : Int) by omega]
      walk_at "mp"
      have Lj := Li.ext e
      have hb' := e _ _ hb
      rw [wp_idxD Lj.at' (j := i) rfl ha]
      rw [wp_idxL hb' (j := j) rfl (by rw [BX.ll_len]; omega), BX.ll_get _ (by omega)]
      rw [wp_idxD Lj.at' (j := i) rfl ha]
      walk_at "mp"
      rw [wp_idxL hb' (j := n - i * i - j) (by omega) (by rw [BX.ll_len]; omega), BX.ll_get _ (by omega)]
      obtain ⟨b1, b2⟩ := BX.pa_small (m := i) (j := j) (by omega) (by omega)
      rw [wp_mulI (by omega) (by omega)]
      exact r s (Ext.refl s)
    · intro s2 E2 h2
      rw [il_range] at h2
      rw [wp_sumL h2, wp_appL (E2 _ _ e2) (by rw [il_length, List.length_map, List.length_range]; omega)]
      refine ⟨_, _, rfl, (e1.trans E2).set (Nat.le_refl _), ?_⟩
      rw [get_set (E2 _ _ e2), il_snoc, range_up _ i]
  · rintro env s' ⟨x, y, rfl, e1, e2⟩
    refine ⟨by rw [show ((S : Int) + 1).toNat = S + 1 by omega]; exact rng_end, ?_⟩
    walk_at "mp"
    rw [wp_tupleL e2]
    exact q _ (E1.trans e1)
theorem lengths (k : Nat) (st : Store) (n : Nat) (hn : n ≤ 400) {Q} (q : ∀ t st' as, Ext st st' → LL st' t (fun i => BX.ll (BX.en i) (n + 1)) (n + 1) as → Q (.loc t) st') : Wp (gam Fs (k + 1) "_law_lengths" [.v (.int n)]) st Q := by
  refine wp_fn nodup (F := f_l_lengths) (by simp [Fs]) rfl ?_
  show Wp (b_l_lengths.den _ (startE _ _)) _ _
  unfold b_l_lengths f_l_lengths
  rw [st_eq]
  walk_at "mp"
  rw [wp_mulL (get_push _ _) (by omega) (by omega), wp_addL (push_old (push_old (get_push _ _))) (get_push _ _) (by simp only [List.length_cons, List.length_nil, List.length_replicate]; omega)]
  rw [show [D.v (V.int 1)] ++ List.replicate ((n : Int)).toNat (D.v (V.int 0)) = il (BX.ll (BX.en 0) (n + 1)) by rw [← BX.en_start, Int.toNat_natCast, il_cons]; unfold il; rw [List.map_replicate]; rfl]
  generalize hA : (st ++ [O.lst [D.v (V.int 1)]] ++ [O.lst [D.v (V.int 0)]] ++ [O.lst (List.replicate ((n : Int)).toNat (D.v (V.int 0)))]) = A
  have eA : Ext st A := by
    rw [← hA]
    exact (Ext.push _ _).trans ((Ext.push _ _).trans (Ext.push _ _))
  have lA := eA.len
  generalize hB : A ++ [O.lst (il (BX.ll (BX.en 0) (n + 1)))] = B
  have gB : B[A.length]? = some (O.lst (il (BX.ll (BX.en 0) (n + 1)))) := by rw [← hB, get_push]
  have eB : Ext st B := by
    rw [← hB]
    exact eA.trans (Ext.push _ _)
  have lB : B.length = A.length + 1 := by rw [← hB]; simp
  rw [wp_rng2 (by omega) (by omega) (by omega) (by omega)]
  refine wp_for n (fun i env s' => ∃ x y z as, env = [some (.v (.int n)), some (.loc B.length), x, y, z] ∧ Ext st s' ∧ LL s' B.length (fun i => BX.ll (BX.en i) (n + 1)) (i + 1) as) ⟨_, _, _, [A.length], rfl, eB.trans (Ext.push _ _), get_push _ _, rfl, ?_⟩ (turns_ok (by omega)) ?_ ?_
  · intro j a z
    match j, z with
    | 0, z =>
      cases z
      exact ⟨by omega, push_old gB⟩
    | j + 1, z => cases z
  · rintro i env s' hi ⟨x, y, z, as, rfl, e1, L⟩
    refine ⟨_, at_rng (by omega), ?_⟩
    rw [show (1 + (i : Int) * 1) = ((i + 1 : Nat) : Int) by omega]
    walk_at "mp"
    have hlt := lt_of_get L.at'
    rw [wp_mulL (get_push _ _) (by omega) (by omega), wp_rng2 (by omega) (by omega) (by omega) (by omega)]
    rw [show List.replicate ((n : Int) + 1).toNat (D.v (V.int 0)) = il (List.replicate (n + 1) 0) by unfold il; rw [List.map_replicate, show ((n : Int) + 1).toNat = n + 1 by omega]]
    generalize hC : s' ++ [O.lst [D.v (V.int 0)]] = C
    have eC : Ext s' C := by
      rw [← hC]
      exact Ext.push _ _
    have lC : C.length = s'.length + 1 := by rw [← hC]; simp
    have LC := (L.ext eC).ext (Ext.push C (O.lst (il (List.replicate (n + 1) 0))))
    obtain ⟨a, ha, hb⟩ := L.get (j := i) (by omega)
    have hlen : (as.map D.loc).length - 1 = i := by rw [List.length_map, L.ln]; omega
    have hab : a < C.length := Nat.lt_of_lt_of_le (lt_of_get hb) (by omega)
    refine wp_for (n + 1 - (i + 1)) (fun j env s2 => ∃ x, env = [some (.v (.int n)), some (.loc B.length), some (.v (.int ((i + 1 : Nat) : Int))), some (.loc C.length), x] ∧ Ext s' s2 ∧ s2[C.length]? = some (.lst (il (BX.wen (BX.ll (BX.en i) (n + 1)) (i + 1) n j)))) ⟨_, rfl, eC.trans (Ext.push _ _), get_push _ _⟩ (turns_ok (by omega)) ?_ ?_
    · rintro j env s2 hj ⟨x, rfl, f1, f2⟩
      refine ⟨_, at_rng (by omega), ?_⟩
      rw [show (((i + 1 : Nat) : Int) + (j : Int) * 1) = ((i + 1 + j : Nat) : Int) by omega]
      walk_at "mp"
      have hwl : (BX.wen (BX.ll (BX.en i) (n + 1)) (i + 1) n j).length = n + 1 := BX.wen_len _ _ _ _
      rw [wp_idxLast (f1 _ _ L.at') (by rw [hlen]; exact ha)]
      rw [wp_idxL (f1 _ _ hb) (j := i + 1 + j - 1) (by omega) (by rw [BX.ll_len]; omega)]
      rw [wp_idxL f2 (j := j) (by omega) (by omega)]
      walk_at "mp"
      rw [wp_setL f2 (j := i + 1 + j) (by omega) (by omega)]
      exact ⟨_, rfl, f1.set (by omega), get_set f2⟩
    · rintro env s2 ⟨x, rfl, f1, f2⟩
      refine ⟨by rw [show ((n : Int) + 1 - ((i + 1 : Nat) : Int)).toNat = n + 1 - (i + 1) by omega]; exact rng_end, ?_⟩
      walk_at "mp"
      have L2 := L.ext f1
      rw [BX.wen_all (by omega)] at f2
      rw [wp_listQ L2.at', wp_appL L2.at' (by rw [List.length_map, L2.ln]; omega)]
      exact ⟨_, _, _, _, rfl, (e1.trans f1).set (by omega), L2.push (by omega) f2⟩
  · rintro env s' ⟨x, y, z, as, rfl, e1, L⟩
    refine ⟨by rw [show ((n : Int) + 1 - 1).toNat = n by omega]; exact rng_end, ?_⟩
    walk_at "mp"
    exact q _ _ _ e1 L
/-- a new list -/
def NewD (st : Store) (ds : List D) (Q : D → Store → Prop) : Prop := ∀ n st', Ext st st' → st.length ≤ n → st'[n]? = some (.lst ds) → Q (.loc n) st'
def tl (rs : List (List Int)) : List D := rs.map fun r => D.tup (il r)
theorem tl_append (a b : List (List Int)) : tl a ++ tl b = tl (a ++ b) := by
  unfold tl
  rw [List.map_append]
theorem tl_length (a : List (List Int)) : (tl a).length = a.length := List.length_map ..
theorem tl_get {a : List (List Int)} {j : Nat} (h : j < a.length) : (tl a)[j]? = some (.tup (il a[j])) := by
  unfold tl
  rw [List.getElem?_map, List.getElem?_eq_getElem h]
  rfl
theorem rows_step (K : Nat) (st : Store) (n m : Nat) (g : Nat → Nat → List (List Int)) (hn : n ≤ 100) (hm : m ≤ 100)
    (hrec : ∀ p s, p < min n m → ∀ {Q}, NewD s (tl (g (n - (p + 1)) (p + 1))) Q → Wp (gam Fs K "_law_rows" [.v (.int ((n - (p + 1) : Nat) : Int)), .v (.int ((p + 1 : Nat) : Int))]) s Q)
    (hsz : ∀ i, i ≤ min n m → (BX.rlU g n i).length ≤ 100000) (hdeep : ∀ p, p < min n m → ∀ r ∈ g (n - (p + 1)) (p + 1), r.length ≤ 1000)
    {Q} (q : NewD st (tl ((if n = 0 then [[]] else []) ++ BX.rlU g n (min n m))) Q) : Wp (gam Fs (K + 1) "_law_rows" [.v (.int n), .v (.int m)]) st Q := by
  refine wp_fn nodup (F := f_l_rows) (by simp [Fs]) rfl ?_
  show Wp (b_l_rows.den _ (startE _ _)) _ _
  unfold b_l_rows f_l_rows
  rw [st_eq]
  refine wp_seq.mpr (Wp.mono (Q := fun r s => ∃ t, r = (.next, [some (.v (.int n)), some (.v (.int m)), some (.loc t), none, none]) ∧ Ext st s ∧ st.length ≤ t ∧ s[t]? = some (.lst (tl (if n = 0 then [[]] else [])))) ?_ ?_)
  · walk_at "mp"
    by_cases h : n = 0
    · subst h
      refine ite_t (by decide) ?_
      exact ⟨_, rfl, Ext.push _ _, Nat.le_refl _, get_push _ _⟩
    · refine ite_f (by rw [beq_eq_false_iff_ne]; omega) ?_
      refine ⟨_, rfl, Ext.push _ _, Nat.le_refl _, ?_⟩
      rw [get_push, if_neg h]
      rfl
  · rintro _ s0 ⟨t0, rfl, E0, ht0, h0⟩
    walk_at "mp"
    rw [wp_min]
    walk_at "mp"
    rw [wp_rng2 (by omega) (by omega) (by omega) (by omega)]
    refine wp_for (min n m) (fun i env s' => ∃ x t, env = [some (.v (.int n)), some (.v (.int m)), some (.loc t), x, none] ∧ Ext st s' ∧ st.length ≤ t ∧ s'[t]? = some (.lst (tl ((if n = 0 then [[]] else []) ++ BX.rlU g n i)))) ⟨_, _, rfl, E0, ht0, by rw [h0]; unfold BX.rlU; simp⟩ (turns_ok (by omega)) ?_ ?_
    · rintro i env s' hi ⟨x, t, rfl, e1, e2, e3⟩
      refine ⟨_, at_rng (by omega), ?_⟩
      rw [show (1 + (i : Int) * 1) = ((i + 1 : Nat) : Int) by omega]
      walk_at "mp"
      rw [show (n : Int) - ((i + 1 : Nat) : Int) = ((n - (i + 1) : Nat) : Int) by omega]
      refine hrec i s' hi fun n1 s1 E1 hn1 h1 => ?_
      rw [wp_srcL h1]
      have hz := hsz (i + 1) (by omega)
      rw [BX.rlU_up, List.length_append, List.length_map] at hz
      refine wp_lcD (g (n - (i + 1)) (i + 1)).length (fun j => .tup (il (((i + 1 : Nat) : Int) :: (g (n - (i + 1)) (i + 1)).getD j []))) (by omega) ?_ (fun s e => loc_end (e _ _ h1) (Nat.le_of_eq (tl_length _))) ?_
      · intro j s e hj
        refine ⟨_, at_loc (e _ _ h1) (tl_get hj), fun R r => ?_⟩
        walk_at "mp"
        have hd := hdeep i hi _ (List.getElem_mem hj)
        rw [wp_addTT (by rw [il_length]; show 1 + _ ≤ _; omega)]
        have := r s (Ext.refl s)
        rw [List.getD_eq_getElem?_getD, List.getElem?_eq_getElem hj] at this
        exact this
      · intro s2 E2 h2
        have e4 : (List.range (g (n - (i + 1)) (i + 1)).length).map (fun j => D.tup (il (((i + 1 : Nat) : Int) :: (g (n - (i + 1)) (i + 1)).getD j []))) = tl ((g (n - (i + 1)) (i + 1)).map fun r => ((i + 1 : Nat) : Int) :: r) := by
          unfold tl
          refine List.ext_getElem (by simp) fun a b1 b2 => ?_
          have : a < (g (n - (i + 1)) (i + 1)).length := by simpa using b1
          simp [List.getD_eq_getElem?_getD, this]
        rw [e4] at h2
        have hz0 : ((if n = 0 then [[]] else [] : List (List Int))).length ≤ 1 := by split <;> simp
        rw [wp_addL (E2 _ _ (E1 _ _ e3)) h2 (by rw [tl_length, tl_length, List.length_append, List.length_map]; omega)]
        have l1 := (e1.trans (E1.trans E2)).len
        refine ⟨_, _, rfl, e1.trans (E1.trans (E2.trans (Ext.push _ _))), l1, ?_⟩
        rw [get_push, tl_append, BX.rlU_up, List.append_assoc]
    · rintro env s' ⟨x, t, rfl, e1, e2, e3⟩
      refine ⟨by rw [show (((min n m : Nat) : Int) + 1 - 1).toNat = min n m by omega]; exact rng_end, ?_⟩
      walk_at "mp"
      exact q _ _ e1 e2 e3
theorem rows : ∀ (f : Nat), f ≤ 13 → ∀ (k : Nat) (st : Store) (n m : Nat), n ≤ f → m ≤ 13 → ∀ {Q}, NewD st (tl (BX.rl f n m)) Q → Wp (gam Fs (k + f + 1) "_law_rows" [.v (.int n), .v (.int m)]) st Q
  | 0, _, k, st, n, m, hn, hm, Q, q => by
    obtain rfl : n = 0 := by omega
    refine rows_step k st 0 m (fun _ _ => []) (by omega) (by omega) (fun p s hp => by omega) (fun i hi => ?_) (fun p hp => by omega) ?_
    · obtain rfl : i = 0 := by omega
      exact Nat.zero_le _
    · rw [show min 0 m = 0 by omega]
      exact q
  | f + 1, hf, k, st, n, m, hn, hm, Q, q => by
    refine rows_step (k + f + 1) st n m (BX.rl f) (by omega) (by omega) (fun p s hp Q q => rows f (by omega) k s _ _ (by omega) (by omega) q) (fun i hi => ?_) (fun p hp r hr => ?_) q
    · have := BX.rl_few (f := f + 1) (n := n) (m := i) hf (by omega) (by omega)
      unfold BX.rl at this
      rw [List.length_append, show min n i = i by omega] at this
      omega
    · have := BX.rl_deep f _ _ r hr
      omega
theorem square (k : Nat) (st : Store) (r : List Int) (hr : r.length ≤ 1000) {Q} (q : ∀ st', Ext st st' → Q (.v (.int (BX.sqr r))) st') : Wp (gam Fs (k + 1) "_law_square" [.tup (il r)]) st Q := by
  refine wp_fn nodup (F := f_l_square) (by simp [Fs]) rfl ?_
  show Wp (b_l_square.den _ (startE _ _)) _ _
  unfold b_l_square f_l_square
  rw [st_eq]
  walk_at "mp"
  rw [wp_lenT]
  walk_at "mp"
  rw [wp_rng1 (by omega) (by omega)]
  refine wp_lcF (r.length + 1) (fun s => .v (.int s)) (fun s => decide (s ≤ BX.cnt r s)) (by omega) ?_ (fun s e => by rw [show ((r.length : Int) + 1).toNat = r.length + 1 by omega]; exact rng_end) ?_
  · intro j s e hj
    refine ⟨_, at_rng (by omega), fun R h => ?_⟩
    rw [show (0 + (j : Int) * 1) = (j : Int) by omega]
    walk_at "mp"
    rw [wp_srcT]
    refine wp_lcF r.length (fun i => .v (.int (r.getD i 0))) (fun i => decide ((j : Int) ≤ r.getD i 0)) (by omega) ?_ (fun s e => by show some (il r)[r.length]? = _; rw [List.getElem?_eq_none (Nat.le_of_eq (il_length r))]) ?_
    · intro i s2 e2 hi
      refine ⟨_, (by show some (il r)[i]? = _; rw [il_get hi]), fun R h => ?_⟩
      walk_at "mp"
      by_cases hc : (j : Int) ≤ r.getD i 0
      · have := h s2 (Ext.refl s2)
        rw [if_pos (decide_eq_true hc)] at this ⊢
        exact this
      · have := h s2 (Ext.refl s2)
        rw [if_neg (by simpa using hc)] at this ⊢
        exact this
    · intro s2 e2 h2
      rw [wp_lenD h2, List.length_map, show ((List.range r.length).filter fun i => decide ((j : Int) ≤ r.getD i 0)).length = BX.cnt r j from rfl]
      walk_at "mp"
      have := h s2 e2
      by_cases hc : j ≤ BX.cnt r j
      · rw [if_pos (decide_eq_true hc)] at this
        rw [if_pos (decide_eq_true (by omega))]
        exact this
      · rw [if_neg (by simpa using hc)] at this
        rw [if_neg (by simp; omega)]
        exact this
  · intro s E1 h1
    have h2 : s[st.length]? = some (.lst (il (BX.sides r))) := by
      rw [h1]
      unfold il BX.sides
      rw [List.map_map]
      rfl
    rw [wp_maxL h2 (BX.sides_max r)]
    exact q _ E1
theorem reach (k : Nat) (st : Store) (t n s : Nat) (as : List Nat) (hn : n ≤ 400) (hs : 0 < s) (hs' : s ≤ 20) (L : LL st t (fun i => BX.ll (BX.en i) (n + 1)) (n + 1) as) {Q} (q : ∀ st', Ext st st' → Q (.v (.int (BX.rc n s))) st') : Wp (gam Fs (k + 1) "_law_reach" [.loc t, .v (.int n), .v (.int s)]) st Q := by
  refine wp_fn nodup (F := f_l_reach) (by simp [Fs]) rfl ?_
  show Wp (b_l_reach.den _ (startE _ _)) _ _
  unfold b_l_reach f_l_reach
  rw [st_eq]
  walk_at "mp"
  rw [wp_mulL (get_push _ _) (by omega) (by omega), wp_addL (push_old (push_old (get_push _ _))) (get_push _ _) (by simp only [List.length_cons, List.length_nil, List.length_replicate]; omega)]
  rw [show [D.v (V.int 1)] ++ List.replicate ((n : Int)).toNat (D.v (V.int 0)) = il (BX.ll (BX.pa 0) (n + 1)) by rw [← BX.pa_start, Int.toNat_natCast, il_cons]; unfold il; rw [List.map_replicate]; rfl]
  walk_at "mp"
  generalize hA : (st ++ [O.lst [D.v (V.int 1)]] ++ [O.lst [D.v (V.int 0)]] ++ [O.lst (List.replicate ((n : Int)).toNat (D.v (V.int 0)))]) = A
  have eA : Ext st A := by
    rw [← hA]
    exact (Ext.push _ _).trans ((Ext.push _ _).trans (Ext.push _ _))
  have lA := eA.len
  rw [wp_rng2 (by omega) (by omega) (by omega) (by omega)]
  refine wp_for (s - 1) (fun i env s' => ∃ x y, env = [some (.loc t), some (.v (.int n)), some (.v (.int s)), x, none, some (.loc A.length), some (.v (.int 0)), y, none] ∧ Ext st s' ∧ s'[A.length]? = some (.lst (il (BX.ll (BX.pa i) (n + 1))))) ⟨_, _, rfl, eA.trans (Ext.push _ _), get_push _ _⟩ (turns_ok (by omega)) ?_ ?_
  · rintro i env s' hi ⟨x, y, rfl, e1, e2⟩
    refine ⟨_, at_rng (by omega), ?_⟩
    rw [show (1 + (i : Int) * 1) = ((i + 1 : Nat) : Int) by omega]
    walk_at "mp"
    rw [wp_rng2 (by omega) (by omega) (by omega) (by omega)]
    refine wp_for (n + 1 - (i + 1)) (fun j env s' => ∃ y, env = [some (.loc t), some (.v (.int n)), some (.v (.int s)), some (.v (.int ((i + 1 : Nat) : Int))), none, some (.loc A.length), some (.v (.int 0)), y, none] ∧ Ext st s' ∧ s'[A.length]? = some (.lst (il (BX.wsz (BX.ll (BX.pa i) (n + 1)) (i + 1) j)))) ⟨_, rfl, e1, e2⟩ (turns_ok (by omega)) ?_ ?_
    · rintro j env s' hj ⟨y, rfl, f1, f2⟩
      refine ⟨_, at_rng (by omega), ?_⟩
      walk_at "mp"
      have hwl : (BX.wsz (BX.ll (BX.pa i) (n + 1)) (i + 1) j).length = n + 1 := by unfold BX.wsz; rw [BX.acc_len, BX.ll_len]
      rw [wp_idxL f2 (j := i + 1 + j) (by omega) (by omega), wp_idxL f2 (j := j) (by omega) (by omega)]
      walk_at "mp"
      rw [wp_setL f2 (j := i + 1 + j) (by omega) (by omega)]
      exact ⟨_, rfl, f1.set lA, get_set f2⟩
    · rintro env s' ⟨y, rfl, f1, f2⟩
      refine ⟨by rw [show ((n : Int) + 1 - ((i + 1 : Nat) : Int)).toNat = n + 1 - (i + 1) by omega]; exact rng_end, ?_⟩
      walk_at "mp"
      rw [BX.pa_wsz] at f2
      exact ⟨_, _, rfl, f1, f2⟩
  · rintro env s0 ⟨x, y, rfl, e1, e2⟩
    refine ⟨by rw [show ((s : Int) - 1).toNat = s - 1 by omega]; exact rng_end, ?_⟩
    walk_at "mp"
    rw [wp_divI (by omega) (by omega)]
    walk_at "mp"
    have hdn : n / s ≤ n := Nat.div_le_self n s
    have hd0 : (0 : Int) ≤ (n : Int) / (s : Int) := Int.ediv_nonneg (by omega) (by omega)
    rw [show (n : Int) / (s : Int) = ((n / s : Nat) : Int) from rfl, wp_rng2 (by omega) (by omega) (by omega) (by omega)]
    refine wp_for (n / s + 1 - s) (fun i env s' => ∃ x y z w, env = [some (.loc t), some (.v (.int n)), some (.v (.int s)), x, y, some (.loc A.length), some (.v (.int (BX.rcO n s i))), z, w] ∧ s' = s0) ⟨_, _, _, _, rfl, rfl⟩ (turns_ok (by omega)) ?_ ?_
    · rintro i env s' hi ⟨x, y, z, w, rfl, rfl⟩
      refine ⟨_, at_rng (by omega), ?_⟩
      rw [show ((s : Int) + (i : Int) * 1) = ((s + i : Nat) : Int) by omega]
      walk_at "mp"
      have hms : (s + i) * s ≤ n := Nat.le_trans (Nat.mul_le_mul_right s (show s + i ≤ n / s by omega)) (Nat.div_mul_le_self n s)
      rw [wp_mulI (by omega) (by omega), show ((s + i : Nat) : Int) * (s : Int) = (((s + i) * s : Nat) : Int) from rfl, wp_rng2 (by omega) (by omega) (by omega) (by omega)]
      have hmi : s + i ≤ n := by omega
      refine wp_for (n + 1 - (s + i) * s) (fun j env s2 => ∃ z w, env = [some (.loc t), some (.v (.int n)), some (.v (.int s)), x, some (.v (.int ((s + i : Nat) : Int))), some (.loc A.length), some (.v (.int (BX.rcO n s i + BX.rcI n s (s + i) j))), z, w] ∧ s2 = s') ⟨_, _, by rw [show BX.rcI n s (s + i) 0 = 0 from rfl, Int.add_zero], rfl⟩ (turns_ok (by omega)) ?_ ?_
      · rintro j env s' hj ⟨z, w, rfl, rfl⟩
        refine ⟨_, at_rng (by omega), ?_⟩
        rw [show ((((s + i) * s : Nat) : Int) + (j : Int) * 1) = (((s + i) * s + j : Nat) : Int) by omega]
        walk_at "mp"
        rw [wp_mulI (by omega) (by omega)]
        walk_at "mp"
        obtain ⟨a, ha, hb⟩ := (L.ext e1).get (j := s + i) (by omega)
        have hss : (s + i) * s = (s + i) * (s - 1) + (s + i) := by
          obtain ⟨s1, rfl⟩ : ∃ s1, s = s1 + 1 := ⟨s - 1, by omega⟩
          rw [Nat.add_sub_cancel, Nat.mul_succ]
        have hle : (((s + i) * s + j : Nat) : Int) - ((s + i : Nat) : Int) * ((s : Int) - 1) = ((s + i + j : Nat) : Int) := by
          rw [show ((s : Int) - 1) = ((s - 1 : Nat) : Int) by omega, show ((s + i : Nat) : Int) * ((s - 1 : Nat) : Int) = (((s + i) * (s - 1) : Nat) : Int) from rfl, hss]
          omega
        have hms2 : s + i ≤ (s + i) * s := by rw [hss]; omega
        rw [hle, wp_idxD (L.ext e1).at' (j := s + i) rfl ha]
        rw [wp_idxL hb (j := s + i + j) rfl (by rw [BX.ll_len]; omega), BX.ll_get _ (by omega)]
        walk_at "mp"
        rw [wp_idxL e2 (j := n - ((s + i) * s + j)) (by omega) (by rw [BX.ll_len]; omega), BX.ll_get _ (by omega)]
        obtain ⟨b1, b2⟩ := BX.pa_small (m := s - 1) (j := n - ((s + i) * s + j)) (by omega) (by omega)
        rw [wp_mulJ (by omega) (by omega)]
        walk_at "mp"
        refine ⟨some (.v (.int (((s + i) * s + j : Nat) : Int))), some (.v (.int ((s + i + j : Nat) : Int))), ?_, trivial⟩
        rw [show BX.rcI n s (s + i) (j + 1) = BX.rcI n s (s + i) j + BX.en (s + i) (s + i + j) * BX.pa (s - 1) (n - ((s + i) * s + j)) from rfl, Int.add_assoc]
      · rintro env s' ⟨z, w, rfl, rfl⟩
        refine ⟨by rw [show ((n : Int) + 1 - (((s + i) * s : Nat) : Int)).toNat = n + 1 - (s + i) * s by omega]; exact rng_end, ?_⟩
        walk_at "mp"
        exact ⟨_, _, _, _, rfl, trivial⟩
    · rintro env s' ⟨x, y, z, w, rfl, rfl⟩
      refine ⟨by rw [show (((n / s : Nat) : Int) + 1 - (s : Int)).toNat = n / s + 1 - s by omega]; exact rng_end, ?_⟩
      walk_at "mp"
      exact q _ e1
structure LR (st : Store) (n : Nat) (as : List Nat) : Prop where
  at' : st[n]? = some (.lst (as.map D.loc))
  ln : as.length = 14
  el : ∀ (j a : Nat), as[j]? = some a → st[a]? = some (O.lst (tl (BX.rl 13 j j)))
theorem LR.ext {st st' : Store} {n : Nat} {as : List Nat} (h : LR st n as) (e : Ext st st') : LR st' n as := ⟨e _ _ h.at', h.ln, fun j a z => e _ _ (h.el j a z)⟩
theorem rl_lens (i : Nat) : (List.range (BX.rl 13 i i).length).map (fun j => D.v (.int (((BX.rl 13 i i).getD j []).length : Int))) = il (BX.lens i) := by
  unfold il BX.lens
  rw [List.map_map]
  refine List.ext_getElem (by simp) fun a b1 b2 => ?_
  have : a < (BX.rl 13 i i).length := by simpa using b1
  simp [List.getD_eq_getElem?_getD, this]
theorem rl_sqrs (i : Nat) : (List.range (BX.rl 13 i i).length).map (fun j => D.v (.int (BX.sqr ((BX.rl 13 i i).getD j [])))) = il (BX.sqrs i) := by
  unfold il BX.sqrs
  rw [List.map_map]
  refine List.ext_getElem (by simp) fun a b1 b2 => ?_
  have : a < (BX.rl 13 i i).length := by simpa using b1
  simp [List.getD_eq_getElem?_getD, this]
theorem getD_at {α : Type} {l : List α} {j : Nat} (d : α) (h : j < l.length) : l.getD j d = l[j] := by
  rw [List.getD_eq_getElem?_getD, List.getElem?_eq_getElem h]
  rfl
theorem rt_isqrt {n : Nat} (hn : n ≤ 400) : Float64.isqrt n = BX.rt 20 n := by
  obtain ⟨h1, h2⟩ := sq_of sq_all n (by omega)
  obtain ⟨h3, h4⟩ := BX.rt_ok 20 n (by omega)
  exact BX.root_one h1 h2 h3 h4
theorem square_counts' (k : Nat) (st : Store) (n : Nat) (hn : n ≤ 400) {Q} (q : ∀ st', Ext st st' → Q (.tup (il (BX.sqL n))) st') : Wp (gam Fs (k + 5) "square_counts" [.v (.int n)]) st Q := by
  refine square_counts k st n hn fun st' e => ?_
  rw [rt_isqrt hn]
  exact q st' e
theorem length_counts' (k : Nat) (st : Store) (n : Nat) (hn : n ≤ 400) {Q} (q : ∀ st', Ext st st' → Q (.tup (il (BX.lnL n))) st') : Wp (gam Fs (k + 5) "length_counts" [.v (.int n)]) st Q := length_counts k st n hn q
theorem small (k : Nat) (st : Store) (e : Nat) (as : List Nat) (L : LR st e as) {Q} (q : ∀ st', Ext st st' → Q (.v (.bl true)) st') : Wp (gam Fs (k + 6) "_law_small" [.loc e]) st Q := by
  refine wp_fn nodup (F := f_l_small) (by simp [Fs]) rfl ?_
  show Wp (b_l_small.den _ (startE _ _)) _ _
  unfold b_l_small f_l_small
  rw [st_eq]
  walk_at "mp"
  rw [wp_rng1 (by omega) (by omega)]
  refine wp_for 14 (fun i env s' => ∃ x1 x2 x3 x4 x5 x6 x7, env = [some (.loc e), x1, x2, x3, x4, x5, x6, x7] ∧ Ext st s') ⟨_, _, _, _, _, _, _, rfl, Ext.refl _⟩ (turns_ok (by omega)) ?_ ?_
  · rintro i env s' hi ⟨x1, x2, x3, x4, x5, x6, x7, rfl, e1⟩
    refine ⟨_, at_rng hi, ?_⟩
    rw [show (0 + (i : Int) * 1) = (i : Int) by omega]
    walk_at "mp"
    have Li := L.ext e1
    have hia : i < as.length := by rw [Li.ln]; exact hi
    have ha : (as.map D.loc)[i]? = some (.loc as[i]) := by rw [List.getElem?_map, List.getElem?_eq_getElem hia]; rfl
    have hr := Li.el i _ (List.getElem?_eq_getElem hia)
    generalize as[i] = a at ha hr
    have hfew := BX.rl_few (f := 13) (n := i) (m := i) (by omega) (by omega) (by omega)
    rw [wp_idxD Li.at' (j := i) rfl ha, wp_srcL hr]
    refine wp_lcD (BX.rl 13 i i).length (fun j => .v (.int (((BX.rl 13 i i).getD j []).length : Int))) (by omega) ?_ (fun s e => loc_end (e _ _ hr) (Nat.le_of_eq (tl_length _))) ?_
    · intro j s e hj
      refine ⟨_, at_loc (e _ _ hr) (tl_get hj), fun R r => ?_⟩
      walk_at "mp"
      rw [wp_lenT]
      have := r s (Ext.refl s)
      rw [getD_at _ hj] at this
      exact this
    intro s1 E1 h1
    rw [rl_lens] at h1
    walk_at "mp"
    rw [wp_idxD (Li.ext E1).at' (j := i) rfl ha, wp_srcL (E1 _ _ hr)]
    refine wp_lcD (BX.rl 13 i i).length (fun j => .v (.int (BX.sqr ((BX.rl 13 i i).getD j [])))) (by omega) ?_ (fun s e => loc_end (e _ _ (E1 _ _ hr)) (Nat.le_of_eq (tl_length _))) ?_
    · intro j s e hj
      refine ⟨_, at_loc (e _ _ (E1 _ _ hr)) (tl_get hj), fun R r => ?_⟩
      walk_at "mp"
      have hd := BX.rl_deep 13 i i _ (List.getElem_mem hj)
      refine square (k + 4) s _ (by omega) fun s2 E2 => ?_
      have := r s2 E2
      rw [getD_at _ hj] at this
      exact this
    intro s2 E2 h2
    rw [rl_sqrs] at h2
    walk_at "mp"
    rw [wp_rng1 (by omega) (by omega)]
    refine wp_lcD (i + 1) (fun j => .v (.int (((BX.lens i).count (j : Int) : Nat) : Int))) (by omega) ?_ (fun s e => by rw [show ((i : Int) + 1).toNat = i + 1 by omega]; exact rng_end) ?_
    · intro j s e hj
      refine ⟨_, at_rng (by omega), fun R r => ?_⟩
      rw [show (0 + (j : Int) * 1) = (j : Int) by omega]
      walk_at "mp"
      have h1' := e _ _ (E2 _ _ h1)
      rw [wp_listQ h1', wp_countL h1']
      exact r s (Ext.refl s)
    intro s3 E3 h3
    rw [il_range, BX.lens_len (by omega)] at h3
    have h2' := push_old (o := O.lst [D.tup (il (BX.lnL i))]) (E3 _ _ h2)
    rw [wp_tupleL h3, wp_listQ (get_push _ _), wp_maxL h2' (BX.small_max (by omega))]
    have hrt := BX.rt_le 20 i
    walk_at "mp"
    rw [wp_rng1 (by omega) (by omega)]
    refine wp_lcD (BX.rt 20 i + 1) (fun j => .v (.int (((BX.sqrs i).count (j : Int) : Nat) : Int))) (by omega) ?_ (fun s e => by rw [show (((BX.rt 20 i : Nat) : Int) + 1).toNat = BX.rt 20 i + 1 by omega]; exact rng_end) ?_
    · intro j s e hj
      refine ⟨_, at_rng (by omega), fun R r => ?_⟩
      rw [show (0 + (j : Int) * 1) = (j : Int) by omega]
      walk_at "mp"
      have h1' := e _ _ h2'
      rw [wp_listQ h1', wp_countL h1']
      exact r s (Ext.refl s)
    intro s4 E4 h4
    rw [il_range, BX.sqrs_sq (by omega)] at h4
    have hd := E4 _ _ (get_push s3 (O.lst [D.tup (il (BX.lnL i))]))
    rw [wp_tupleL h4, wp_appL hd (by simp)]
    have hd' := get_set (o := O.lst ([D.tup (il (BX.lnL i))] ++ [D.tup (il (BX.sqL i))])) hd
    have lt3 := lt_of_get hd
    have f1 : Few (BX.lnL i) := BX.lnL_few (by omega)
    have f2 : Few (BX.sqL i) := BX.sqL_few (by omega)
    have l1 := BX.lnL_len i
    have l2 := BX.sqL_len i
    have hT := Txt.two (Txt.ints f1) (Txt.ints f2) (pt_depth _) (pt_depth _)
    refine length_counts' k _ i (by omega) fun s5 E5 => ?_
    refine square_counts' k _ i (by omega) fun s6 E6 => ?_
    walk_at "mp"
    rw [wp_repr (toPy_two (get_push _ _)) hT (by omega), wp_repr (toPy_two (push_old (E6 _ _ (E5 _ _ hd')))) hT (by omega), wp_neStr hT.ok]
    walk_at "mp"
    refine ⟨_, _, _, _, _, _, _, rfl, e1.trans (E1.trans (E2.trans (E3.trans ?_)))⟩
    have := ((Ext.push s3 (O.lst [D.tup (il (BX.lnL i))])).trans E4).set (m := s3.length) (o := O.lst ([D.tup (il (BX.lnL i))] ++ [D.tup (il (BX.sqL i))])) (Nat.le_refl _)
    exact this.trans (E5.trans (E6.trans (Ext.push _ _)))
  · rintro env s' ⟨x1, x2, x3, x4, x5, x6, x7, rfl, e1⟩
    refine ⟨rng_end, ?_⟩
    walk_at "mp"
    exact q _ e1
theorem of_eight (k : Nat) (st : Store) (w n : Nat) (hn : n ≠ w) (h : Well w st) (hs : st[n]? = some (.lst (il [80, 80, 80, 80, 40, 40, 40, 400]))) {Q} (q : ∀ (d : Nat) st', (d = 80 ∨ d = 40 ∨ d = 400) → Well w st' → ExtB w st st' → Q (.v (.int d)) st') : Wp (gam Fs (k + 2) "_law_of" [.loc w, .loc n]) st Q := by
  refine wp_fn nodup (F := f_l_of) (by simp [Fs]) rfl ?_
  show Wp (b_l_of.den _ (startE _ _)) _ _
  unfold b_l_of f_l_of
  rw [st_eq]
  walk_at "mp"
  rw [wp_lenL hs]
  refine dip k st w 8 (by omega) (by omega) h fun d s1 hd W1 E1 => ?_
  rw [wp_idxL (E1 _ _ hn hs) (j := d) rfl hd]
  match d, hd with
  | 0, _ => exact q 80 s1 (.inl rfl) W1 E1
  | 1, _ => exact q 80 s1 (.inl rfl) W1 E1
  | 2, _ => exact q 80 s1 (.inl rfl) W1 E1
  | 3, _ => exact q 80 s1 (.inl rfl) W1 E1
  | 4, _ => exact q 40 s1 (.inr (.inl rfl)) W1 E1
  | 5, _ => exact q 40 s1 (.inr (.inl rfl)) W1 E1
  | 6, _ => exact q 40 s1 (.inr (.inl rfl)) W1 E1
  | 7, _ => exact q 400 s1 (.inr (.inr rfl)) W1 E1
theorem wp_eqStr {st : Store} {t : Str} {Q : D → Store → Prop} (h : PyData.strOk t = true) : Wp (cmpM .eq (.v (.str t)) (.v (.str t))) st Q ↔ Q (.v (.bl true)) st := by
  show Wp (M.bind (eqvM (.v (.str t)) (.v (.str t))) fun b => M.ret (.bl b)) st Q ↔ _
  rw [wp_bind, show Wp (eqvM (.v (.str t)) (.v (.str t))) st (fun a s => Wp (M.ret (D.bl a)) s Q) ↔ Q (.v (.bl true)) st from ?_]
  unfold eqvM
  rw [wp_bind, wp_pyOf (p := .str t) rfl, wp_bind, wp_pyOf (p := .str t) rfl]
  have hs : SeqAt.shaped (.str t) = true := by
    unfold SeqAt.shaped PyData.canLay0 PyData.depth
    rw [h]
    rfl
  have he : PyData.eqv (.str t) (.str t) = true := by simp [PyData.eqv]
  rw [hs, he, if_pos (show (true && true) = true from rfl), wp_ret, wp_ret]
theorem wp_idxT {st : Store} {xs : List Int} {k : Int} {j : Nat} {Q : D → Store → Prop} (hk : k = (j : Int)) (hj : j < xs.length) : Wp (idxM (.tup (il xs)) (.v (.int k))) st Q ↔ Q (.v (.int (xs.getD j 0))) st :=
  wp_idx wp_itemsT hk (il_get hj)
theorem right (k : Nat) (st : Store) (w : Nat) (h : Well w st) {Q} (q : ∀ st', ExtB w st st' → Q (.v (.bl true)) st') : Wp (gam Fs (k + 6) "_law_right" [.loc w]) st Q := by
  refine wp_fn nodup (F := f_l_right) (by simp [Fs]) rfl ?_
  show Wp (b_l_right.den _ (startE _ _)) _ _
  unfold b_l_right f_l_right
  rw [st_eq]
  walk_at "mp"
  have hw : w < st.length := by
    obtain ⟨a, m, c, z, _⟩ := h
    exact lt_of_get z
  rw [sizeOk_of (by omega)]
  walk_at "mp"
  refine of_eight (k + 3) _ w st.length (by omega) (h.ext (Ext.push _ _)) (get_push _ _) fun d s1 hd W1 E1 => ?_
  walk_at "mp"
  refine dip (k + 4) s1 w 27 (by omega) (by omega) W1 fun t s2 ht W2 E2 => ?_
  walk_at "mp"
  have E02 : ExtB w st s2 := (Ext.push _ _).b.trans (E1.trans E2)
  clear E1 E2 W1
  obtain ⟨n, hn, hdn⟩ : ∃ n : Nat, (d : Int) - (t : Int) = (n : Int) ∧ (14 ≤ n ∧ n ≤ 80 ∨ 374 ≤ n ∧ n ≤ 400) := ⟨d - t, by omega, by omega⟩
  rw [hn]
  clear hn hd ht
  refine lengths (k + 4) s2 n (by omega) fun tb s3 as E3 L => ?_
  have hn400 : n ≤ 400 := by omega
  have hdm : n ≤ 80 ∨ 374 ≤ n ∧ n ≤ 400 := by omega
  rw [wp_srcL L.at']
  refine wp_lcD (n + 1) (fun i => .v (.int (BX.en i n))) (by omega) ?_ (fun s e => loc_end ((L.ext e).at') (by rw [List.length_map, L.ln]; exact Nat.le_refl _)) ?_
  · intro j s e hj
    have Lj := L.ext e
    obtain ⟨a, ha, hb⟩ := Lj.get (j := j) hj
    refine ⟨_, at_loc Lj.at' ha, fun R r => ?_⟩
    walk_at "mp"
    rw [wp_idxL hb (j := n) rfl (by rw [BX.ll_len]; omega), BX.ll_get _ (by omega)]
    exact r s (Ext.refl s)
  intro s4 E4 h4
  rw [il_range, BX.en_lnL] at h4
  have f1 : Few (BX.lnL n) := BX.lnL_few hn400
  have f2 : Few (BX.sqL n) := BX.sqL_few hdm
  have l1 := BX.lnL_len n
  have l2 := BX.sqL_len n
  have hrt := BX.rt_le 20 n
  rw [wp_tupleL h4]
  refine length_counts' k _ n hn400 fun s5 E5 => ?_
  refine ⟨rfl, ?_⟩
  refine length_counts' k _ n hn400 fun s6 E6 => ?_
  rw [wp_repr (toPy_two (get_push _ _)) (Txt.twice f1) (by omega), wp_repr (toPy_two (get_push _ _)) (Txt.twice f1) (by omega), wp_neStr (Txt.twice f1).ok]
  walk_at "mp"
  refine ⟨rfl, ?_⟩
  refine square_counts' k _ n hn400 fun s7 E7 => ?_
  rw [wp_sumT, wp_sumT, BX.lnL_sum, BX.sqL_sum hdm]
  walk_at "mp"
  rw [show (!(BX.pa n n == BX.pa n n)) = false by simp]
  walk_at "mp"
  obtain ⟨r1, r2⟩ := BX.rt_ok 20 n (by omega)
  generalize hS : BX.rt 20 n = S at *
  rw [wp_lenT, l2]
  walk_at "mp"
  rw [wp_powI (by omega) (by omega) (by omega) (by omega)]
  walk_at "mp"
  rw [decide_eq_true (show (((S + 1 : Nat) : Int) - 1) ^ (2 : Int).toNat ≤ (n : Int) by
    rw [show (((S + 1 : Nat) : Int) - 1) = (S : Int) by omega, show (2 : Int).toNat = 2 from rfl, Int.pow_succ, Int.pow_succ, Int.pow_zero, Int.one_mul]
    exact_mod_cast r1)]
  walk_at "mp"
  rw [wp_lenT, l2, wp_powI (by omega) (by omega) (by omega) (by omega)]
  walk_at "mp"
  rw [decide_eq_true (show (n : Int) < ((S + 1 : Nat) : Int) ^ (2 : Int).toNat by
    rw [show (2 : Int).toNat = 2 from rfl, Int.pow_succ, Int.pow_succ, Int.pow_zero, Int.one_mul]
    exact_mod_cast r2)]
  walk_at "mp"
  refine square_counts' k _ n hn400 fun s8 E8 => ?_
  rw [wp_neTup]
  walk_at "mp"
  have E28 : Ext s2 s8 := E3.trans (E4.trans (E5.trans (E6.trans (((Ext.push _ _).trans (Ext.push _ _)).trans (E7.trans E8)))))
  have L8 := L.ext (E4.trans (E5.trans (E6.trans (((Ext.push _ _).trans (Ext.push _ _)).trans (E7.trans E8)))))
  clear h4 E3 E4 E5 E6 E7 E8 L h
  by_cases hb : 80 < n
  · refine ite_t (decide_eq_true (by omega)) ?_
    have hS1 : 1 ≤ S := by
      by_cases e : 1 ≤ S
      · exact e
      · have : S = 0 := by omega
        subst this
        omega
    rw [wp_idxT (k := 1) (j := 1) rfl (by omega), BX.sqL_get (by rw [hS]; exact hS1), BX.sqc_one (by omega)]
    walk_at "mp"
    rw [show ((n : Int) == (n : Int)) = true by simp]
    exact q _ (E02.trans E28.b)
  · refine ite_f (decide_eq_false (by omega)) ?_
    have hS8 : S ≤ 8 := by
      by_cases e : S ≤ 8
      · exact e
      · have : 9 * 9 ≤ S * S := Nat.mul_le_mul (by omega) (by omega)
        omega
    rw [wp_sumT, BX.lnL_sum, wp_lenT, l2]
    walk_at "mp"
    rw [wp_rng2 (by omega) (by omega) (by omega) (by omega)]
    refine wp_lcD (S + 1) (fun j => .v (.int (BX.rc n (j + 1)))) (by omega) ?_ (fun s e => by rw [show (((S + 1 : Nat) : Int) + 1 - 1).toNat = S + 1 by omega]; exact rng_end) ?_
    · intro j s e hj
      refine ⟨_, at_rng (by omega), fun R r => ?_⟩
      rw [show (1 + (j : Int) * 1) = ((j + 1 : Nat) : Int) by omega]
      walk_at "mp"
      refine reach (k + 4) s tb n (j + 1) as hn400 (by omega) (by omega) ((L8.ext (Ext.push _ _)).ext e) fun s9 E9 => ?_
      exact r s9 E9
    intro s9 E9 h9
    rw [il_range] at h9
    have hp := E9 _ _ (get_push s8 (O.lst [D.v (V.int (BX.pa n n))]))
    rw [wp_addL hp h9 (by rw [il_length, List.length_map, List.length_range]; simp only [List.length_cons, List.length_nil]; omega)]
    rw [show [D.v (V.int (BX.pa n n))] ++ il ((List.range (S + 1)).map fun j => BX.rc n (j + 1)) = il (BX.pa n n :: (List.range (S + 1)).map fun j => BX.rc n (j + 1)) from rfl]
    have hq := BX.rc_sq (n := n) (by omega)
    rw [hS] at hq
    generalize hX : (BX.pa n n :: (List.range (S + 1)).map fun j => BX.rc n (j + 1)) = X at *
    have hXl : X.length = S + 2 := by rw [← hX]; simp
    rw [wp_repr (toPy_pt 7 _ _) (Txt.ints f2) (by omega)]
    rw [wp_lenT, l2]
    walk_at "mp"
    rw [wp_rng1 (by omega) (by omega)]
    refine wp_lcD (S + 1) (fun i => .v (.int (X.getD i 0 - X.getD (i + 1) 0))) (by omega) ?_ (fun s e => by rw [Int.toNat_natCast]; exact rng_end) ?_
    · intro j s e hj
      refine ⟨_, at_rng (by omega), fun R r => ?_⟩
      rw [show (0 + (j : Int) * 1) = (j : Int) by omega]
      walk_at "mp"
      have hg := e _ _ (get_push s9 (O.lst (il X)))
      rw [wp_idxL hg (j := j) rfl (by omega)]
      rw [wp_idxL hg (j := j + 1) (by omega) (by omega)]
      walk_at "mp"
      exact r s (Ext.refl s)
    intro s10 E10 h10
    rw [il_range, hq] at h10
    rw [wp_tupleL h10, wp_repr (toPy_pt 7 _ _) (Txt.ints f2) (by omega), wp_eqStr (Txt.ints f2).ok]
    walk_at "mp"
    exact q _ (E02.trans (E28.trans ((Ext.push _ _).trans (E9.trans ((Ext.push _ _).trans E10)))).b)
theorem law_true : ∀ ns : List Int, ns.length ≤ 63 → ∃ st', gam Fs 20 "law" [.rl (ns.map D.int)] [] = some (.bl true, st') := by
  intro ns _
  have key : Wp (gam Fs 20 "law" [.rl (ns.map D.int)]) [] fun d _ => d = .v (.bl true) := by
    refine wp_fn nodup (F := f_p_law) (by simp [Fs]) rfl ?_
    show Wp (b_p_law.den _ (startE _ _)) _ _
    unfold b_p_law f_p_law
    rw [st_eq]
    walk_at "mp"
    rw [s_setc]
    walk_at "mp"
    rw [wp_rng1 (by omega) (by omega)]
    refine wp_lc 14 (fun i s => ∃ as : List Nat, s[([] : Store).length]? = some (.lst (as.map D.loc)) ∧ as.length = i ∧ ∀ (j a : Nat), as[j]? = some a → a ≠ ([] : Store).length ∧ s[a]? = some (O.lst (tl (BX.rl 13 j j)))) ⟨[], rfl, rfl, fun j a z => by cases z⟩ (turns_ok (by omega)) ?_ ?_
    · rintro i s hi ⟨as, h1, h2, h3⟩
      refine ⟨_, at_rng hi, ?_⟩
      rw [show (0 + (i : Int) * 1) = (i : Int) by omega]
      walk_at "mp"
      refine rows 13 (by omega) 5 s i i (by omega) (by omega) fun n s1 E1 hn h => ?_
      walk_at "mp"
      have hlt := lt_of_get h1
      refine ⟨_, E1 _ _ h1, below_line (by rw [List.length_map]; omega), as ++ [n], ?_, by rw [List.length_append, h2]; rfl, ?_⟩
      · rw [List.map_append]
        exact get_set (E1 0 _ h1)
      · intro j a z
        by_cases hj : j < as.length
        · rw [List.getElem?_append_left hj] at z
          obtain ⟨g1, g2⟩ := h3 j a z
          exact ⟨g1, get_set_ne (E1 _ _ g2) (fun e => g1 e.symm)⟩
        · rw [List.getElem?_append_right (by omega)] at z
          have hj0 : j - as.length = 0 := by
            have := lt_of_get z
            simp only [List.length_cons, List.length_nil] at this
            omega
          rw [hj0] at z
          cases z
          obtain rfl : j = i := by omega
          exact ⟨by omega, get_set_ne h (by omega)⟩
    · rintro s ⟨as, h1, h2, h3⟩
      refine ⟨rng_end, ?_⟩
      walk_at "mp"
      refine small 13 s _ as ⟨h1, h2, fun j a z => (h3 j a z).2⟩ fun s1 E1 => ?_
      walk_at "mp"
      rw [wp_rng1 (by omega) (by omega)]
      refine wp_lcD 2 (fun _ => .v (.bl true)) (by omega) ?_ (fun s e => rng_end) ?_
      · intro j s e hj
        refine ⟨_, at_rng hj, fun R r => ?_⟩
        rw [show (0 : Int) + (j : Int) * 1 = (j : Int) by omega]
        walk_at "mp"
        refine well 18 s ns j (by omega) fun n s1 E1 W1 hn => ?_
        walk_at "mp"
        refine right 13 s1 n W1 fun s2 E2 => ?_
        walk_at "mp"
        refine r s2 fun m o hm => E2 m o ?_ (E1 _ _ hm)
        have := lt_of_get hm
        omega
      · intro s e h
        rw [wp_allT h]
  obtain ⟨a, s, h, rfl⟩ := key
  exact ⟨s, h⟩
end MP.K

set_option Elab.async false
set_option linter.all false
set_option maxRecDepth 100000
open PySem PySem.W PyProof.Rows in
set_option maxRecDepth 100000 in
set_option maxHeartbeats 0 in
theorem PySem.Challenge.cw_letparts_k23_whole_counts_by_length_and_holds : PySem.Challenge.rw_letparts_k23_whole_counts_by_length_and.Holds := by
  w_on; o_law; k_head; (case hw => w_witness2)
  k_fill
  refine MP.walkM (l := PySem.Challenge.rw_letparts_k23_whole_counts_by_length_and) (n := 63) (k := 20) (x := "_law_script") (g := MP.gam MP.K.Fs 20 "law") rfl (by decide) rfl ⟨rfl, by decide, by decide⟩ (fun w h Y => PySem.W.kIn_of Y) ?F MP.K.law_true
  case F =>
    intro w mg fa h KX G hmg
    refine' MP.K.all_mk (kk := 20) KX G hmg ?a0 ?l0 ?c0 ?k0 ?a1 ?l1 ?c1 ?k1 ?a2 ?l2 ?c2 ?k2 ?a3 ?l3 ?c3 ?k3 ?t3 ?v3 ?a4 ?l4 ?c4 ?k4 ?a5 ?l5 ?c5 ?k5 ?a6 ?l6 ?c6 ?k6 ?a7 ?l7 ?c7 ?k7 ?a8 ?l8 ?c8 ?k8 ?a9 ?l9 ?c9 ?k9 ?a10 ?l10 ?c10 ?k10 ?a11 ?l11 ?c11 ?k11 ?a12 ?l12 ?c12 ?k12 ?a13 ?l13 ?c13 ?k13 ?a14 ?l14 ?c14 ?k14 ?a15 ?l15 ?c15 ?k15 ?a16 ?l16 ?c16 ?k16 ?a17 ?l17 ?c17 ?k17 ?a18 ?l18 ?c18 ?k18 ?z0 ?z1 ?z2 ?z3 ?z4 ?z5 ?z6 ?z7 ?z8 ?z9 ?z10 ?z11 ?z12 ?z13 ?y0
    (case a0 => k_is)
    (case l0 => k_is)
    (case c0 => k_is)
    (case k0 => k_is)
    (case a1 => k_is)
    (case l1 => k_is)
    (case c1 => k_is)
    (case k1 => k_is)
    (case a2 => k_is)
    (case l2 => k_is)
    (case c2 => k_is)
    (case k2 => k_is)
    (case a3 => k_is)
    (case l3 => k_is)
    (case c3 => k_is)
    (case k3 => k_is)
    (case t3 => k_is)
    (case v3 => exact .cons (by first | exact ⟨_, rfl⟩ | rfl) .nil)
    (case a4 => k_is)
    (case l4 => k_is)
    (case c4 => k_is)
    (case k4 => k_is)
    (case a5 => k_is)
    (case l5 => k_is)
    (case c5 => k_is)
    (case k5 => k_is)
    (case a6 => k_is)
    (case l6 => k_is)
    (case c6 => k_is)
    (case k6 => k_is)
    (case a7 => k_is)
    (case l7 => k_is)
    (case c7 => k_is)
    (case k7 => k_is)
    (case a8 => k_is)
    (case l8 => k_is)
    (case c8 => k_is)
    (case k8 => k_is)
    (case a9 => k_is)
    (case l9 => k_is)
    (case c9 => k_is)
    (case k9 => k_is)
    (case a10 => k_is)
    (case l10 => k_is)
    (case c10 => k_is)
    (case k10 => k_is)
    (case a11 => k_is)
    (case l11 => k_is)
    (case c11 => k_is)
    (case k11 => k_is)
    (case a12 => k_is)
    (case l12 => k_is)
    (case c12 => k_is)
    (case k12 => k_is)
    (case a13 => k_is)
    (case l13 => k_is)
    (case c13 => k_is)
    (case k13 => k_is)
    (case a14 => k_is)
    (case l14 => k_is)
    (case c14 => k_is)
    (case k14 => k_is)
    (case a15 => k_is)
    (case l15 => k_is)
    (case c15 => k_is)
    (case k15 => k_is)
    (case a16 => k_is)
    (case l16 => k_is)
    (case c16 => k_is)
    (case k16 => k_is)
    (case a17 => k_is)
    (case l17 => k_is)
    (case c17 => k_is)
    (case k17 => k_is)
    (case a18 => k_is)
    (case l18 => k_is)
    (case c18 => k_is)
    (case k18 => k_is)
    (case z0 => k_is)
    (case z1 => k_is)
    (case z2 => k_is)
    (case z3 => k_is)
    (case z4 => k_is)
    (case z5 => k_is)
    (case z6 => k_is)
    (case z7 => k_is)
    (case z8 => k_is)
    (case z9 => k_is)
    (case z10 => k_is)
    (case z11 => k_is)
    (case z12 => k_is)
    (case z13 => k_is)
    (case y0 => k_is)

