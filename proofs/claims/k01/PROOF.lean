import PyProof.Rows.All
import Wide.All
import OpenK.AllK
import Wide.FinOn
import HandS.Records
import HandS.ForMost
import HandS.TupAny
import HandS.TupMul
import HandS.RevRange
import HandS.IsInst
import HandS.Flow
import HandS.Exc
import HandS.ExcOwn
import HandS.Conv
import HandS.WordsExc
import HandS.ExcIs
import KE.GoesEnum
import HandS.Iter
import KE.DataMinMax
import HandS.Text
import HandS.CallLocal
import HandS.Dict
import HandS.More
import PySem.Challenge.RW_sameticks_k01_sizes
set_option Elab.async false
set_option linter.all false
set_option maxRecDepth 100000
set_option maxHeartbeats 8000000
namespace PySem
open Sem (wp)
/-! ### deques: append, popleft, len -/
theorem dq_e_app : entryFor table "collections.deque.append" = some Builtin.«collections.deque.append» := entryFor_of_tree (by rfl)
theorem dq_e_pop : entryFor table "collections.deque.popleft" = some Builtin.«collections.deque.popleft» := entryFor_of_tree (by rfl)
theorem dq_s_app : Slot "collections.deque" "append" "collections.deque.append" := Slot.of (by rw [typeLookup_type, builtinLookup_eq_fast]; rfl) (by rfl) (by rfl) (by rfl) (.inr (by rfl)) (by rw [isSubtype_type]; rfl)
theorem dq_s_pop : Slot "collections.deque" "popleft" "collections.deque.popleft" := Slot.of (by rw [typeLookup_type, builtinLookup_eq_fast]; rfl) (by rfl) (by rfl) (by rfl) (.inr (by rfl)) (by rw [isSubtype_type]; rfl)
theorem dq_t_app : typeOf (Value.builtin "collections.deque.append") = pure (Value.type "method_descriptor") := by
  show builtinType "collections.deque.append" = _
  rw [builtinType_eq_fast]; rfl
theorem dq_t_pop : typeOf (Value.builtin "collections.deque.popleft") = pure (Value.type "method_descriptor") := by
  show builtinType "collections.deque.popleft" = _
  rw [builtinType_eq_fast]; rfl
theorem dq_pa : PlainAttrs "collections.deque" := ⟨⟨"collections.deque.__getattribute__", by rw [typeLookup_type, builtinLookup_eq_fast]; rfl, by rfl⟩, by rw [typeLookup_type, builtinLookup_eq_fast]; rfl⟩
theorem dq_a_app (a b : Value) : argsOk "collections.deque.append" { pos := [a, b] } := by
  rfl
theorem dq_a_pop (a : Value) : argsOk "collections.deque.popleft" { pos := [a] } := by
  rfl
/-- a deque of these -/
def dqv (n : Int) (us : List Value) : Array Value := #[Value.none, rawInt n] ++ us.toArray
theorem dqv_extract (n : Int) (us : List Value) : (dqv n us).extract 2 = us.toArray := by
  simp [dqv]
theorem dq_change {M : Model} {A : Around} {E : Value → Shared → Prop} {s : Shared} {a : Addr} {n : Int} {us vs : List Value} {f : Array Value → Array Value} (h : s.heap.get? a = some (recObj "collections.deque" (dqv n us))) (hf : f us.toArray = vs.toArray) (hz : vs.length ≤ sizeLine) {Q : Unit → Shared → Prop}
    (hq : ∀ h', h'.get? a = some (recObj "collections.deque" (dqv (n + 1) vs)) → (∀ b o, b ≠ a → s.heap.get? b = some o → h'.get? b = some o) → Q () { heap := h', gens := s.gens, drawn := s.drawn, toks := s.toks, os := s.os }) :
    wpAny M A (Builtin.Deque.change (.ref a) f) Q E s := by
  have hg0 : (dqv n us).getD 0 Value.none = Value.none := by simp [dqv]
  have hg1 : (dqv n us)[1]? = some (rawInt n) := by simp [dqv]
  have hF : (fun vs : Array Value => #[vs.getD 0 Value.none, rawInt (if true = true then n + 1 else n)] ++ f (vs.extract 2)) (dqv n us) = dqv (n + 1) vs := by
    show #[(dqv n us).getD 0 Value.none, rawInt (n + 1)] ++ f ((dqv n us).extract 2) = _
    rw [hg0, dqv_extract, hf]; rfl
  unfold Builtin.Deque.change
  refine wpAny_bind ?_
  unfold Builtin.Deque.state
  refine wpAny_bind (wpAny_field h rfl hg1 ?_)
  refine wpAny_pure ?_
  refine wpAny_updateFields h rfl ?_ ?_
  · refine hq _ ?_ (fun b o hb e => Heap.get?_update_of_ne _ (Ne.symm hb) e)
    rw [Heap.get?_update_self _ h (by rfl)]
    show some (recObj "collections.deque" _) = _
    congr 2
  · show ((fun vs : Array Value => #[vs.getD 0 Value.none, rawInt (if true = true then n + 1 else n)] ++ f (vs.extract 2)) (dqv n us)).size ≤ _
    rw [hF]; simp [dqv]; omega
theorem dq_app_wp {M : Model} {A : Around} {E : Value → Shared → Prop} {s : Shared} {a : Addr} {u : Value} {n : Int} {us : List Value} {Q : Fin → Shared → Prop} (h : s.heap.get? a = some (recObj "collections.deque" (dqv n us))) (hz : us.length < sizeLine)
    (hq : ∀ h', h'.get? a = some (recObj "collections.deque" (dqv (n + 1) (us ++ [u]))) → (∀ b o, b ≠ a → s.heap.get? b = some o → h'.get? b = some o) → Q (Fin.done (Flow.ret .none)) { heap := h', gens := s.gens, drawn := s.drawn, toks := s.toks, os := s.os }) :
    wpAny M A (Builtin.«collections.deque.append» { pos := [.ref a, u] }) Q E s := by
  unfold Builtin.«collections.deque.append»
  rw [selfAndOne.eq_1]
  refine wpAny_bind ?_
  refine wpAny_bind (wpAny_pure ?_)
  refine wpAny_pure ?_
  refine wpAny_bind ?_
  unfold Builtin.Deque.pushRight
  refine wpAny_bind (dq_change (vs := us ++ [u]) h (by simp) (by simp; omega) fun h' h1 h2 => ?_)
  have hg0' : (dqv (n + 1) (us ++ [u]))[0]? = some Value.none := by simp [dqv]
  refine wpAny_bind ?_
  unfold Builtin.Deque.maxlen
  refine wpAny_bind (wpAny_field h1 rfl hg0' ?_)
  refine wpAny_pure ?_
  refine wpAny_pure ?_
  exact wpAny_pure (hq h' h1 h2)
theorem dq_pop_wp {M : Model} {A : Around} {E : Value → Shared → Prop} {s : Shared} {a : Addr} {u : Value} {n : Int} {us : List Value} {Q : Fin → Shared → Prop} (h : s.heap.get? a = some (recObj "collections.deque" (dqv n (u :: us)))) (hz : us.length ≤ sizeLine)
    (hq : ∀ h', h'.get? a = some (recObj "collections.deque" (dqv (n + 1) us)) → (∀ b o, b ≠ a → s.heap.get? b = some o → h'.get? b = some o) → Q (Fin.done (Flow.ret u)) { heap := h', gens := s.gens, drawn := s.drawn, toks := s.toks, os := s.os }) :
    wpAny M A (Builtin.«collections.deque.popleft» { pos := [.ref a] }) Q E s := by
  have h0 : ((dqv n (u :: us)).extract 2)[0]? = some u := by rw [dqv_extract]; simp
  unfold Builtin.«collections.deque.popleft» selfOnly
  refine wpAny_bind ?_
  refine wpAny_bind (wpAny_pure ?_)
  refine wpAny_pure ?_
  refine wpAny_bind ?_
  unfold Builtin.Deque.items
  refine wpAny_bind (wpAny_fieldsOf h rfl ?_)
  refine wpAny_pure ?_
  rw [h0]
  refine wpAny_bind (dq_change (vs := us) h (by simp [Array.eraseIdxIfInBounds]) hz fun h' h1 h2 => ?_)
  exact wpAny_pure (hq h' h1 h2)
theorem dq_len_wp {M : Model} {A : Around} {E : Value → Shared → Prop} {s : Shared} {a : Addr} {n : Int} {us : List Value} {Q : Fin → Shared → Prop} (h : s.heap.get? a = some (recObj "collections.deque" (dqv n us)))
    (hq : Q (Fin.done (Flow.ret (.int us.length s.toks))) { heap := s.heap, gens := s.gens, drawn := s.drawn, toks := s.toks + 1, os := s.os }) :
    wpAny M A (Builtin.«collections.deque.__len__» { pos := [.ref a] }) Q E s := by
  unfold Builtin.«collections.deque.__len__»
  rw [slotArgs.eq_1]
  refine wpAny_bind ?_
  refine wpAny_pure ?_
  refine wpAny_bind ?_
  unfold Builtin.Deque.size
  refine wpAny_bind (wpAny_fieldsOf h rfl ?_)
  refine wpAny_pure ?_
  have : (dqv n us).size - 2 = us.length := by simp [dqv]
  rw [this]
  unfold retInt
  exact wpAny_bind (wpAny_mkInt (wpAny_pure hq))
end PySem
namespace L2
open PySem PySem.Spec PyProof.Rows
section
variable {X : Cx}
/-- a deque of values -/
def DqAt (H : Hp) (a : Addr) (vs : List V) : Prop := ∃ n us, H a = some (RecO a "collections.deque" (dqv n us)) ∧ Vals vs us
theorem dq_ty {pins : List (Addr × Obj)} {σ : St} {H : Hp} {s : Shared} {a : Addr} {n : Int} {us : List Value} (I : Inv X pins σ H s) (h : H a = some (RecO a "collections.deque" (dqv n us))) : s.TypeIs (.ref a) "collections.deque" :=
  (rec_ty (y := .ref a) I rfl ⟨a, _, rfl, h⟩).1
theorem mt_dqapp : MtR X "collections.deque.append" (fun x xs H Q => ∃ a vs y, x = .ref a ∧ xs = [y] ∧ DqAt H a vs ∧ vs.length < sizeLine ∧ ∀ o, (∀ H', H' = upd H a o → DqAt H' a (vs ++ [y]) → Q .non H')) := by
  intro pins s σ H x xs v us Q I rx rxs h
  obtain ⟨a, vs, y, rfl, rfl, ⟨n, ws, hh, hv⟩, hz, hq⟩ := h
  cases rxs with
  | @cons _ u _ _ r1 r2 =>
    cases r2
    obtain rfl : v = Value.ref a := rx
    have ho := I.recO hh
    refine wpAny_call_entry_kw dq_s_app (dq_ty I hh) dq_e_app (dq_app_wp ho (by rw [← hv.length]; exact hz) fun h' h1 h2 => ⟨_, rfl, ?_⟩) (dq_a_app _ _)
    refine ⟨.non, _, I.recW (t' := s.toks) hh h2 h1, rfl, hq _ _ rfl ⟨n + 1, ws ++ [u], upd_same, hv.append (.cons r1 .nil)⟩⟩
theorem mt_dqpop : MtR X "collections.deque.popleft" (fun x xs H Q => ∃ a vs y, x = .ref a ∧ xs = [] ∧ DqAt H a (y :: vs) ∧ vs.length ≤ sizeLine ∧ ∀ o, (∀ H', H' = upd H a o → DqAt H' a vs → Q y H')) := by
  intro pins s σ H x xs v us Q I rx rxs h
  obtain ⟨a, vs, y, rfl, rfl, ⟨n, ws, hh, hv⟩, hz, hq⟩ := h
  cases rxs
  obtain rfl : v = Value.ref a := rx
  cases hv with
  | @cons _ u _ ws r1 r2 =>
    have ho := I.recO hh
    refine wpAny_call_entry_kw dq_s_pop (dq_ty I hh) dq_e_pop (dq_pop_wp ho (by rw [← r2.length]; exact hz) fun h' h1 h2 => ⟨_, rfl, ?_⟩) (dq_a_pop _)
    refine ⟨y, _, I.recW (t' := s.toks) hh h2 h1, r1, hq _ _ rfl ⟨n + 1, ws, upd_same, r2⟩⟩
theorem call_len_dq : CallR X (.builtin "len") (fun xs H Q => ∃ a vs, xs = [.ref a] ∧ DqAt H a vs ∧ vs.length ≤ sizeLine ∧ Q (.int vs.length) H) := by
  intro pins s σ H xs us Q I rxs h
  obtain ⟨a, vs, rfl, ⟨n, ws, hh, hv⟩, hz, hq⟩ := h
  cases rxs with
  | @cons _ u _ _ r1 r2 =>
    cases r2
    obtain rfl : u = Value.ref a := r1
    have ho := I.recO hh
    have hl := hv.length
    refine call_len_slot (n := ws.length) (dq_ty I hh) F.dq_slot_len (fun Q' hq' => wpAny_call_entry_kw F.dq_slot_len (dq_ty I hh) F.dq_entry_len (dq_len_wp ho ⟨_, rfl, hq'⟩) (F.dq_args_len _)) (by omega) (by rw [sizeLine_eq] at hz; omega) ?_
    exact ⟨.int vs.length, H, I.tok _, ⟨_, by rw [hl]⟩, hq⟩
end
end L2
/-! The logic layer: values without addresses, a heap of what can change, and what Python's constructs do to them, as functions. -/
namespace Mi

/-- a value: tuples are their items; what can change is a place in the heap -/
inductive LV where
  | non | bl (b : Bool) | int (i : Int) | str (s : List Nat) | tup (xs : List LV) | loc (n : Nat) | fn (i : Nat)

mutual
def LV.beq : LV → LV → Bool
  | .non, .non => true
  | .bl a, .bl b => a == b
  | .int a, .int b => a == b
  | .str a, .str b => a == b
  | .tup a, .tup b => LV.beqs a b
  | .loc a, .loc b => a == b
  | .fn a, .fn b => a == b
  | _, _ => false
def LV.beqs : List LV → List LV → Bool
  | [], [] => true
  | a :: r, b :: s => LV.beq a b && LV.beqs r s
  | _, _ => false
end
mutual
theorem LV.beq_eq : ∀ {a b : LV}, LV.beq a b = true → a = b
  | .non, .non, _ => rfl
  | .bl a, .bl b, h => by simp [LV.beq] at h; rw [h]
  | .int a, .int b, h => by simp [LV.beq] at h; rw [h]
  | .str a, .str b, h => by simp [LV.beq] at h; rw [h]
  | .tup a, .tup b, h => by rw [LV.beq] at h; rw [LV.beqs_eq h]
  | .loc a, .loc b, h => by simp [LV.beq] at h; rw [h]
  | .fn a, .fn b, h => by simp [LV.beq] at h; rw [h]
  | .non, .bl _, h | .non, .int _, h | .non, .str _, h | .non, .tup _, h | .non, .loc _, h | .non, .fn _, h => by simp [LV.beq] at h
  | .bl _, .non, h | .bl _, .int _, h | .bl _, .str _, h | .bl _, .tup _, h | .bl _, .loc _, h | .bl _, .fn _, h => by simp [LV.beq] at h
  | .int _, .non, h | .int _, .bl _, h | .int _, .str _, h | .int _, .tup _, h | .int _, .loc _, h | .int _, .fn _, h => by simp [LV.beq] at h
  | .str _, .non, h | .str _, .bl _, h | .str _, .int _, h | .str _, .tup _, h | .str _, .loc _, h | .str _, .fn _, h => by simp [LV.beq] at h
  | .tup _, .non, h | .tup _, .bl _, h | .tup _, .int _, h | .tup _, .str _, h | .tup _, .loc _, h | .tup _, .fn _, h => by simp [LV.beq] at h
  | .loc _, .non, h | .loc _, .bl _, h | .loc _, .int _, h | .loc _, .str _, h | .loc _, .tup _, h | .loc _, .fn _, h => by simp [LV.beq] at h
  | .fn _, .non, h | .fn _, .bl _, h | .fn _, .int _, h | .fn _, .str _, h | .fn _, .tup _, h | .fn _, .loc _, h => by simp [LV.beq] at h
theorem LV.beqs_eq : ∀ {a b : List LV}, LV.beqs a b = true → a = b
  | [], [], _ => rfl
  | a :: r, b :: s, h => by
    rw [LV.beqs, Bool.and_eq_true] at h
    rw [LV.beq_eq h.1, LV.beqs_eq h.2]
  | [], _ :: _, h => by simp [LV.beqs] at h
  | _ :: _, [], h => by simp [LV.beqs] at h
end
mutual
theorem LV.beq_refl : ∀ a : LV, LV.beq a a = true
  | .non => rfl
  | .bl a => by simp [LV.beq]
  | .int a => by simp [LV.beq]
  | .str a => by simp [LV.beq]
  | .tup a => by rw [LV.beq]; exact LV.beqs_refl a
  | .loc a => by simp [LV.beq]
  | .fn a => by simp [LV.beq]
theorem LV.beqs_refl : ∀ a : List LV, LV.beqs a a = true
  | [] => rfl
  | a :: r => by rw [LV.beqs, LV.beq_refl a, LV.beqs_refl r]; rfl
end
instance : DecidableEq LV := fun a b =>
  if h : LV.beq a b = true then isTrue (LV.beq_eq h) else isFalse fun e => h (e ▸ LV.beq_refl a)

abbrev LKey := Sum Int (List Nat)
/-- what stands at a place -/
inductive LO where
  | lst (xs : List LV)
  /-- a list that is only read -/
  | rol (xs : List LV)
  | dct (kvs : List (LKey × LV))
  /-- a dict whose keys are tuples -/
  | dtt (kvs : List (List LKey × LV))
  | ins (c : Nat) (fs : List (List Nat × LV))
  | deq (xs : List LV)
  /-- an error that is held -/
  | exo
  deriving DecidableEq
abbrev LH := List LO
abbrev LSt := List (Option LV)
/-- an error that was raised: its class, its fields -/
structure LX where
  cls : Nat
  fs : List (List Nat × LV)
  deriving DecidableEq

inductive R (α : Type) where
  | ok (a : α) (h : LH) | exc (x : LX) (h : LH) | bad
/-- where nothing may be raised -/
def R.nox {α : Type} : R α → R α
  | .exc _ _ => .bad
  | r => r
def R.bind {α β : Type} : R α → (α → LH → R β) → R β
  | .ok a h, f => f a h
  | .exc x h, _ => .exc x h
  | .bad, _ => .bad
/-- what a statement comes to -/
inductive O where
  | nx (σ : LSt) (h : LH) | rt (v : LV) (h : LH) | bk (σ : LSt) (h : LH) | ct (σ : LSt) (h : LH) | exc (x : LX) (σ : LSt) (h : LH) | bad
def R.st {α : Type} (r : R α) (σ : LSt) (k : α → LH → O) : O := match r with
  | .ok a h => k a h
  | .exc x h => .exc x σ h
  | .bad => .bad

abbrev ME := LSt → LH → R LV
abbrev MB := LSt → LH → R Bool
abbrev MA := LSt → LH → R (List LV)
abbrev MS := LSt → LH → O
/-- how a def is called -/
abbrev Or := Nat → List LV → LH → R LV
abbrev szL : Nat := 16777216

/-! ### expressions -/
def mVar (i : Nat) : ME := fun σ h => match σ[i]? with
  | some (some v) => .ok v h
  | _ => .bad
def mC (v : LV) : ME := fun _ h => .ok v h
def mOp (f : LV → LV → LH → R LV) (a b : ME) : ME := fun σ h => (a σ h).bind fun x h1 => (b σ h1).bind fun y h2 => f x y h2
def mUn (f : LV → LH → R LV) (a : ME) : ME := fun σ h => (a σ h).bind f
def aNil : MA := fun _ h => .ok [] h
def aCons (a : ME) (r : MA) : MA := fun σ h => (a σ h).bind fun x h1 => (r σ h1).bind fun xs h2 => .ok (x :: xs) h2
def mB (f : List LV → LH → R LV) (a : MA) : ME := fun σ h => (a σ h).bind f
def mTup (a : MA) : ME := fun σ h => (a σ h).bind fun xs h1 => if xs.length ≤ szL then .ok (.tup xs) h1 else .bad
def mLst (a : MA) : ME := fun σ h => (a σ h).bind fun xs h1 => if xs.length ≤ szL then .ok (.loc h1.length) (h1 ++ [.lst xs]) else .bad
def mDct : ME := fun _ h => .ok (.loc h.length) (h ++ [.dct []])

/-- a value's truth -/
def tru : LV → LH → R Bool
  | .non, h => .ok false h
  | .bl b, h => .ok b h
  | .int i, h => .ok (i != 0) h
  | .str s, h => if s.length ≤ szL then .ok (!s.isEmpty) h else .bad
  | .tup xs, h => .ok (!xs.isEmpty) h
  | .loc n, h => match h[n]? with
    | some (.lst xs) => .ok (!xs.isEmpty) h
    | some (.rol xs) => .ok (!xs.isEmpty) h
    | some (.dct kvs) => .ok (!kvs.isEmpty) h
    | _ => .bad
  | _, _ => .bad
def bE (a : ME) : MB := fun σ h => (a σ h).bind tru
def bNot (a : MB) : MB := fun σ h => (a σ h).bind fun c h1 => .ok (!c) h1
def bAnd (a b : MB) : MB := fun σ h => (a σ h).bind fun c h1 => if c then b σ h1 else .ok false h1
def bOr (a b : MB) : MB := fun σ h => (a σ h).bind fun c h1 => if c then .ok true h1 else b σ h1
def mAnd (a b : ME) : ME := fun σ h => (a σ h).bind fun x h1 => (tru x h1).bind fun c h2 => if c then b σ h2 else .ok x h2
def mOr (a b : ME) : ME := fun σ h => (a σ h).bind fun x h1 => (tru x h1).bind fun c h2 => if c then .ok x h2 else b σ h2
def mNot (a : ME) : ME := fun σ h => (a σ h).bind fun x h1 => (tru x h1).bind fun c h2 => .ok (.bl (!c)) h2
def mIf (t : MB) (a b : ME) : ME := fun σ h => (t σ h).bind fun c h1 => if c then a σ h1 else b σ h1

/-! ### operators -/
/-- a list that is read -/
def rdL (n : Nat) (h : LH) : Option (List LV) := match h[n]? with
  | some (.lst xs) => some xs
  | some (.rol xs) => some xs
  | _ => none
def small (i : Int) : Bool := decide (-(2 ^ 64) < i) && decide (i < 2 ^ 64)
def opAdd : LV → LV → LH → R LV
  | .int i, .int j, h => .ok (.int (i + j)) h
  | .str a, .str b, h => if a.length + b.length ≤ szL then .ok (.str (a ++ b)) h else .bad
  | .tup a, .tup b, h => if a.length + b.length ≤ szL then .ok (.tup (a ++ b)) h else .bad
  | .loc a, .loc b, h => match h[a]?, h[b]? with
    | some (.lst xs), some (.lst ys) => if xs.length + ys.length ≤ szL then .ok (.loc h.length) (h ++ [.lst (xs ++ ys)]) else .bad
    | _, _ => .bad
  | _, _, _ => .bad
def opIAdd : LV → LV → LH → R LV
  | .int i, .int j, h => .ok (.int (i + j)) h
  | .str a, .str b, h => if a.length + b.length ≤ szL then .ok (.str (a ++ b)) h else .bad
  | .tup a, .tup b, h => if a.length + b.length ≤ szL then .ok (.tup (a ++ b)) h else .bad
  | _, _, _ => .bad
def opSub : LV → LV → LH → R LV
  | .int i, .int j, h => .ok (.int (i - j)) h
  | _, _, _ => .bad
def opMul : LV → LV → LH → R LV
  | .int i, .int j, h => if small i || small j then .ok (.int (i * j)) h else .bad
  | .tup xs, .int k, h => if -16777216 ≤ k ∧ k ≤ 1000 ∧ xs.length ≤ 1000 then .ok (.tup (List.replicate k.toNat xs).flatten) h else .bad
  | .loc a, .int k, h => match h[a]? with
    | some (.lst xs) => if -(2 ^ 63) ≤ k ∧ k < 2 ^ 63 ∧ xs.length * k.toNat ≤ szL then .ok (.loc h.length) (h ++ [.lst (List.replicate k.toNat xs).flatten]) else .bad
    | _ => .bad
  | _, _, _ => .bad
def opMod : LV → LV → LH → R LV
  | .int i, .int j, h => if 0 < j then .ok (.int (i % j)) h else .bad
  | _, _, _ => .bad
def opDiv : LV → LV → LH → R LV
  | .int i, .int j, h => if 0 < j ∧ j < 1073741824 then .ok (.int (i / j)) h else .bad
  | _, _, _ => .bad
def opPow : LV → LV → LH → R LV
  | .int i, .int j, h => if 0 ≤ j ∧ j ≤ 1000000 ∧ i.natAbs < 2 ^ 64 then .ok (.int (i ^ j.toNat)) h else .bad
  | _, _, _ => .bad
def opNeg : LV → LH → R LV
  | .int i, h => .ok (.int (-i)) h
  | _, _ => .bad
/-- == of what is no tuple, list or object -/
def scalE : LV → LV → Option Bool
  | .non, .non => some true
  | .non, .int _ => some false
  | .int _, .non => some false
  | .non, .bl _ => some false
  | .bl _, .non => some false
  | .non, .str _ => some false
  | .str _, .non => some false
  | .int i, .int j => some (decide (i = j))
  | .bl i, .bl j => some (decide (i = j))
  | .str i, .str j => some (decide (i = j))
  | .int _, .str _ => some false
  | .str _, .int _ => some false
  | .bl _, .str _ => some false
  | .str _, .bl _ => some false
  | _, _ => none
mutual
/-- == of data, as Python has it -/
def LV.eqv : LV → LV → Bool
  | .non, .non => true
  | .bl a, .bl b => a == b
  | .bl a, .int j => (if a then 1 else 0) == j
  | .int i, .bl b => i == (if b then 1 else 0)
  | .int i, .int j => i == j
  | .str a, .str b => a == b
  | .tup a, .tup b => LV.eqvs a b
  | _, _ => false
def LV.eqvs : List LV → List LV → Bool
  | [], [] => true
  | a :: r, b :: s => LV.eqv a b && LV.eqvs r s
  | _, _ => false
end
mutual
/-- data: no places, no functions; texts of signs; at most d deep -/
def LV.dat : Nat → LV → Bool
  | _, .non => true
  | _, .bl _ => true
  | _, .int _ => true
  | _, .str s => s.all fun c => decide (c < 1114112)
  | d, .tup xs => match d with
    | 0 => false
    | d + 1 => LV.dats d xs
  | _, _ => false
def LV.dats : Nat → List LV → Bool
  | _, [] => true
  | d, x :: r => LV.dat d x && LV.dats d r
end
def eqD (x y : LV) : Option Bool := match scalE x y with
  | some b => some b
  | none => if LV.dat 64 x && LV.dat 64 y then some (LV.eqv x y) else none
def opEq (x y : LV) (h : LH) : R LV := match eqD x y with
  | some b => .ok (.bl b) h
  | none => .bad
def opNe (x y : LV) (h : LH) : R LV := match eqD x y with
  | some b => .ok (.bl (!b)) h
  | none => .bad
def opCmp (p : Int → Int → Bool) : LV → LV → LH → R LV
  | .int i, .int j, h => .ok (.bl (p i j)) h
  | _, _, _ => .bad
abbrev opLt := opCmp fun i j => decide (i < j)
abbrev opLe := opCmp fun i j => decide (i ≤ j)
abbrev opGt := opCmp fun i j => decide (j < i)
abbrev opGe := opCmp fun i j => decide (j ≤ i)
def isN : LV → Bool
  | .non => true
  | _ => false
def opIsN (x : LV) (h : LH) : R LV := .ok (.bl (isN x)) h
def opNotN (x : LV) (h : LH) : R LV := .ok (.bl (!isN x)) h
/-- a op1 b op2 c -/
def mChain (f g : LV → LV → LH → R LV) (a b c : ME) : ME := fun σ h => (a σ h).bind fun x h1 => (b σ h1).bind fun y h2 => (f x y h2).bind fun z h3 => match z with
  | .bl true => (c σ h3).bind fun w h4 => g y w h4
  | .bl false => .ok (.bl false) h3
  | _ => .bad

/-! ### subscripts -/
def ixL (n : Nat) (i : Int) : Option Nat := if 0 ≤ i then (if i < n then some i.toNat else none) else if -(n : Int) ≤ i then some (i + n).toNat else none
def kget (kvs : List (LKey × LV)) (k : LKey) : Option LV := (kvs.find? fun kv => decide (kv.1 = k)).map (·.2)
def kput (kvs : List (LKey × LV)) (k : LKey) (v : LV) : List (LKey × LV) :=
  if (kvs.any fun kv => decide (kv.1 = k)) = true then kvs.map (fun kv => if kv.1 = k then (kv.1, v) else kv) else kvs ++ [(k, v)]
def keyOf : LV → Option LKey
  | .int i => some (.inl i)
  | .str s => some (.inr s)
  | _ => none
def opIx : LV → LV → LH → R LV
  | .tup xs, .int i, h => match (ixL xs.length i).bind fun j => xs[j]? with
    | some v => .ok v h
    | none => .bad
  | .str s, .int i, h => match (ixL s.length i).bind fun j => s[j]? with
    | some c => if s.length ≤ szL then .ok (.str [c]) h else .bad
    | none => .bad
  | .loc n, k, h => match h[n]? with
    | some (.lst xs) => match k with
      | .int i => match (ixL xs.length i).bind fun j => xs[j]? with
        | some v => .ok v h
        | none => .bad
      | _ => .bad
    | some (.rol xs) => match k with
      | .int i => match (ixL xs.length i).bind fun j => xs[j]? with
        | some v => .ok v h
        | none => .bad
      | _ => .bad
    | some (.dct kvs) => match (keyOf k).bind (kget kvs) with
      | some v => .ok v h
      | none => .bad
    | _ => .bad
  | _, _, _ => .bad
/-- where a slice begins, ends -/
def sIx (n d : Nat) : Option Int → Nat
  | none => d
  | some i => if 0 ≤ i then min i.toNat n else (n + i).toNat
def cutL {α : Type} (xs : List α) (lo hi : Option Int) : List α := (xs.drop (sIx xs.length 0 lo)).take (sIx xs.length xs.length hi - sIx xs.length 0 lo)
abbrev MO := LSt → LH → R (Option Int)
def oNone : MO := fun _ h => .ok none h
def oSome (a : ME) : MO := fun σ h => (a σ h).bind fun x h1 => match x with
  | .int i => .ok (some i) h1
  | _ => .bad
def opSl : LV → Option Int → Option Int → LH → R LV
  | .tup xs, lo, hi, h => .ok (.tup (cutL xs lo hi)) h
  | .loc n, lo, hi, h => match rdL n h with
    | some xs => .ok (.loc h.length) (h ++ [.lst (cutL xs lo hi)])
    | none => .bad
  | _, _, _, _ => .bad
def mSl (a : ME) (lo hi : MO) : ME := fun σ h => (a σ h).bind fun x h1 => (lo σ h1).bind fun i h2 => (hi σ h2).bind fun j h3 => opSl x i j h3

/-! ### built-ins -/
def fLen : List LV → LH → R LV
  | [.tup xs], h => .ok (.int xs.length) h
  | [.str s], h => if s.length ≤ szL then .ok (.int s.length) h else .bad
  | [.loc n], h => match h[n]? with
    | some (.lst xs) => .ok (.int xs.length) h
    | some (.rol xs) => .ok (.int xs.length) h
    | some (.dct kvs) => .ok (.int kvs.length) h
    | _ => .bad
  | _, _ => .bad
def fInt : List LV → LH → R LV
  | [.int i], h => .ok (.int i) h
  | [.bl b], h => .ok (.int (if b then 1 else 0)) h
  | _, _ => .bad
def fTuple : List LV → LH → R LV
  | [.tup xs], h => .ok (.tup xs) h
  | [.loc n], h => match rdL n h with
    | some xs => .ok (.tup xs) h
    | none => .bad
  | _, _ => .bad
def fList : List LV → LH → R LV
  | [.tup xs], h => .ok (.loc h.length) (h ++ [.lst xs])
  | [.loc n], h => match rdL n h with
    | some xs => .ok (.loc h.length) (h ++ [.lst xs])
    | none => .bad
  | _, _ => .bad
def bls : List LV → Option (List Bool)
  | [] => some []
  | .bl b :: r => (bls r).map (b :: ·)
  | _ :: _ => none
def fAll : List LV → LH → R LV
  | [.loc n], h => match (rdL n h).bind bls with
    | some bs => .ok (.bl (bs.all id)) h
    | none => .bad
  | _, _ => .bad
def fAny : List LV → LH → R LV
  | [.loc n], h => match (rdL n h).bind bls with
    | some bs => .ok (.bl (bs.any id)) h
    | none => .bad
  | _, _ => .bad
/-- isinstance(x, int | str | tuple | bool | list) -/
inductive Ty where
  | int | str | tuple | bool | list
  deriving DecidableEq
def isTy (t : Ty) : LV → LH → R LV
  | .non, h => .ok (.bl false) h
  | .bl _, h => .ok (.bl (decide (t = .bool) || decide (t = .int))) h
  | .int _, h => .ok (.bl (decide (t = .int))) h
  | .str _, h => .ok (.bl (decide (t = .str))) h
  | .tup _, h => .ok (.bl (decide (t = .tuple))) h
  | .loc n, h => match h[n]? with
    | some (.lst _) => .ok (.bl (decide (t = .list))) h
    | _ => .bad
  | _, _ => .bad
/-- the texts of a list of texts, the numbers of one of numbers -/
def strsL : List LV → Option (List (List Nat))
  | [] => some []
  | .str s :: r => (strsL r).map (s :: ·)
  | _ :: _ => none
def intsL : List LV → Option (List Int)
  | [] => some []
  | .int i :: r => (intsL r).map (i :: ·)
  | _ :: _ => none
/-- x in a tuple or list of texts; one sign in a text -/
def memL (x : LV) (xs : List LV) : Option Bool := match x, strsL xs with
  | .str s, some ws => some (decide (s ∈ ws))
  | _, _ => none
def inB (x y : LV) (h : LH) : Option Bool := match y with
  | .tup xs => memL x xs
  | .loc n => (rdL n h).bind (memL x)
  | .str t => match x with
    | .str [c] => some (decide (c ∈ t))
    | _ => none
  | _ => none
def opIn (x y : LV) (h : LH) : R LV := match inB x y h with
  | some b => .ok (.bl b) h
  | none => .bad
def opNotIn (x y : LV) (h : LH) : R LV := match inB x y h with
  | some b => .ok (.bl (!b)) h
  | none => .bad
/-- max of one tuple or list of numbers -/
def maxI (ns : List Int) : Option Int := match ns with
  | [] => none
  | n :: r => some (r.foldl max n)
def fMax1 : List LV → LH → R LV
  | [.tup xs], h => match (intsL xs).bind maxI with
    | some m => .ok (.int m) h
    | none => .bad
  | [.loc n], h => match ((rdL n h).bind intsL).bind maxI with
    | some m => .ok (.int m) h
    | none => .bad
  | _, _ => .bad
/-- sum of a list of numbers -/
def fSum : List LV → LH → R LV
  | [.loc n], h => match (rdL n h).bind intsL with
    | some ns => .ok (.int ns.sum) h
    | none => .bad
  | _, _ => .bad
def fMax2 : List LV → LH → R LV
  | [.int i, .int j], h => .ok (.int (if j > i then j else i)) h
  | _, _ => .bad
def fMin2 : List LV → LH → R LV
  | [.int i, .int j], h => .ok (.int (if j < i then j else i)) h
  | _, _ => .bad
/-- sep.join of a list or tuple of texts -/
def joinS (s : List Nat) : List (List Nat) → List Nat
  | [] => []
  | [p] => p
  | p :: q :: r => p ++ (s ++ joinS s (q :: r))
def opJoin (x y : LV) (h : LH) : R LV := match x, (match y with
    | .tup xs => strsL xs
    | .loc n => (rdL n h).bind strsL
    | _ => none) with
  | .str s, some ws => if (ws.map (·.length)).sum + ws.length * s.length ≤ 16777216 then .ok (.str (joinS s ws)) h else .bad
  | _, _ => .bad
/-- a call of a def that a name holds: one of those that may be held -/
def mCallV (C : Or) (is : List Nat) (a : ME) (r : MA) : ME := fun σ h => (a σ h).bind fun f h1 => match f with
  | .fn i => if i ∈ is then (r σ h1).bind fun xs h2 => C i xs h2 else .bad
  | _ => .bad
/-! ### methods of lists and dicts -/
def mtAppend (x : LV) (vs : List LV) (h : LH) : R LV := match x, vs with
  | .loc n, [y] => match h[n]? with
    | some (.lst xs) => if xs.length < szL then .ok .non (h.set n (.lst (xs ++ [y]))) else .bad
    | _ => .bad
  | _, _ => .bad
def mtExtend (x : LV) (vs : List LV) (h : LH) : R LV := match x, vs with
  | .loc n, [.loc m] => match h[n]?, h[m]? with
    | some (.lst xs), some (.lst ys) => if xs.length + ys.length ≤ szL then .ok .non (h.set n (.lst (xs ++ ys))) else .bad
    | _, _ => .bad
  | _, _ => .bad
def mtGet2 (x : LV) (vs : List LV) (h : LH) : R LV := match x, vs with
  | .loc n, [k, d] => match h[n]?, keyOf k with
    | some (.dct kvs), some k => .ok ((kget kvs k).getD d) h
    | _, _ => .bad
  | _, _ => .bad
def isLst (x : LV) (h : LH) : Bool := match x with
  | .loc n => match h[n]? with
    | some (.lst _) => true
    | _ => false
  | _ => false
def isDct (x : LV) (h : LH) : Bool := match x with
  | .loc n => match h[n]? with
    | some (.dct _) => true
    | _ => false
  | _ => false
def mM (chk : LV → LH → Bool) (f : LV → List LV → LH → R LV) (a : ME) (r : MA) : ME := fun σ h => (a σ h).bind fun x h1 => if chk x h1 then (r σ h1).bind fun xs h2 => f x xs h2 else .bad
/-- a call of a def -/
def mCall (C : Or) (i : Nat) (a : MA) : ME := fun σ h => (a σ h).bind fun xs h1 => C i xs h1

/-! ### what a for walks -/
/-- the items, and what must stay as it is -/
abbrev MI := LSt → LH → R (List LV × (LH → Bool))
def always : LH → Bool := fun _ => true
def iTupL (a : ME) : MI := fun σ h => (a σ h).bind fun x h1 => match x with
  | .tup xs => .ok (xs, always) h1
  | _ => .bad
def keepsL (n : Nat) (xs : List LV) : LH → Bool := fun h => decide (rdL n h = some xs)
def iLstL (a : ME) : MI := fun σ h => (a σ h).bind fun x h1 => match x with
  | .loc n => match rdL n h1 with
    | some xs => .ok (xs, keepsL n xs) h1
    | none => .bad
  | _ => .bad
def iStrL (a : ME) : MI := fun σ h => (a σ h).bind fun x h1 => match x with
  | .str s => .ok (s.map fun c => .str [c], always) h1
  | _ => .bad
/-- a tuple, or a list -/
def iSeqL (a : ME) : MI := fun σ h => (a σ h).bind fun x h1 => match x with
  | .tup xs => .ok (xs, always) h1
  | .loc n => match rdL n h1 with
    | some xs => .ok (xs, keepsL n xs) h1
    | none => .bad
  | .str s => .ok (s.map fun c => .str [c], always) h1
  | _ => .bad
def rng (lo : Int) (n : Nat) : List LV := (List.range n).map fun (k : Nat) => .int (lo + (k : Int))
def big (i : Int) : Bool := decide (-(2 ^ 62) ≤ i) && decide (i < 2 ^ 62)
def iRange1 (a : ME) : MI := fun σ h => (a σ h).bind fun x h1 => match x with
  | .int j => if big j then .ok (rng 0 j.toNat, always) h1 else .bad
  | _ => .bad
def iRange2 (a b : ME) : MI := fun σ h => (a σ h).bind fun x h1 => (b σ h1).bind fun y h2 => match x, y with
  | .int i, .int j => if big i && big j then .ok (rng i (j - i).toNat, always) h2 else .bad
  | _, _ => .bad
def iRevRange1 (a : ME) : MI := fun σ h => (a σ h).bind fun x h1 => match x with
  | .int j => if big j then .ok ((rng 0 j.toNat).reverse, always) h1 else .bad
  | _ => .bad

/-- the pairs of enumerate -/
def enumL (i : Nat) : List LV → List LV
  | [] => []
  | x :: r => .tup [.int (i : Int), x] :: enumL (i + 1) r
def iEnumL (a : ME) : MI := fun σ h => (a σ h).bind fun x h1 => match x with
  | .tup xs => .ok (enumL 0 xs, always) h1
  | _ => .bad

/-! ### statements -/
def sNext : MS := fun σ h => .nx σ h
def sSeq (s t : MS) : MS := fun σ h => match s σ h with
  | .nx σ1 h1 => t σ1 h1
  | o => o
def sExpr (a : ME) : MS := fun σ h => (a σ h).st σ fun _ h1 => .nx σ h1
def sRet (a : ME) : MS := fun σ h => (a σ h).st σ fun x h1 => .rt x h1
def sRetN : MS := fun _ h => .rt .non h
def sBreak : MS := fun σ h => .bk σ h
def sCont : MS := fun σ h => .ct σ h
def sIf (t : MB) (a b : MS) : MS := fun σ h => (t σ h).st σ fun c h1 => if c then a σ h1 else b σ h1
def sSet (i : Nat) (a : ME) : MS := fun σ h => (a σ h).st σ fun x h1 => .nx (σ.set i (some x)) h1
def sAug (f : LV → LV → LH → R LV) (i : Nat) (a : ME) : MS := fun σ h => (mVar i σ h).st σ fun x h1 => (a σ h1).st σ fun y h2 => (f x y h2).st σ fun z h3 => .nx (σ.set i (some z)) h3
def stIx (o k v : LV) (h : LH) : R Unit := match o with
  | .loc n => match h[n]? with
    | some (.lst xs) => match k with
      | .int i => match ixL xs.length i with
        | some j => .ok () (h.set n (.lst (xs.set j v)))
        | none => .bad
      | _ => .bad
    | some (.dct kvs) => match keyOf k with
      | some k => if kvs.length < szL then .ok () (h.set n (.dct (kput kvs k v))) else .bad
      | none => .bad
    | _ => .bad
  | _ => .bad
/-- o[k] = a: a first, then o, k -/
def sSub (o k a : ME) : MS := fun σ h => (a σ h).st σ fun v h1 => (o σ h1).st σ fun x h2 => (k σ h2).st σ fun y h3 => (stIx x y v h3).st σ fun _ h4 => .nx σ h4
/-- what a loop's item is bound to -/
abbrev MG := LV → LSt → Option LSt
def gNm (i : Nat) : MG := fun v σ => some (σ.set i (some v))
def setS : List Nat → List LV → LSt → LSt
  | i :: is, x :: xs, σ => setS is xs (σ.set i (some x))
  | _, _, σ => σ
/-- a, b = .. -/
def gTp (js : List Nat) : MG := fun v σ => match v with
  | .tup xs => if xs.length = js.length then some (setS js xs σ) else none
  | _ => none
def forM (chk : LH → Bool) (g : MG) (body : MS) : List LV → MS
  | [], σ, h => if chk h then .nx σ h else .bad
  | x :: xs, σ, h => if chk h then match g x σ with
    | none => .bad
    | some σ1 => match body σ1 h with
      | .nx σ2 h2 => forM chk g body xs σ2 h2
      | .ct σ2 h2 => forM chk g body xs σ2 h2
      | .bk σ2 h2 => .nx σ2 h2
      | o => o
    else .bad
def sFor (it : MI) (g : MG) (body : MS) : MS := fun σ h => (it σ h).st σ fun w h1 => forM w.2 g body w.1 σ h1
def whileM (t : MB) (body : MS) : Nat → MS
  | 0, _, _ => .bad
  | n + 1, σ, h => (t σ h).st σ fun c h1 => if c then match body σ h1 with
      | .nx σ2 h2 => whileM t body n σ2 h2
      | .ct σ2 h2 => whileM t body n σ2 h2
      | .bk σ2 h2 => .nx σ2 h2
      | o => o
    else .nx σ h1
/-- [e for x in it if t]: the slots vs are the comprehension's own; D is the place of the new list -/
def wipeL (σ : LSt) : List Nat → LSt
  | [] => σ
  | v :: vs => (wipeL σ vs).set v none
def lcM (chk : LH → Bool) (g : MG) (t : MB) (e : ME) (σ : LSt) (D : Nat) : List LV → LH → R Unit
  | [], h => if chk h then .ok () h else .bad
  | x :: xs, h => if chk h then match g x σ with
    | none => .bad
    | some σ1 => (t σ1 h).nox.bind fun c h1 => if c then (e σ1 h1).nox.bind fun v h2 => match h2[D]? with
        | some (.lst ys) => if ys.length < szL then lcM chk g t e σ D xs (h2.set D (.lst (ys ++ [v]))) else .bad
        | _ => .bad
      else lcM chk g t e σ D xs h1
    else .bad
def mLc (it : MI) (g : MG) (t : MB) (e : ME) (vs : List Nat) : ME := fun σ h => (it σ h).bind fun w h1 =>
  (lcM w.2 g t e (wipeL σ vs) h1.length w.1 (h1 ++ [.lst []])).nox.bind fun _ h2 => .ok (.loc h1.length) h2
def bYes : MB := fun _ h => .ok true h

/-! ### dicts whose keys are tuples: the key is written where it is used -/
def tkeys : List LV → Option (List LKey)
  | [] => some []
  | x :: r => match keyOf x, tkeys r with
    | some k, some ks => some (k :: ks)
    | _, _ => none
def tget (kvs : List (List LKey × LV)) (ks : List LKey) : Option LV := (kvs.find? fun kv => decide (kv.1 = ks)).map (·.2)
def inT (xs : List LV) (d : LV) (h : LH) : R LV := match tkeys xs, d with
  | some ks, .loc n => match h[n]? with
    | some (.dtt kvs) => .ok (.bl (tget kvs ks).isSome) h
    | _ => .bad
  | _, _ => .bad
/-- (..) in d -/
def mInT (ta : MA) (md : ME) : ME := fun σ h => (ta σ h).bind fun xs h1 => if xs.length ≤ szL then (md σ h1).bind fun d h2 => inT xs d h2 else .bad
def ixT (d : LV) (xs : List LV) (h : LH) : R LV := match tkeys xs, d with
  | some ks, .loc n => match h[n]? with
    | some (.dtt kvs) => match tget kvs ks with
      | some v => .ok v h
      | none => .bad
    | _ => .bad
  | _, _ => .bad
/-- d[(..)] -/
def mIxT (md : ME) (ta : MA) : ME := fun σ h => (md σ h).bind fun d h1 => (ta σ h1).bind fun xs h2 => if xs.length ≤ szL then ixT d xs h2 else .bad
/-- {(..): v} -/
def mDspT (ta : MA) (mv : ME) : ME := fun σ h => (ta σ (h ++ [.dtt []])).bind fun xs h1 => if xs.length ≤ szL then (mv σ h1).bind fun v h2 => match tkeys xs, h2[h.length]? with
  | some ks, some (.dtt []) => .ok (.loc h.length) (h2.set h.length (.dtt [(ks, v)]))
  | _, _ => .bad else .bad
/-! ### instances of own classes -/
def fput (f : List Nat) (v : LV) : List (List Nat × LV) → List (List Nat × LV)
  | [] => [(f, v)]
  | (g, x) :: r => if g = f then (g, v) :: r else (g, x) :: fput f v r
/-- o.f, o of one of the classes cs -/
def opFld (cs : List Nat) (f : List Nat) (x : LV) (h : LH) : R LV := match x with
  | .loc n => match h[n]? with
    | some (.ins c fs) => if c ∈ cs then match fs.lookup f with
      | some v => .ok v h
      | none => .bad
      else .bad
    | _ => .bad
  | _ => .bad
def stFld (cs : List Nat) (f : List Nat) (x v : LV) (h : LH) : R Unit := match x with
  | .loc n => match h[n]? with
    | some (.ins c fs) => if c ∈ cs ∧ fs.length < 1000 then .ok () (h.set n (.ins c (fput f v fs))) else .bad
    | _ => .bad
  | _ => .bad
/-- o.f = a: a first -/
def sFld (cs : List Nat) (f : List Nat) (o a : ME) : MS := fun σ h => (a σ h).st σ fun v h1 => (o σ h1).st σ fun x h2 => (stFld cs f x v h2).st σ fun _ h3 => .nx σ h3
def clsAt (x : LV) (h : LH) : Option Nat := match x with
  | .loc n => match h[n]? with
    | some (.ins c _) => some c
    | _ => none
  | _ => none
/-- o.f op= a -/
def sFldAug (cs : List Nat) (f : List Nat) (g : LV → LV → LH → R LV) (o a : ME) : MS := fun σ h => (o σ h).st σ fun x h1 => (opFld cs f x h1).st σ fun v h2 => (a σ h2).st σ fun w h3 => (g v w h3).st σ fun z h4 => if clsAt x h1 = clsAt x h4 then (stFld cs f x z h4).st σ fun _ h5 => .nx σ h5 else .bad
/-- which def a method is -/
def mth (m : List Nat) (tbl : List (Nat × Nat)) (x : LV) (h : LH) : Option Nat := match x with
  | .loc n => match h[n]? with
    | some (.ins c fs) => if (fs.lookup m).isNone then tbl.lookup c else none
    | _ => none
  | _ => none
/-- o.m(..) -/
def mMeth (C : Or) (m : List Nat) (tbl : List (Nat × Nat)) (a : ME) (r : MA) : ME := fun σ h => (a σ h).bind fun x h1 => match mth m tbl x h1 with
  | some i => (r σ h1).bind fun xs h2 => C i (x :: xs) h2
  | none => .bad
/-- C(..): a new instance, then its __init__ -/
def mMake (C : Or) (c i : Nat) (r : MA) : ME := fun σ h => (r σ h).bind fun xs h1 => (C i (.loc h1.length :: xs) (h1 ++ [.ins c []])).bind fun v h2 => match v with
  | .non => .ok (.loc h1.length) h2
  | _ => .bad
/-- a, b = e -/
def sUnp (g : MG) (a : ME) : MS := fun σ h => (a σ h).st σ fun x h1 => match g x σ with
  | some σ1 => .nx σ1 h1
  | none => .bad
/-- what is never come to -/
def sNever : MS := fun _ _ => .bad
/-! ### errors -/
def sRaise (c : Nat) : MS := fun σ h => .exc ⟨c, []⟩ σ h
/-- behind an except suite: its name is unset -/
def unslot (i : Nat) : O → O
  | .nx σ h => .nx (σ.set i none) h
  | .bk σ h => .bk (σ.set i none) h
  | .ct σ h => .ct (σ.set i none) h
  | .rt v h => .rt v h
  | _ => .bad
/-- try: body; except C as (slot i): suite; of errors without fields; sub tells which classes C is over -/
def sTry0 (sub : Nat → Bool) (i : Nat) (body : MS) (suite : Nat → LX → MS) : MS := fun σ h => match body σ h with
  | .exc x σ1 h1 => if sub x.cls then (if x.fs.isEmpty then unslot i (suite h1.length x (σ1.set i (some (.loc h1.length))) (h1 ++ [.exo])) else .bad) else .exc x σ1 h1
  | o => o
/-- isinstance(e, C), e the held error at place n, b the answer -/
def mIsE (n : Nat) (b : Bool) (a : ME) : ME := fun σ h => (a σ h).bind fun x h1 => match x with
  | .loc m => if m = n then .ok (.bl b) h1 else .bad
  | _ => .bad

/-! ### defs -/
mutual
def LV.lim (n : Nat) : LV → Bool
  | .loc m => decide (m < n)
  | .tup xs => LV.lims n xs
  | _ => true
def LV.lims (n : Nat) : List LV → Bool
  | [] => true
  | x :: r => LV.lim n x && LV.lims n r
end
def LO.lim (n : Nat) : LO → Bool
  | .lst xs => LV.lims n xs
  | .rol xs => LV.lims n xs
  | .dct kvs => LV.lims n (kvs.map (·.2))
  | .dtt kvs => LV.lims n (kvs.map (·.2))
  | .ins _ fs => LV.lims n (fs.map (·.2))
  | .deq xs => LV.lims n xs
  | .exo => true
/-- nothing below n, in the heap h as it came of h0, leads to n or above -/
def shut (n : Nat) (h0 h : LH) : Bool := (List.range n).all fun i => match h[i]? with
  | some o => o.lim n || decide (h0[i]? = some o)
  | none => false
/-- what is left behind a def: its own places go where nothing leads to them -/
def gc (lim : Nat → Bool) (h0 : LH) (h : LH) : LH :=
  if lim h0.length && shut h0.length h0 h then h.take h0.length
  else if lim (h0.length + 1) && shut (h0.length + 1) h0 h then h.take (h0.length + 1)
  else h
def LX.lim (x : LX) (n : Nat) : Bool := LV.lims n (x.fs.map (·.2))
def fnEnd (h0 : LH) : O → R LV
  | .nx _ h => .ok .non (gc (fun _ => true) h0 h)
  | .rt v h => .ok v (gc (fun n => v.lim n) h0 h)
  | .exc x _ h => .exc x (gc x.lim h0 h)
  | _ => .bad
/-- a def by its body: n names, the parameters first -/
def fnRun (n : Nat) (body : MS) (vs : List LV) (h : LH) : R LV := fnEnd h (body (vs.map some ++ List.replicate (n - vs.length) none) h)
end Mi
namespace Mi
/-! ### a new instance, one call deeper than its maker -/
def mkFn (C : Or) (c i : Nat) (xs : List LV) (h : LH) : R LV := (C i (.loc h.length :: xs) (h ++ [.ins c []])).bind fun v h2 => match v with
  | .non => .ok (.loc h.length) h2
  | _ => .bad
/-! ### numbers as texts -/
/-- the signs of a number from 0 to 100 -/
def digs (n : Nat) : List Nat := if n < 10 then [48 + n] else if n < 100 then [48 + n / 10, 48 + n % 10] else [49, 48, 48]
def strV : LV → Option (List Nat)
  | .str s => some s
  | .int i => if 0 ≤ i ∧ i ≤ 100 then some (digs i.toNat) else none
  | _ => none
/-- str(x): texts, and numbers from 0 to 100 -/
def fStr : List LV → LH → R LV
  | [x], h => match strV x with
    | some s => .ok (.str s) h
    | none => .bad
  | _, _ => .bad
/-- int(x) of such a text -/
def fIntS : List LV → LH → R LV
  | [.str s], h => match (List.range 101).find? fun n => digs n == s with
    | some n => .ok (.int (n : Int)) h
    | none => .bad
  | _, _ => .bad
/-! ### deques -/
def isDeq (x : LV) (h : LH) : Bool := match x with
  | .loc n => match h[n]? with
    | some (.deq _) => true
    | _ => false
  | _ => false
def mtAppQ (x : LV) (vs : List LV) (h : LH) : R LV := match x, vs with
  | .loc n, [y] => match h[n]? with
    | some (.deq xs) => if xs.length < szL then .ok .non (h.set n (.deq (xs ++ [y]))) else .bad
    | _ => .bad
  | _, _ => .bad
def mtPopQ (x : LV) (vs : List LV) (h : LH) : R LV := match x, vs with
  | .loc n, [] => match h[n]? with
    | some (.deq (y :: xs)) => if xs.length ≤ szL then .ok y (h.set n (.deq xs)) else .bad
    | _ => .bad
  | _, _ => .bad
def fLenQ : List LV → LH → R LV
  | [.loc n], h => match h[n]? with
    | some (.deq xs) => if xs.length ≤ szL then .ok (.int (xs.length : Int)) h else .bad
    | _ => .bad
  | _, _ => .bad
def mNewQ : ME := fun _ h => .ok (.loc h.length) (h ++ [.deq []])
/-! ### a dict written with texts as keys -/
def zipK (ks : List (List Nat)) (xs : List LV) : List (LKey × LV) := (ks.zip xs).foldl (fun acc kv => kput acc (.inr kv.1) kv.2) []
def mDisp (ks : List (List Nat)) (ta : MA) : ME := fun σ h => (ta σ (h ++ [.dct []])).bind fun xs h1 => match h1[h.length]? with
  | some (.dct []) => if xs.length = ks.length ∧ ks.length ≤ 15 then .ok (.loc h.length) (h1.set h.length (.dct (zipK ks xs))) else .bad
  | _ => .bad
/-! ### a key in a dict -/
def inDB (x y : LV) (h : LH) : Option Bool := match y with
  | .loc n => match h[n]? with
    | some (.dct kvs) => (keyOf x).map fun k => (kget kvs k).isSome
    | _ => none
  | _ => none
def opInD (x y : LV) (h : LH) : R LV := match inDB x y h with
  | some b => .ok (.bl b) h
  | none => .bad
def opNotInD (x y : LV) (h : LH) : R LV := match inDB x y h with
  | some b => .ok (.bl (!b)) h
  | none => .bad
/-! ### list.index of a text, list.pop -/
/-- in a list of texts where it is -/
def mtIndex (x : LV) (vs : List LV) (h : LH) : R LV := match x, vs with
  | .loc n, [.str k] => match h[n]? with
    | some (.lst xs) => match strsL xs with
      | some ws => if k ∈ ws then .ok (.int (ws.idxOf k : Nat)) h else .bad
      | none => .bad
    | _ => .bad
  | _, _ => .bad
/-- the last item is taken -/
def mtPop (x : LV) (vs : List LV) (h : LH) : R LV := match x, vs with
  | .loc n, [] => match h[n]? with
    | some (.lst xs) => match xs[xs.length - 1]? with
      | some y => .ok y (h.set n (.lst xs.dropLast))
      | none => .bad
    | _ => .bad
  | _, _ => .bad
/-! ### enumerate over a list; the keys of a dict; the least of a list -/
def iEnumLst (a : ME) : MI := fun σ h => (a σ h).bind fun x h1 => match x with
  | .loc n => match rdL n h1 with
    | some xs => .ok (enumL 0 xs, keepsL n xs) h1
    | none => .bad
  | _ => .bad
def keyL : LKey → LV
  | .inl i => .int i
  | .inr s => .str s
def fListD : List LV → LH → R LV
  | [.loc n], h => match h[n]? with
    | some (.dct kvs) => .ok (.loc h.length) (h ++ [.lst (kvs.map fun kv => keyL kv.1)])
    | _ => .bad
  | _, _ => .bad
def minI (ns : List Int) : Option Int := match ns with
  | [] => none
  | n :: r => some (r.foldl min n)
def fMin1 : List LV → LH → R LV
  | [.loc n], h => match ((rdL n h).bind intsL).bind minI with
    | some m => .ok (.int m) h
    | none => .bad
  | _, _ => .bad
/-- try in a law with own classes: the error's class is one of the first n -/
def sTryG (n : Nat) (sub : Nat → Bool) (i : Nat) (body : MS) (suite : Nat → LX → MS) : MS := fun σ h => match body σ h with
  | .exc x σ1 h1 => if x.cls < n then (if sub x.cls then (if x.fs.isEmpty then unslot i (suite h1.length x (σ1.set i (some (.loc h1.length))) (h1 ++ [.exo])) else .bad) else .exc x σ1 h1) else .bad
  | o => o
end Mi
namespace Mi
open PySem PySem.Spec PyProof.Rows L2

/-- where the defs and the classes stand -/
structure GG where
  K : PySem.W.Frag
  fa : Nat → Addr
  ca : Nat → Addr

mutual
inductive RV (g : GG) (ι : List Addr) (H : Hp) : V → LV → Prop where
  | non : RV g ι H .non .non
  | bl (b : Bool) : RV g ι H (.bl b) (.bl b)
  | int (i : Int) : RV g ι H (.int i) (.int i)
  | str (s : List Nat) : RV g ι H (.str ⟨s.toArray⟩) (.str s)
  | tup {a : Addr} {vs : List V} {xs : List LV} : SqT g.K H a vs → RVs g ι H vs xs → RV g ι H (.ref a) (.tup xs)
  | loc {n : Nat} {a : Addr} : ι[n]? = some a → RV g ι H (.ref a) (.loc n)
  | fn (i : Nat) : RV g ι H (.ref (g.fa i)) (.fn i)
inductive RVs (g : GG) (ι : List Addr) (H : Hp) : List V → List LV → Prop where
  | nil : RVs g ι H [] []
  | cons {v : V} {x : LV} {vs : List V} {xs : List LV} : RV g ι H v x → RVs g ι H vs xs → RVs g ι H (v :: vs) (x :: xs)
end

/-- what never changes -/
def Stb : HO → Prop
  | .tup _ => True
  | .xd _ => True
  | .frz _ (.lst _) => True
  | .frz _ (.tup _) => True
  | _ => False
theorem Stb.not_mut {o : HO} (h : Stb o) : ¬ Mut (some o) := by
  cases o <;> first | exact fun z => z | exact fun _ => h
/-- a later state -/
structure Ext (ι : List Addr) (H : Hp) (ι' : List Addr) (H' : Hp) : Prop where
  pre : ∃ l, ι' = ι ++ l
  stb : ∀ a o, Stb o → H a = some o → H' a = some o
theorem Ext.refl {ι : List Addr} {H : Hp} : Ext ι H ι H := ⟨⟨[], by simp⟩, fun _ _ _ e => e⟩
theorem Ext.trans {ι ι1 ι2 : List Addr} {H H1 H2 : Hp} (a : Ext ι H ι1 H1) (b : Ext ι1 H1 ι2 H2) : Ext ι H ι2 H2 := by
  obtain ⟨l, rfl⟩ := a.pre
  obtain ⟨m, rfl⟩ := b.pre
  exact ⟨⟨l ++ m, by simp⟩, fun x o s e => b.stb x o s (a.stb x o s e)⟩
theorem Ext.get {ι ι1 : List Addr} {H H1 : Hp} (a : Ext ι H ι1 H1) {n : Nat} {x : Addr} (e : ι[n]? = some x) : ι1[n]? = some x := by
  obtain ⟨l, rfl⟩ := a.pre
  rw [List.getElem?_append_left (List.getElem?_eq_some_iff.mp e).1]; exact e
theorem Ext.sqT {K : PySem.W.Frag} {ι ι1 : List Addr} {H H1 : Hp} (a : Ext ι H ι1 H1) {p : Addr} {xs : List V} (h : SqT K H p xs) : SqT K H1 p xs := by
  rcases h with (h | ⟨o, h⟩) | h
  · exact .inl (.inl (a.stb _ _ trivial h))
  · exact .inl (.inr ⟨o, a.stb _ _ trivial h⟩)
  · exact .inr h
mutual
theorem RV.mono {g : GG} {ι ι1 : List Addr} {H H1 : Hp} (e : Ext ι H ι1 H1) : ∀ {v : V} {x : LV}, RV g ι H v x → RV g ι1 H1 v x
  | _, _, .non => .non
  | _, _, .bl b => .bl b
  | _, _, .int i => .int i
  | _, _, .str s => .str s
  | _, _, .tup h r => .tup (e.sqT h) (RVs.mono e r)
  | _, _, .loc h => .loc (e.get h)
  | _, _, .fn i => .fn i
theorem RVs.mono {g : GG} {ι ι1 : List Addr} {H H1 : Hp} (e : Ext ι H ι1 H1) : ∀ {v : List V} {x : List LV}, RVs g ι H v x → RVs g ι1 H1 v x
  | _, _, .nil => .nil
  | _, _, .cons a b => .cons (RV.mono e a) (RVs.mono e b)
end
section
variable {g : GG} {ι : List Addr} {H : Hp}
theorem RVs.length {vs : List V} {xs : List LV} (h : RVs g ι H vs xs) : vs.length = xs.length := by
  induction xs generalizing vs with
  | nil => cases h; rfl
  | cons x xs ih => cases h with | cons a b => simp [ih b]
theorem RVs.get {vs : List V} {xs : List LV} (h : RVs g ι H vs xs) {i : Nat} {x : LV} (e : xs[i]? = some x) : ∃ v, vs[i]? = some v ∧ RV g ι H v x := by
  induction xs generalizing vs i with
  | nil => simp at e
  | cons y xs ih =>
    cases h with
    | cons a b =>
      cases i with
      | zero => simp at e; subst e; exact ⟨_, rfl, a⟩
      | succ i =>
        obtain ⟨v, h1, h2⟩ := ih b (by simpa using e)
        exact ⟨v, by simpa using h1, h2⟩
theorem RVs.append {vs ws : List V} {xs ys : List LV} (h : RVs g ι H vs xs) (k : RVs g ι H ws ys) : RVs g ι H (vs ++ ws) (xs ++ ys) := by
  induction xs generalizing vs with
  | nil => cases h; exact k
  | cons y xs ih => cases h with | cons a b => exact .cons a (ih b)
theorem RVs.take {vs : List V} {xs : List LV} (h : RVs g ι H vs xs) (n : Nat) : RVs g ι H (vs.take n) (xs.take n) := by
  induction n generalizing vs xs with
  | zero => exact .nil
  | succ n ih => cases h with | nil => exact .nil | cons a b => exact .cons a (ih b)
theorem RVs.drop {vs : List V} {xs : List LV} (h : RVs g ι H vs xs) (n : Nat) : RVs g ι H (vs.drop n) (xs.drop n) := by
  induction n generalizing vs xs with
  | zero => exact h
  | succ n ih => cases h with | nil => exact .nil | cons a b => exact ih b
theorem RVs.set {vs : List V} {xs : List LV} (h : RVs g ι H vs xs) {v : V} {x : LV} (r : RV g ι H v x) (n : Nat) : RVs g ι H (vs.set n v) (xs.set n x) := by
  induction n generalizing vs xs with
  | zero => cases h with | nil => exact .nil | cons a b => exact .cons r b
  | succ n ih => cases h with | nil => exact .nil | cons a b => exact .cons a (ih b)
theorem RVs.rep {vs : List V} {xs : List LV} (h : RVs g ι H vs xs) : ∀ n : Nat, RVs g ι H (List.replicate n vs).flatten (List.replicate n xs).flatten
  | 0 => .nil
  | n + 1 => by
    rw [List.replicate_succ, List.replicate_succ, List.flatten_cons, List.flatten_cons]
    exact h.append (RVs.rep h n)
end

/-! ### what stands at a place -/
def keyR : LKey → L2.Key
  | .inl i => .inl i
  | .inr s => .inr ⟨s.toArray⟩
inductive RK (g : GG) (ι : List Addr) (H : Hp) : List (L2.Key × V) → List (LKey × LV) → Prop where
  | nil : RK g ι H [] []
  | cons {k : LKey} {v : V} {x : LV} {r : List (L2.Key × V)} {s : List (LKey × LV)} : RV g ι H v x → RK g ι H r s → RK g ι H ((keyR k, v) :: r) ((k, x) :: s)
inductive RF (g : GG) (ι : List Addr) (H : Hp) : List (Str × V) → List (List Nat × LV) → Prop where
  | nil : RF g ι H [] []
  | cons {k : List Nat} {v : V} {x : LV} {r : List (Str × V)} {s : List (List Nat × LV)} : RV g ι H v x → RF g ι H r s → RF g ι H (((⟨k.toArray⟩ : Str), v) :: r) ((k, x) :: s)
inductive RKT (g : GG) (ι : List Addr) (H : Hp) : List (List L2.Key × V) → List (List LKey × LV) → Prop where
  | nil : RKT g ι H [] []
  | cons {k : List LKey} {v : V} {x : LV} {r : List (List L2.Key × V)} {s : List (List LKey × LV)} : RV g ι H v x → RKT g ι H r s → RKT g ι H ((k.map keyR, v) :: r) ((k, x) :: s)
def RO (g : GG) (ι : List Addr) (H : Hp) (a : Addr) : LO → Prop
  | .lst xs => ∃ vs, H a = some (.lst vs) ∧ RVs g ι H vs xs
  | .rol xs => ∃ vs, ((∃ o, H a = some (.frz o (.lst vs))) ∨ SqL g.K (fun _ => none) a vs) ∧ RVs g ι H vs xs
  | .dct kvs => ∃ vs, H a = some (.dK vs) ∧ RK g ι H vs kvs
  | .dtt kvs => ∃ vs, H a = some (.dT vs) ∧ RKT g ι H vs kvs
  | .ins c fs => ∃ dx vs, H a = some (.ins (g.ca c) dx vs) ∧ RF g ι H vs fs
  | .deq xs => ∃ n us vs, H a = some (RecO a "collections.deque" (dqv n us)) ∧ Vals vs us ∧ RVs g ι H vs xs
  | .exo => True
def LO.mut : LO → Prop
  | .rol _ => False
  | .exo => False
  | _ => True
structure RH (g : GG) (ι : List Addr) (lh : LH) (H : Hp) : Prop where
  len : ι.length = lh.length
  ob : ∀ (n : Nat) a o, ι[n]? = some a → lh[n]? = some o → RO g ι H a o
  inj : ∀ (n m : Nat) a o o', ι[n]? = some a → ι[m]? = some a → lh[n]? = some o → lh[m]? = some o' → LO.mut o → LO.mut o' → n = m
/-- an error in the air -/
def RX (g : GG) (ι : List Addr) (H : Hp) (cls : Value) (d : Option Addr) (x : LX) : Prop :=
  cls = .ref (g.ca x.cls) ∧ ((x.fs = [] ∧ d = none) ∨ x.fs ≠ [] ∧ ∃ dd vs, d = some dd ∧ H dd = some (.xd vs) ∧ RF g ι H vs x.fs)
/-- what is wanted of an error, and the state at the def's entry -/
structure LWish where
  w : LX → LSt → LH → Prop
  i : List Addr
  h : Hp
  /-- the error that is held: its place, what it is -/
  ev : Option (Nat × Addr × Value × Option Addr × LX) := none
/-- the slots -/
structure RS (g : GG) (LW : LWish) (ι : List Addr) (lσ : LSt) (σ : L2.St) (H : Hp) : Prop where
  ext : Ext LW.i LW.h ι H
  len : σ.length = lσ.length
  at' : ∀ (i : Nat) x, lσ[i]? = some (some x) → ∃ v, σ[i]? = some (some v) ∧ RV g ι H v x
  kp : ∀ n a c d x, LW.ev = some (n, a, c, d, x) → ι[n]? = some a ∧ RX g ι H c d x

section
variable {g : GG} {ι ι1 : List Addr} {H H1 : Hp} {lh : LH} {lσ : LSt} {σ : L2.St} {LW : LWish}
theorem RK.mono (e : Ext ι H ι1 H1) {vs : List (L2.Key × V)} {xs : List (LKey × LV)} (h : RK g ι H vs xs) : RK g ι1 H1 vs xs := by
  induction h with
  | nil => exact .nil
  | cons a _ ih => exact .cons (a.mono e) ih
theorem RKT.mono (e : Ext ι H ι1 H1) {vs : List (List L2.Key × V)} {xs : List (List LKey × LV)} (h : RKT g ι H vs xs) : RKT g ι1 H1 vs xs := by
  induction h with
  | nil => exact .nil
  | cons a _ ih => exact .cons (a.mono e) ih
theorem RF.mono (e : Ext ι H ι1 H1) {vs : List (Str × V)} {xs : List (List Nat × LV)} (h : RF g ι H vs xs) : RF g ι1 H1 vs xs := by
  induction h with
  | nil => exact .nil
  | cons a _ ih => exact .cons (a.mono e) ih
theorem RX.mono (e : Ext ι H ι1 H1) {cls : Value} {d : Option Addr} {x : LX} (h : RX g ι H cls d x) : RX g ι1 H1 cls d x := by
  obtain ⟨h1, h2 | ⟨h0, dd, vs, h2, h3, h4⟩⟩ := h
  · exact ⟨h1, .inl h2⟩
  · exact ⟨h1, .inr ⟨h0, dd, vs, h2, e.stb _ _ trivial h3, h4.mono e⟩⟩
theorem RS.mono (e : Ext ι H ι1 H1) (h : RS g LW ι lσ σ H) : RS g LW ι1 lσ σ H1 := ⟨h.ext.trans e, h.len, fun i x q => let ⟨v, a, b⟩ := h.at' i x q; ⟨v, a, b.mono e⟩, fun n a c d x q => let ⟨p, r⟩ := h.kp n a c d x q; ⟨e.get p, r.mono e⟩⟩
theorem RS.set (h : RS g LW ι lσ σ H) {v : V} {x : LV} (r : RV g ι H v x) (i : Nat) : RS g LW ι (lσ.set i (some x)) (σ.set i (some v)) H := by
  refine ⟨h.ext, by simp [h.len], fun j y q => ?_, h.kp⟩
  by_cases hj : i = j
  · subst hj
    by_cases hl : i < lσ.length
    · rw [List.getElem?_set_self hl] at q; cases q
      exact ⟨v, by rw [List.getElem?_set_self (by rw [h.len]; exact hl)], r⟩
    · rw [List.getElem?_eq_none (by simpa using hl)] at q; cases q
  · rw [List.getElem?_set_ne hj] at q ⊢
    exact h.at' j y q
theorem RS.none (h : RS g LW ι lσ σ H) (i : Nat) : RS g LW ι (lσ.set i none) (σ.set i Option.none) H := by
  refine ⟨h.ext, by simp [h.len], fun j y q => ?_, h.kp⟩
  by_cases hj : i = j
  · subst hj
    by_cases hl : i < lσ.length
    · rw [List.getElem?_set_self hl] at q; cases q
    · rw [List.getElem?_eq_none (by simpa using hl)] at q; cases q
  · rw [List.getElem?_set_ne hj] at q ⊢
    exact h.at' j y q

/-- places are below the heap's length -/
theorem RH.addr (h : RH g ι lh H) {n : Nat} {o : LO} (e : lh[n]? = some o) : ∃ a, ι[n]? = some a := by
  have : n < ι.length := by rw [h.len]; exact (List.getElem?_eq_some_iff.mp e).1
  exact ⟨ι[n], List.getElem?_eq_getElem this⟩
theorem RO.tracked {a : Addr} {o : LO} (h : RO g ι H a o) (m : LO.mut o) : ∃ u, H a = some u ∧ Mut (some u) := by
  cases o with
  | lst xs => obtain ⟨vs, e, _⟩ := h; exact ⟨_, e, trivial⟩
  | rol xs => exact m.elim
  | dct xs => obtain ⟨vs, e, _⟩ := h; exact ⟨_, e, trivial⟩
  | dtt xs => obtain ⟨vs, e, _⟩ := h; exact ⟨_, e, trivial⟩
  | ins c fs => obtain ⟨dx, vs, e, _⟩ := h; exact ⟨_, e, trivial⟩
  | deq xs => obtain ⟨n, us, vs, e, _⟩ := h; exact ⟨_, e, trivial⟩
  | exo => exact m.elim
/-- what leans on the stable part alone, and on its own object -/
theorem RO.keep {a : Addr} {o : LO} (e : Ext ι H ι1 H1) (k : LO.mut o → H1 a = H a) (h : RO g ι H a o) : RO g ι1 H1 a o := by
  cases o with
  | lst xs => obtain ⟨vs, h1, h2⟩ := h; exact ⟨vs, by rw [k trivial]; exact h1, h2.mono e⟩
  | rol xs =>
    obtain ⟨vs, h1, h2⟩ := h
    refine ⟨vs, ?_, h2.mono e⟩
    rcases h1 with ⟨o, h1⟩ | h1
    · exact .inl ⟨o, e.stb _ _ trivial h1⟩
    · exact .inr h1
  | dct kvs => obtain ⟨vs, h1, h2⟩ := h; exact ⟨vs, by rw [k trivial]; exact h1, h2.mono e⟩
  | dtt kvs => obtain ⟨vs, h1, h2⟩ := h; exact ⟨vs, by rw [k trivial]; exact h1, h2.mono e⟩
  | ins c fs => obtain ⟨dx, vs, h1, h2⟩ := h; exact ⟨dx, vs, by rw [k trivial]; exact h1, h2.mono e⟩
  | deq xs => obtain ⟨n, us, vs, h1, h2, h3⟩ := h; exact ⟨n, us, vs, by rw [k trivial]; exact h1, h2, h3.mono e⟩
  | exo => trivial
theorem Ext.fresh {p : Addr} {o : HO} (hp : H p = none) : Ext ι H ι (upd H p o) := ⟨⟨[], by simp⟩, fun a u _ e => by rw [upd_ne (ne_of_none e hp)]; exact e⟩
theorem Ext.freshI {p : Addr} {o : HO} (hp : H p = none) : Ext ι H (ι ++ [p]) (upd H p o) := ⟨⟨[p], rfl⟩, fun a u _ e => by rw [upd_ne (ne_of_none e hp)]; exact e⟩
theorem Ext.write {p : Addr} {o : HO} (m : Mut (H p)) : Ext ι H ι (upd H p o) := ⟨⟨[], by simp⟩, fun a u s e => by
  rw [upd_ne (fun z => ?_)]
  · exact e
  · rw [← z, e] at m; exact s.not_mut m⟩
/-- a new tuple, an error's dict: no place -/
theorem RH.fresh (h : RH g ι lh H) {p : Addr} {o : HO} (hp : H p = none) : RH g ι lh (upd H p o) :=
  ⟨h.len, fun n a x e1 e2 => (h.ob n a x e1 e2).keep (Ext.fresh hp) fun m => by
    obtain ⟨u, hu, _⟩ := (h.ob n a x e1 e2).tracked m
    exact upd_ne (ne_of_none hu hp), h.inj⟩
/-- a new place -/
theorem RH.alloc (h : RH g ι lh H) {p : Addr} {o : HO} {x : LO} (hp : H p = none) (r : RO g (ι ++ [p]) (upd H p o) p x) : RH g (ι ++ [p]) (lh ++ [x]) (upd H p o) := by
  have lt : ∀ {n : Nat} {a : Addr} {y : LO}, (ι ++ [p])[n]? = some a → (lh ++ [x])[n]? = some y → (ι[n]? = some a ∧ lh[n]? = some y) ∨ (n = lh.length ∧ a = p ∧ y = x) := fun {n a y} e1 e2 => by
    by_cases hn : n < lh.length
    · rw [List.getElem?_append_left (by rw [h.len]; exact hn)] at e1
      rw [List.getElem?_append_left hn] at e2
      exact .inl ⟨e1, e2⟩
    · have h2 : n < lh.length + 1 := by simpa using (List.getElem?_eq_some_iff.mp e2).1
      have e : n = lh.length := by omega
      subst e
      rw [List.getElem?_append_right (Nat.le_refl _)] at e2
      rw [← h.len, List.getElem?_append_right (Nat.le_refl _)] at e1
      simp at e1 e2
      exact .inr ⟨rfl, e1.symm, e2.symm⟩
  refine ⟨by simp [h.len], fun n a y e1 e2 => ?_, fun n m a y z e1 e2 e3 e4 m1 m2 => ?_⟩
  · rcases lt e1 e2 with ⟨q1, q2⟩ | ⟨rfl, rfl, rfl⟩
    · exact (h.ob n a y q1 q2).keep (Ext.freshI hp) fun m => by
        obtain ⟨u, hu, _⟩ := (h.ob n a y q1 q2).tracked m
        exact upd_ne (ne_of_none hu hp)
    · exact r
  · rcases lt e1 e3 with ⟨q1, q2⟩ | ⟨rfl, rfl, rfl⟩
    · rcases lt e2 e4 with ⟨w1, w2⟩ | ⟨rfl, rfl, rfl⟩
      · exact h.inj n m a y z q1 w1 q2 w2 m1 m2
      · obtain ⟨u, hu, _⟩ := (h.ob n a y q1 q2).tracked m1
        rw [hp] at hu; cases hu
    · rcases lt e2 e4 with ⟨w1, w2⟩ | ⟨q, _, _⟩
      · obtain ⟨u, hu, _⟩ := (h.ob m _ z w1 w2).tracked m2
        rw [hp] at hu; cases hu
      · exact q.symm
/-- a place written -/
theorem RH.write (h : RH g ι lh H) {n : Nat} {p : Addr} {o : HO} {x y : LO} (e : ι[n]? = some p) (ex : lh[n]? = some x) (mx : LO.mut x) (my : LO.mut y) (r : RO g ι (upd H p o) p y) : RH g ι (lh.set n y) (upd H p o) := by
  obtain ⟨u, hu, mu⟩ := (h.ob n p x e ex).tracked mx
  have hn : n < lh.length := (List.getElem?_eq_some_iff.mp ex).1
  refine ⟨by simp [h.len], fun m a z e1 e2 => ?_, fun m k a z w e1 e2 e3 e4 m1 m2 => ?_⟩
  · by_cases hm : n = m
    · subst hm
      rw [List.getElem?_set_self hn] at e2; cases e2
      rw [e] at e1; cases e1
      exact r
    · rw [List.getElem?_set_ne hm] at e2
      refine (h.ob m a z e1 e2).keep (Ext.write (by rw [hu]; exact mu)) fun mz => upd_ne fun q => hm ?_
      subst q
      exact h.inj n m a x z e e1 ex e2 mx mz
  · have g3 : ∀ {j : Nat} {v : LO}, (lh.set n y)[j]? = some v → LO.mut v → ∃ v', lh[j]? = some v' ∧ LO.mut v' := fun {j v} q mv => by
      by_cases hj : n = j
      · subst hj; exact ⟨x, ex, mx⟩
      · rw [List.getElem?_set_ne hj] at q; exact ⟨v, q, mv⟩
    obtain ⟨z', q1, q2⟩ := g3 e3 m1
    obtain ⟨w', q3, q4⟩ := g3 e4 m2
    exact h.inj m k a z' w' e1 e2 q1 q3 q2 q4
theorem RH.lst (h : RH g ι lh H) {n : Nat} {xs : List LV} {p : Addr} (e : lh[n]? = some (.lst xs)) (ep : ι[n]? = some p) : ∃ vs, H p = some (.lst vs) ∧ RVs g ι H vs xs := h.ob n p _ ep e
theorem RH.dct (h : RH g ι lh H) {n : Nat} {xs : List (LKey × LV)} {p : Addr} (e : lh[n]? = some (.dct xs)) (ep : ι[n]? = some p) : ∃ vs, H p = some (.dK vs) ∧ RK g ι H vs xs := h.ob n p _ ep e
theorem RH.rdL (h : RH g ι lh H) {n : Nat} {xs : List LV} {p : Addr} (e : rdL n lh = some xs) (ep : ι[n]? = some p) : ∃ vs, SqL g.K H p vs ∧ RVs g ι H vs xs := by
  unfold Mi.rdL at e
  split at e
  · cases e
    rename_i q
    obtain ⟨vs, h1, h2⟩ := h.ob n p _ ep q
    exact ⟨vs, .inl (.inl h1), h2⟩
  · cases e
    rename_i q
    obtain ⟨vs, h1, h2⟩ := h.ob n p _ ep q
    refine ⟨vs, ?_, h2⟩
    rcases h1 with ⟨o, h1⟩ | (h1 | ⟨o, h1⟩) | h1
    · exact .inl (.inr ⟨o, h1⟩)
    · cases h1
    · cases h1
    · exact .inr h1
  · cases e
end

/-! ### a reading that follows the logic -/
section
variable {α β : Type}
def finR (rel : List Addr → Hp → β → α → Prop) (g : GG) (LW : LWish) (ι : List Addr) (lσ : LSt) (H : Hp) (r : R α) (Q : β → Hp → Prop) : Prop := match r with
  | .ok v lh => ∀ ι' x H', Ext ι H ι' H' → RH g ι' lh H' → rel ι' H' x v → Q x H'
  | .exc x lh => LW.w x lσ lh
  | .bad => False
def tR (rel : List Addr → Hp → β → α → Prop) (g : GG) (LW : LWish) (m : LSt → LH → R α) : L2.St → Hp → (β → Hp → Prop) → Prop := fun σ H Q =>
  ∃ ι lσ lh, RS g LW ι lσ σ H ∧ RH g ι lh H ∧ finR rel g LW ι lσ H (m lσ lh) Q
end
abbrev relV (g : GG) : List Addr → Hp → V → LV → Prop := fun ι H x v => RV g ι H x v
abbrev relVs (g : GG) : List Addr → Hp → List V → List LV → Prop := fun ι H x v => RVs g ι H x v
abbrev relB : List Addr → Hp → Bool → Bool → Prop := fun _ _ x v => x = v
abbrev relO : List Addr → Hp → Option Int → Option Int → Prop := fun _ _ x v => x = v
abbrev relU : List Addr → Hp → Unit → Unit → Prop := fun _ _ _ _ => True
abbrev tE (g : GG) (LW : LWish) (m : ME) : TE := tR (relV g) g LW m
abbrev tA (g : GG) (LW : LWish) (m : MA) : TA := tR (relVs g) g LW m
abbrev tT (g : GG) (LW : LWish) (m : MB) : TT := tR relB g LW m
abbrev tO (g : GG) (LW : LWish) (m : MO) : TO := tR relO g LW m

section
variable {α β γ δ : Type} {rel : List Addr → Hp → β → α → Prop} {rel1 : List Addr → Hp → δ → γ → Prop} {g : GG} {LW : LWish} {ι ι1 : List Addr} {lσ : LSt} {H H1 : Hp} {lh : LH} {σ : L2.St}
theorem finR.mono {r : R α} {Q : β → Hp → Prop} (e : Ext ι H ι1 H1) (h : finR rel g LW ι lσ H r Q) : finR rel g LW ι1 lσ H1 r Q := by
  cases r with
  | ok v lh => exact fun ι' x H' e1 rh rv => h ι' x H' (e.trans e1) rh rv
  | exc x lh => exact h
  | bad => exact h
theorem finR.imp {r : R α} {Q Q' : β → Hp → Prop} (h : finR rel g LW ι lσ H r Q) (k : ∀ x H', Q x H' → Q' x H') : finR rel g LW ι lσ H r Q' := by
  cases r with
  | ok v lh => exact fun ι' x H' e1 rh rv => k _ _ (h ι' x H' e1 rh rv)
  | exc x lh => exact h
  | bad => exact h
theorem fin_bind {r : R γ} {f : γ → LH → R α} {Q : β → Hp → Prop} {Q1 : δ → Hp → Prop} (h : finR rel g LW ι lσ H (r.bind f) Q)
    (k : ∀ ι1 x H1 v lh1, Ext ι H ι1 H1 → RH g ι1 lh1 H1 → rel1 ι1 H1 x v → finR rel g LW ι1 lσ H1 (f v lh1) Q → Q1 x H1) : finR rel1 g LW ι lσ H r Q1 := by
  cases r with
  | ok v lh => exact fun ι1 x H1 e rh rv => k ι1 x H1 v lh e rh rv (finR.mono (r := f v lh) e h)
  | exc x lh => exact h
  | bad => exact h
theorem finR.ok {v : α} {Q : β → Hp → Prop} (h : finR rel g LW ι lσ H (.ok v lh) Q) (rh : RH g ι lh H) {x : β} (r : rel ι H x v) : Q x H := h ι x H .refl rh r
end
theorem _root_.L2.PE.wk {X : Cx} {e : Expr} {t t' : TE} (h : PE X e t) (k : ∀ σ H Q, t' σ H Q → t σ H Q) : PE X e t' := ⟨fun pins s σ H Q I q => h.run pins s σ H Q I (k σ H Q q)⟩
theorem _root_.L2.PT.wk {X : Cx} {e : Expr} {t t' : TT} (h : PT X e t) (k : ∀ σ H Q, t' σ H Q → t σ H Q) : PT X e t' := ⟨fun pins s σ H Q I q => h.run pins s σ H Q I (k σ H Q q)⟩
theorem _root_.L2.PW.wk {X : Cx} {e : Expr} {t t' : TT} (h : PW X e t) (k : ∀ σ H Q, t' σ H Q → t σ H Q) : PW X e t' := ⟨fun wh pins s σ H Q I q => h.run wh pins s σ H Q I (k σ H Q q)⟩
theorem _root_.L2.PA.wk {X : Cx} {e : List Expr} {t t' : TA} (h : PA X e t) (k : ∀ σ H Q, t' σ H Q → t σ H Q) : PA X e t' := ⟨fun pos pins s σ H Q I q => h.run pos pins s σ H Q I (k σ H Q q)⟩
theorem _root_.L2.PS.wk {X : Cx} {e : Stmt} {t t' : TS} (h : PS X e t) (k : ∀ D σ H, t' D σ H → t D σ H) : PS X e t' := ⟨fun pins s σ H D I q => h.run pins s σ H D I (k D σ H q)⟩
theorem _root_.L2.PSs.wk {X : Cx} {e : List Stmt} {t t' : TS} (h : PSs X e t) (k : ∀ D σ H, t' D σ H → t D σ H) : PSs X e t' := ⟨fun pins s σ H D I q => h.run pins s σ H D I (k D σ H q)⟩
theorem _root_.L2.PO.wk {X : Cx} {e : Option Expr} {t t' : TO} (h : PO X e t) (k : ∀ σ H Q, t' σ H Q → t σ H Q) : PO X e t' := ⟨fun pins s σ H Q I q => h.run pins s σ H Q I (k σ H Q q)⟩
theorem _root_.L2.PE.or {X : Cx} {e : Expr} {t t' : TE} (h : PE X e t) (h' : PE X e t') : PE X e (fun σ H Q => t σ H Q ∨ t' σ H Q) := ⟨fun pins s σ H Q I q => q.elim (h.run pins s σ H Q I) (h'.run pins s σ H Q I)⟩
theorem _root_.L2.PS.or {X : Cx} {e : Stmt} {t t' : TS} (h : PS X e t) (h' : PS X e t') : PS X e (fun D σ H => t D σ H ∨ t' D σ H) := ⟨fun pins s σ H D I q => q.elim (h.run pins s σ H D I) (h'.run pins s σ H D I)⟩
end Mi
namespace Mi
open PySem PySem.Spec PyProof.Rows L2

theorem sz {n : Nat} (h : n ≤ szL) : n ≤ sizeLine := by rw [sizeLine_eq]; exact h
theorem sz' {n : Nat} (h : n < szL) : n < sizeLine := by rw [sizeLine_eq]; exact h
section
variable {X : Cx} {g : GG} {LW : LWish} {a b c : Expr} {ma mb mc : ME} {pos : Pos}

/-! ### names, constants -/
theorem q_var (i : Nat) {x : Str} (hN : X.N[i]? = some x := by rfl) (hv : Vis X.env.scope x := by first | exact Or.inl rfl | exact Or.inr (Or.inl rfl) | exact Or.inr (Or.inr rfl)) (hd : (x == ("__debug__" : Str)) = false := by decide)
    (hcd : (x == ("__classdict__" : Str)) = false := by decide) : PE X (.Name x pos) (tE g LW (mVar i)) := (pe_var hN hv hd hcd).wk fun σ H Q ⟨ι, lσ, lh, rs, rh, h⟩ => by
  unfold mVar at h
  split at h
  · rename_i v e
    obtain ⟨x, h1, h2⟩ := rs.at' i v e
    exact ⟨x, h1, h.ok rh h2⟩
  · exact h.elim
theorem q_cst {e : Expr} {v : V} {lv : LV} (h : PE X e (tC v)) (r : ∀ ι H, RV g ι H v lv) : PE X e (tE g LW (mC lv)) := h.wk fun σ H Q ⟨ι, lσ, lh, rs, rh, h⟩ => h.ok rh (r ι H)
theorem q_int {i : Int} {j : Nat} : PE X (.Constant (.int i) j pos) (tE g LW (mC (.int i))) := q_cst pe_int fun _ _ => .int i
theorem q_bl {i : Bool} {j : Nat} : PE X (.Constant (.bool i) j pos) (tE g LW (mC (.bl i))) := q_cst pe_bl fun _ _ => .bl i
theorem q_non {j : Nat} : PE X (.Constant .none j pos) (tE g LW (mC .non)) := q_cst pe_non fun _ _ => .non
theorem q_str {x : Str} {s : List Nat} {j : Nat} (e : x = ⟨s.toArray⟩) : PE X (.Constant (.str x) j pos) (tE g LW (mC (.str s))) := by
  subst e; exact q_cst pe_str fun _ _ => .str s
/-- a constant of the module -/
theorem q_glob {x : Str} {v : V} {lv : LV} {u : Value} (hg : Gl X x) (hm : X.mg x = some u) (r : RelV v u) (rv : ∀ ι H, RV g ι H v lv) (hd : (x == ("__debug__" : Str)) = false := by decide) : PE X (.Name x pos) (tE g LW (mC lv)) := q_cst (pe_glob hg hm r hd) rv

/-! ### operators -/
def OpS (g : GG) (f : LV → LV → LH → R LV) (r : R2) : Prop := ∀ (LW : LWish) (ι : List Addr) (lσ : LSt) (lh : LH) (H : Hp) (x y : V) (v w : LV) (Q : VK),
  RH g ι lh H → RV g ι H x v → RV g ι H y w → finR (relV g) g LW ι lσ H (f v w lh) Q → r x y H Q
def UnS (g : GG) (f : LV → LH → R LV) (r : V → Hp → VK → Prop) : Prop := ∀ (LW : LWish) (ι : List Addr) (lσ : LSt) (lh : LH) (H : Hp) (x : V) (v : LV) (Q : VK),
  RH g ι lh H → RV g ι H x v → finR (relV g) g LW ι lσ H (f v lh) Q → r x H Q
theorem tOp_of {f : LV → LV → LH → R LV} {r : R2} (hs : OpS g f r) {σ : L2.St} {H : Hp} {Q : VK} (h : tE g LW (mOp f ma mb) σ H Q) : tOp r (tE g LW ma) (tE g LW mb) σ H Q := by
  obtain ⟨ι, lσ, lh, rs, rh, h⟩ := h
  exact ⟨ι, lσ, lh, rs, rh, fin_bind h fun ι1 x H1 v lh1 e1 rh1 rv1 h1 => ⟨ι1, lσ, lh1, rs.mono e1, rh1, fin_bind h1 fun ι2 y H2 w lh2 e2 rh2 rv2 h2 => hs LW ι2 lσ lh2 H2 x y v w Q rh2 (rv1.mono e2) rv2 h2⟩⟩
theorem q_op {op : Operator} {f : LV → LV → LH → R LV} {r : R2} (ho : OpR X (binaryOp op) r) (hs : OpS g f r) (ha : PE X a (tE g LW ma)) (hb : PE X b (tE g LW mb)) : PE X (.BinOp a op b pos) (tE g LW (mOp f ma mb)) :=
  (pe_op ho ha hb).wk fun _ _ _ h => tOp_of hs h
theorem q_cmpR {op : CmpOp} {f : LV → LV → LH → R LV} {r : R2} (ho : OpR X (compareOp op) r) (hs : OpS g f r) (ha : PE X a (tE g LW ma)) (hb : PE X b (tE g LW mb)) (hm : behindInMarks op b = false) : PE X (.Compare a [op] [b] pos) (tE g LW (mOp f ma mb)) :=
  (pe_cmpR ho ha hb hm).wk fun _ _ _ h => tOp_of hs h
theorem q_unR {op : UnaryOp} {f : LV → LH → R LV} {r : V → Hp → VK → Prop} (ho : UnR X (unaryOp op) r) (hs : UnS g f r) (ha : PE X a (tE g LW ma)) : PE X (.UnaryOp op a pos) (tE g LW (mUn f ma)) :=
  (pe_un ho ha).wk fun σ H Q ⟨ι, lσ, lh, rs, rh, h⟩ => ⟨ι, lσ, lh, rs, rh, fin_bind h fun ι1 x H1 v lh1 e1 rh1 rv1 h1 => hs LW ι1 lσ lh1 H1 x v Q rh1 rv1 h1⟩

theorem str_app (a b : List Nat) : (⟨a.toArray⟩ : Str) ++ (⟨b.toArray⟩ : Str) = ⟨(a ++ b).toArray⟩ := by
  show Str.append _ _ = _
  unfold Str.append
  simp
theorem str_len (a : List Nat) : (⟨a.toArray⟩ : Str).length = a.length := by
  show (a.toArray).size = a.length
  simp
theorem rv_new {g : GG} {ι : List Addr} {H : Hp} {lh : LH} {p : Addr} (rh : RH g ι lh H) : RV g (ι ++ [p]) H (.ref p) (.loc lh.length) := .loc (by rw [← rh.len]; simp)
theorem rvs_new {g : GG} {ι : List Addr} {H : Hp} {p : Addr} {o : HO} (hp : H p = none) {vs : List V} {xs : List LV} (r : RVs g ι H vs xs) : RVs g (ι ++ [p]) (upd H p o) vs xs := r.mono (Ext.freshI hp)
/-- a new list is laid -/
theorem new_lst {g : GG} {LW : LWish} {ι : List Addr} {lσ : LSt} {H : Hp} {lh : LH} {xs : List LV} {vs : List V} {Q : VK} (rh : RH g ι lh H) (r : RVs g ι H vs xs)
    (h : finR (relV g) g LW ι lσ H (.ok (.loc lh.length) (lh ++ [.lst xs])) Q) : ∀ p, H p = none → Q (.ref p) (upd H p (.lst vs)) := fun p hp =>
  h (ι ++ [p]) (.ref p) _ (Ext.freshI hp) (rh.alloc hp ⟨vs, upd_same, rvs_new hp r⟩) (.loc (by rw [← rh.len]; simp))
theorem new_tup {g : GG} {LW : LWish} {ι : List Addr} {lσ : LSt} {H : Hp} {lh : LH} {xs : List LV} {vs : List V} {Q : VK} (rh : RH g ι lh H) (r : RVs g ι H vs xs)
    (h : finR (relV g) g LW ι lσ H (.ok (.tup xs) lh) Q) : ∀ p, H p = none → Q (.ref p) (upd H p (.tup vs)) := fun p hp =>
  h ι (.ref p) _ (Ext.fresh hp) (rh.fresh hp) (.tup (.inl (.inl upd_same)) (r.mono (Ext.fresh hp)))

def rAddX (K : PySem.W.Frag) : R2 := fun x y H Q => (∃ i j, x = .int i ∧ y = .int j ∧ Q (.int (i + j)) H) ∨ (∃ i j, x = .str i ∧ y = .str j ∧ i.length + j.length ≤ sizeLine ∧ Q (.str (i ++ j)) H) ∨ rCatA K x y H Q ∨ rCat x y H Q
theorem or_add : OpR X (binaryOp .Add) (rAddX X.K) := op_add.or (op_add_str.or (op_catA.or op_cat))
theorem os_add : OpS g opAdd (rAddX g.K) := by
  intro LW ι lσ lh H x y v w Q rh rx ry h
  unfold opAdd at h
  split at h
  · cases rx; cases ry; exact .inl ⟨_, _, rfl, rfl, h.ok rh (.int _)⟩
  · split at h
    · cases rx; cases ry
      rename_i hz
      exact .inr (.inl ⟨_, _, rfl, rfl, by rw [str_len, str_len]; exact sz hz, by rw [str_app]; exact h.ok rh (.str _)⟩)
    · exact h.elim
  · split at h
    · rename_i as bs _ hz
      cases rx with
      | @tup a vs _ ha ra =>
        cases ry with
        | @tup b ws _ hb rb =>
          refine .inr (.inr (.inl ⟨a, b, vs, ws, rfl, rfl, ha, hb, by rw [ra.length, rb.length]; exact sz hz, fun e => ?_, fun _ e => ?_, fun _ _ => ?_⟩))
          · subst e; cases ra; exact h.ok rh (.tup hb rb)
          · subst e; cases rb; exact h.ok rh (.tup ha (by rw [List.append_nil]; exact ra))
          · exact new_tup rh (ra.append rb) h
    · exact h.elim
  · split at h
    · rename_i e1 e2
      split at h
      · rename_i hz
        cases rx with
        | @loc n a e3 =>
          cases ry with
          | @loc m b e4 =>
            obtain ⟨vs, k1, k2⟩ := rh.lst e1 e3
            obtain ⟨ws, k3, k4⟩ := rh.lst e2 e4
            exact .inr (.inr (.inr ⟨a, b, vs, ws, rfl, rfl, k1, k3, by rw [k2.length, k4.length]; exact sz hz, new_lst rh (k2.append k4) h⟩))
      · exact h.elim
    · exact h.elim
  · exact h.elim
theorem q_add (ha : PE X a (tE g LW ma)) (hb : PE X b (tE g LW mb)) (hK : X.K = g.K := by rfl) : PE X (.BinOp a .Add b pos) (tE g LW (mOp opAdd ma mb)) := q_op or_add (by rw [hK]; exact os_add) ha hb
theorem os_sub : OpS g opSub (rI0 fun i j => .int (i - j)) := by
  intro LW ι lσ lh H x y v w Q rh rx ry h
  unfold opSub at h
  split at h
  · cases rx; cases ry; exact ⟨_, _, rfl, rfl, h.ok rh (.int _)⟩
  · exact h.elim
theorem q_sub (ha : PE X a (tE g LW ma)) (hb : PE X b (tE g LW mb)) : PE X (.BinOp a .Sub b pos) (tE g LW (mOp opSub ma mb)) := q_op op_sub os_sub ha hb
theorem small_of {i j : Int} (h : (small i || small j) = true) : CMul i j := by
  unfold small at h
  simp only [Bool.or_eq_true, Bool.and_eq_true, decide_eq_true_eq] at h
  exact h
/-! a tuple times a number: itself, nothing, or so often -/
def rRepT0 (K : PySem.W.Frag) : R2 := fun x y H Q => ∃ l k xs, x = .ref l ∧ y = .int k ∧ SqT K H l xs ∧ -16777216 ≤ k ∧ k ≤ 1000 ∧ xs.length ≤ 1000 ∧ (((xs = [] ∨ k = 1) ∧ Q (.ref l) H) ∨ (xs ≠ [] ∧ k ≤ 0 ∧ ∀ p, H p = none → Q (.ref p) (L2.upd H p (.tup []))))
theorem tuple_mulS (l : Addr) (items : Array Value) (n : Nat) (dd : Option Addr) (sl : Array (Option Value)) (x : Int) (u : Tok) (c0 : (decide (x < -(2 ^ 63)) || decide (x ≥ 2 ^ 63)) = false) (c1 : (items.isEmpty || x == 1) = true) :
    Meets (Builtin.«tuple.__mul__» ⟨[.ref l, .int x u], []⟩) (fun _ R s => s.heap.get? l = some { cls := .type "tuple", dict := dd, data := .seq items n, slots := sl } ∧ R (.ok (.ret (Value.ref l))) s) :=
  .of_wp fun prog w A R s h => by
    obtain ⟨hp, g, d, tk, os⟩ := s
    obtain ⟨hl, h⟩ := h
    have f1 := AutoSeq1.idx_int
    wp_walk using wpAny_loadPart' hl
    repeat (first
      | (refine wpAny_ite_false (decide_eq_false (by rw [c0]; exact Bool.false_ne_true)) ?_; wp_walk using wpAny_loadPart' hl)
      | (refine wpAny_ite_true (decide_eq_true (by rw [c1])) ?_; wp_walk using wpAny_loadPart' hl))
    exact ⟨_, rfl, h⟩
theorem tuple_mulN (l : Addr) (items : Array Value) (n : Nat) (dd : Option Addr) (sl : Array (Option Value)) (x : Int) (u : Tok) (c0 : (decide (x < -(2 ^ 63)) || decide (x ≥ 2 ^ 63)) = false) (c1 : (items.isEmpty || x == 1) = false) (c2 : (decide (x ≤ 0) || items.isEmpty) = true) :
    Meets (Builtin.«tuple.__mul__» ⟨[.ref l, .int x u], []⟩) (fun _ R s => s.heap.get? l = some { cls := .type "tuple", dict := dd, data := .seq items n, slots := sl } ∧
      R (.ok (.ret (Value.ref s.heap.objs.size))) { s with heap := s.heap.push { cls := Value.type "tuple", data := Data.seq #[] }, toks := s.toks }) :=
  .of_wp fun prog w A R s h => by
    obtain ⟨hp, g, d, tk, os⟩ := s
    obtain ⟨hl, h⟩ := h
    have f1 := AutoSeq1.idx_int
    wp_walk using wpAny_loadPart' hl
    repeat (first
      | (refine wpAny_ite_false (decide_eq_false (by rw [c0]; exact Bool.false_ne_true)) ?_; wp_walk using wpAny_loadPart' hl)
      | (refine wpAny_ite_false (decide_eq_false (by rw [c1]; exact Bool.false_ne_true)) ?_; wp_walk using wpAny_loadPart' hl)
      | (refine wpAny_ite_true (decide_eq_true (by rw [c2])) ?_; wp_walk using wpAny_loadPart' hl))
    exact ⟨_, rfl, h⟩
theorem op_repT0 : OpR X (binaryOp .Mult) (rRepT0 X.K) := by
  intro pins s σ H x y v u Q I rx ry h
  obtain ⟨l, k, xs, rfl, rfl, hT, hk1, hk2, hxl, h⟩ := h
  cases rx
  obtain ⟨t, rfl⟩ := ry
  obtain ⟨its, r, ⟨⟨cls, dd, data, sl⟩, ho, hc, n, hd⟩, hs⟩ := I.tuple hT
  simp only at hc hd
  subst hc hd
  have hle : its.length = xs.length := r.length.symm
  have c0 : (decide (k < -(2 ^ 63)) || decide (k ≥ 2 ^ 63)) = false := by
    rw [decide_eq_false (by omega), decide_eq_false (by omega)] <;> rfl
  rcases h with ⟨hq, q⟩ | ⟨hne, hk0, q⟩
  · have c1 : (its.toArray.isEmpty || k == 1) = true := by
      rcases hq with rfl | rfl
      · have : its = [] := List.eq_nil_of_length_eq_zero hle
        subst this; rfl
      · simp
    exact wpAny_binaryOp_repeat_ref (T := "tuple") (U := "int") (by decide) ⟨_, ho, rfl⟩ (fun s' => typeIs_int s' k t) noFill_tuple_mul F.fills_int_mul F.slot_int_rmul repeat_tuple F.slot_int_index.lookup
      (call_meets F.slot_int_rmul (typeIs_int s k t) F.entry_int_rmul (F.args_int_rmul_2 _ _) (int_rmul_tuple k t l its.toArray n dd sl)
        ⟨ho, rfl, ⟨_, ho, rfl⟩, call_meets F.slot_tuple_mul ⟨_, ho, rfl⟩ F.entry_tuple_mul (F.args_tuple_mul_2 _ _) (tuple_mulS l its.toArray n dd sl k t c0 c1) ⟨ho, ⟨.ref l, H, I, rfl, q⟩⟩⟩)
  · have hn : its ≠ [] := fun e => hne (by
      rw [e] at hle
      exact List.eq_nil_of_length_eq_zero hle.symm)
    have hi : its.toArray.isEmpty = false := by
      cases its with
      | nil => exact absurd rfl hn
      | cons a b => rfl
    have c1 : (its.toArray.isEmpty || k == 1) = false := by
      rw [hi, Bool.false_or]
      exact beq_eq_false_iff_ne.mpr (by omega)
    have c2 : (decide (k ≤ 0) || its.toArray.isEmpty) = true := by
      rw [decide_eq_true hk0]; rfl
    refine wpAny_binaryOp_repeat_ref (T := "tuple") (U := "int") (by decide) ⟨_, ho, rfl⟩ (fun s' => typeIs_int s' k t) noFill_tuple_mul F.fills_int_mul F.slot_int_rmul repeat_tuple F.slot_int_index.lookup
      (call_meets F.slot_int_rmul (typeIs_int s k t) F.entry_int_rmul (F.args_int_rmul_2 _ _) (int_rmul_tuple k t l its.toArray n dd sl)
        ⟨ho, rfl, ⟨_, ho, rfl⟩, call_meets F.slot_tuple_mul ⟨_, ho, rfl⟩ F.entry_tuple_mul (F.args_tuple_mul_2 _ _) (tuple_mulN l its.toArray n dd sl k t c0 c1 c2) ⟨ho, ?_⟩⟩)
    refine ⟨.ref s.heap.objs.size, _, I.laid (t' := s.toks) (o := .tup []) (fun b ob q => Heap.get?_push_of_some _ q) (Nat.le_refl _) ?_, rfl, q _ (I.hok.fresh (Nat.le_refl _))⟩
    exact ⟨Nat.zero_le _, _, .nil, IsTup.new _ _⟩
theorem os_mul : OpS g opMul (fun x y H Q => rI CMul (fun i j => .int (i * j)) x y H Q ∨ rRep x y H Q ∨ rRepT g.K x y H Q ∨ rRepT0 g.K x y H Q) := by
  intro LW ι lσ lh H x y v w Q rh rx ry h
  unfold opMul at h
  split at h
  · split at h
    · cases rx; cases ry; rename_i hc; exact .inl ⟨_, _, rfl, rfl, small_of hc, h.ok rh (.int _)⟩
    · exact h.elim
  · split at h
    · rename_i xs k hz
      cases rx with
      | @tup a vs _ k1 k2 =>
        cases ry
        by_cases c : xs ≠ [] ∧ 2 ≤ k
        · refine .inr (.inr (.inl ⟨a, _, vs, rfl, rfl, k1, ?_, c.2, hz.2.1, by rw [k2.length]; exact hz.2.2, new_tup rh (k2.rep _) h⟩))
          intro e; subst e; cases k2; exact c.1 rfl
        · refine .inr (.inr (.inr ⟨a, _, vs, rfl, rfl, k1, hz.1, hz.2.1, by rw [k2.length]; exact hz.2.2, ?_⟩))
          by_cases c0 : xs = []
          · subst c0
            have e : (List.replicate k.toNat ([] : List LV)).flatten = [] := by simp
            rw [e] at h
            refine .inl ⟨.inl (by cases k2; rfl), h.ok rh (.tup k1 k2)⟩
          · by_cases c1 : k = 1
            · subst c1
              have e : (List.replicate (1 : Int).toNat xs).flatten = xs := by simp
              rw [e] at h
              exact .inl ⟨.inr rfl, h.ok rh (.tup k1 k2)⟩
            · have hk : k ≤ 0 := by
                have : ¬ 2 ≤ k := fun z => c ⟨c0, z⟩
                omega
              have e : (List.replicate k.toNat xs).flatten = [] := by rw [show k.toNat = 0 by omega]; rfl
              rw [e] at h
              exact .inr ⟨by intro e; subst e; cases k2; exact c0 rfl, hk, new_tup rh .nil h⟩
    · exact h.elim
  · split at h
    · rename_i e1
      split at h
      · rename_i hz
        cases rx with
        | @loc n a e3 =>
          cases ry
          obtain ⟨vs, k1, k2⟩ := rh.lst e1 e3
          exact .inr (.inl ⟨a, _, vs, rfl, rfl, k1, hz.1, hz.2.1, by rw [k2.length]; exact sz hz.2.2, new_lst rh (k2.rep _) h⟩)
      · exact h.elim
    · exact h.elim
  · exact h.elim
theorem q_mul (ha : PE X a (tE g LW ma)) (hb : PE X b (tE g LW mb)) (hK : X.K = g.K := by rfl) : PE X (.BinOp a .Mult b pos) (tE g LW (mOp opMul ma mb)) := q_op (op_mul.or (op_rep.or (by rw [← hK]; exact op_repT.or op_repT0))) os_mul ha hb
theorem os_mod : OpS g opMod (rI (fun _ j => 0 < j) fun i j => .int (i % j)) := by
  intro LW ι lσ lh H x y v w Q rh rx ry h
  unfold opMod at h
  split at h
  · split at h
    · cases rx; cases ry; rename_i hc; exact ⟨_, _, rfl, rfl, hc, h.ok rh (.int _)⟩
    · exact h.elim
  · exact h.elim
theorem q_mod (ha : PE X a (tE g LW ma)) (hb : PE X b (tE g LW mb)) : PE X (.BinOp a .Mod b pos) (tE g LW (mOp opMod ma mb)) := q_op op_mod os_mod ha hb
theorem os_div : OpS g opDiv (rI CDiv fun i j => .int (i / j)) := by
  intro LW ι lσ lh H x y v w Q rh rx ry h
  unfold opDiv at h
  split at h
  · split at h
    · cases rx; cases ry; rename_i hc; exact ⟨_, _, rfl, rfl, hc, h.ok rh (.int _)⟩
    · exact h.elim
  · exact h.elim
theorem q_div (ha : PE X a (tE g LW ma)) (hb : PE X b (tE g LW mb)) : PE X (.BinOp a .FloorDiv b pos) (tE g LW (mOp opDiv ma mb)) := q_op op_fdiv os_div ha hb
theorem os_pow : OpS g opPow (rI CPow fun i j => .int (i ^ j.toNat)) := by
  intro LW ι lσ lh H x y v w Q rh rx ry h
  unfold opPow at h
  split at h
  · split at h
    · cases rx; cases ry; rename_i hc; exact ⟨_, _, rfl, rfl, hc, h.ok rh (.int _)⟩
    · exact h.elim
  · exact h.elim
theorem q_pow (ha : PE X a (tE g LW ma)) (hb : PE X b (tE g LW mb)) : PE X (.BinOp a .Pow b pos) (tE g LW (mOp opPow ma mb)) := q_op op_pow os_pow ha hb
theorem us_neg : UnS g opNeg (rU fun i => .int (-i)) := by
  intro LW ι lσ lh H x v Q rh rx h
  unfold opNeg at h
  split at h
  · cases rx; exact ⟨_, rfl, h.ok rh (.int _)⟩
  · exact h.elim
theorem q_neg (ha : PE X a (tE g LW ma)) : PE X (.UnaryOp .USub a pos) (tE g LW (mUn opNeg ma)) := q_unR un_neg us_neg ha

/-! ### comparisons -/
theorem str_inj {a b : List Nat} : ((⟨a.toArray⟩ : Str) = ⟨b.toArray⟩) ↔ a = b := by
  constructor
  · intro h
    have := congrArg (fun s : Str => s.cps.toList) h
    simpa using this
  · intro h; rw [h]
theorem scal_of {ι : List Addr} {H : Hp} {x y : V} {v w : LV} {k : Bool} (rx : RV g ι H x v) (ry : RV g ι H y w) (h : scalE v w = some k) : scal x y = true ∧ decide (x = y) = k := by
  unfold scalE at h
  split at h <;> cases h <;> cases rx <;> cases ry <;> refine ⟨rfl, ?_⟩ <;> simp [str_inj]
/-! == of data -/
mutual
def toD : LV → PyData
  | .non => .none
  | .bl b => .bool b
  | .int i => .int i
  | .str s => .str ⟨s.toArray⟩
  | .tup xs => .tuple (toDs xs)
  | .loc _ => .none
  | .fn _ => .none
def toDs : List LV → List PyData
  | [] => []
  | x :: r => toD x :: toDs r
end
mutual
theorem dp_of {ι : List Addr} {H : Hp} : ∀ {d : Nat} {v : V} {x : LV}, RV g ι H v x → LV.dat d x = true → Dp g.K H v (toD x)
  | _, _, .non, r, _ => by cases r; exact .non
  | _, _, .bl _, r, _ => by cases r; exact .bl _
  | _, _, .int _, r, _ => by cases r; exact .int _
  | _, _, .str _, r, _ => by cases r; exact .str _
  | d, _, .tup xs, r, h => by
    cases r with
    | tup r1 r2 =>
      cases d with
      | zero => simp [LV.dat] at h
      | succ d => exact .tup r1 (dps_of r2 (by simpa [LV.dat] using h))
  | _, _, .loc _, _, h => by simp [LV.dat] at h
  | _, _, .fn _, _, h => by simp [LV.dat] at h
theorem dps_of {ι : List Addr} {H : Hp} : ∀ {d : Nat} {vs : List V} {xs : List LV}, RVs g ι H vs xs → LV.dats d xs = true → DpAll g.K H vs (toDs xs)
  | _, _, [], r, _ => by cases r; exact .nil
  | d, _, x :: xs, r, h => by
    cases r with
    | cons r1 r2 =>
      simp only [LV.dats, Bool.and_eq_true] at h
      exact .cons (dp_of r1 h.1) (dps_of r2 h.2)
end
mutual
theorem lay_of : ∀ {d : Nat} {x : LV}, LV.dat d x = true → (toD x).canLay0 = true ∧ (toD x).depth ≤ d
  | _, .non, _ => ⟨rfl, Nat.zero_le _⟩
  | _, .bl _, _ => ⟨rfl, Nat.zero_le _⟩
  | _, .int _, _ => ⟨rfl, Nat.zero_le _⟩
  | _, .str s, h => by
    refine ⟨?_, Nat.zero_le _⟩
    simp only [LV.dat, List.all_eq_true, decide_eq_true_eq] at h
    simp only [toD, PyData.canLay0, PyData.strOk]
    rw [Array.all_eq_true]
    intro i hi
    have := h s[i] (by simp)
    simpa using this
  | d, .tup xs, h => by
    cases d with
    | zero => simp [LV.dat] at h
    | succ d =>
      have := lays_of (d := d) (xs := xs) (by simpa [LV.dat] using h)
      exact ⟨by simpa [toD, PyData.canLay0] using this.1, by simp only [toD, PyData.depth]; omega⟩
  | _, .loc _, h => by simp [LV.dat] at h
  | _, .fn _, h => by simp [LV.dat] at h
theorem lays_of : ∀ {d : Nat} {xs : List LV}, LV.dats d xs = true → PyData.canLayAll0 (toDs xs) = true ∧ PyData.depthAll (toDs xs) ≤ d
  | _, [], _ => ⟨rfl, Nat.zero_le _⟩
  | d, x :: xs, h => by
    simp only [LV.dats, Bool.and_eq_true] at h
    have h1 := lay_of h.1
    have h2 := lays_of h.2
    simp only [toDs, PyData.canLayAll0, PyData.depthAll, h1.1, h2.1, Bool.and_self, true_and, Nat.max_le]
    exact ⟨h1.2, h2.2⟩
end
theorem shaped_of {x : LV} (h : LV.dat 64 x = true) : SeqAt.shaped (toD x) = true := by
  have := lay_of h
  unfold SeqAt.shaped
  rw [this.1, decide_eq_true this.2]; rfl
theorem strb_eq (a b : List Nat) : ((⟨a.toArray⟩ : Str) == (⟨b.toArray⟩ : Str)) = (a == b) := by
  by_cases e : a = b
  · subst e; simp
  · have h1 : ((⟨a.toArray⟩ : Str) == (⟨b.toArray⟩ : Str)) = false := by
      rw [beq_eq_false_iff_ne]; intro q; exact e (str_inj.mp q)
    rw [h1]; symm; rw [beq_eq_false_iff_ne]; exact e
mutual
theorem eqv_of : ∀ {d e : Nat} {x y : LV}, LV.dat d x = true → LV.dat e y = true → PyData.eqv (toD x) (toD y) = LV.eqv x y
  | d, e, .tup xs, y, h, k => by
    cases d with
    | zero => simp [LV.dat] at h
    | succ d =>
      cases y with
      | tup ys =>
        cases e with
        | zero => simp [LV.dat] at k
        | succ e =>
          have := eqvs_of (d := d) (e := e) (xs := xs) (ys := ys) (by simpa [LV.dat] using h) (by simpa [LV.dat] using k)
          simpa [toD, PyData.eqv, LV.eqv] using this
      | loc _ => simp [LV.dat] at k
      | fn _ => simp [LV.dat] at k
      | _ => simp [toD, PyData.eqv, LV.eqv]
  | _, _, .loc _, _, h, _ => by simp [LV.dat] at h
  | _, _, .fn _, _, h, _ => by simp [LV.dat] at h
  | _, _, .non, y, _, k => by cases y <;> simp [LV.dat] at k <;> simp [toD, PyData.eqv, LV.eqv]
  | _, _, .bl _, y, _, k => by cases y <;> simp [LV.dat] at k <;> simp [toD, PyData.eqv, LV.eqv]
  | _, _, .int _, y, _, k => by cases y <;> simp [LV.dat] at k <;> simp [toD, PyData.eqv, LV.eqv]
  | _, _, .str _, y, _, k => by cases y <;> simp [LV.dat] at k <;> simp [toD, PyData.eqv, LV.eqv, strb_eq]
theorem eqvs_of : ∀ {d e : Nat} {xs ys : List LV}, LV.dats d xs = true → LV.dats e ys = true → PyData.eqvAll (toDs xs) (toDs ys) = LV.eqvs xs ys
  | _, _, [], [], _, _ => by simp [toDs, PyData.eqvAll, LV.eqvs]
  | _, _, [], _ :: _, _, _ => by simp [toDs, PyData.eqvAll, LV.eqvs]
  | _, _, _ :: _, [], _, _ => by simp [toDs, PyData.eqvAll, LV.eqvs]
  | d, e, x :: xs, y :: ys, h, k => by
    simp only [LV.dats, Bool.and_eq_true] at h k
    simp only [toDs, PyData.eqvAll, LV.eqvs, eqv_of h.1 k.1, eqvs_of h.2 k.2]
end
abbrev rEqX (K : PySem.W.Frag) : R2 := fun x y H Q => rEq x y H Q ∨ rEqD K x y H Q
abbrev rNeX (K : PySem.W.Frag) : R2 := fun x y H Q => rNe x y H Q ∨ rNeD K x y H Q
theorem or_eq {k : Nat} (hr : Room k X.A) : OpR X (compareOp .Eq) (rEqX X.K) := op_eq.or (op_eqD (by have := hr.un; omega))
theorem or_ne {k : Nat} (hr : Room k X.A) : OpR X (compareOp .NotEq) (rNeX X.K) := op_ne.or (op_neD (by have := hr.un; omega))
theorem os_eq : OpS g opEq (rEqX g.K) := by
  intro LW ι lσ lh H x y v w Q rh rx ry h
  unfold opEq eqD at h
  split at h
  · rename_i k e
    split at e
    · rename_i e0
      cases e
      obtain ⟨h1, h2⟩ := scal_of rx ry e0
      exact .inl ⟨h1, by rw [h2]; exact h.ok rh (.bl _)⟩
    · split at e
      · rename_i hd
        cases e
        rw [Bool.and_eq_true] at hd
        exact .inr ⟨_, _, dp_of rx hd.1, dp_of ry hd.2, shaped_of hd.1, shaped_of hd.2, by rw [eqv_of hd.1 hd.2]; exact h.ok rh (.bl _)⟩
      · cases e
  · exact h.elim
theorem os_ne : OpS g opNe (rNeX g.K) := by
  intro LW ι lσ lh H x y v w Q rh rx ry h
  unfold opNe eqD at h
  split at h
  · rename_i k e
    split at e
    · rename_i e0
      cases e
      obtain ⟨h1, h2⟩ := scal_of rx ry e0
      exact .inl ⟨h1, by rw [h2]; exact h.ok rh (.bl _)⟩
    · split at e
      · rename_i hd
        cases e
        rw [Bool.and_eq_true] at hd
        exact .inr ⟨_, _, dp_of rx hd.1, dp_of ry hd.2, shaped_of hd.1, shaped_of hd.2, by rw [eqv_of hd.1 hd.2]; exact h.ok rh (.bl _)⟩
      · cases e
  · exact h.elim
theorem os_cmp {p : Int → Int → Bool} : OpS g (opCmp p) (rI0 fun i j => .bl (p i j)) := by
  intro LW ι lσ lh H x y v w Q rh rx ry h
  unfold opCmp at h
  split at h
  · cases rx; cases ry; exact ⟨_, _, rfl, rfl, h.ok rh (.bl _)⟩
  · exact h.elim
theorem q_eq {k : Nat} (hr : Room k X.A) (ha : PE X a (tE g LW ma)) (hb : PE X b (tE g LW mb)) (hK : X.K = g.K := by rfl) : PE X (.Compare a [.Eq] [b] pos) (tE g LW (mOp opEq ma mb)) := q_cmpR (or_eq hr) (by rw [hK]; exact os_eq) ha hb (nomark _)
theorem q_ne {k : Nat} (hr : Room k X.A) (ha : PE X a (tE g LW ma)) (hb : PE X b (tE g LW mb)) (hK : X.K = g.K := by rfl) : PE X (.Compare a [.NotEq] [b] pos) (tE g LW (mOp opNe ma mb)) := q_cmpR (or_ne hr) (by rw [hK]; exact os_ne) ha hb (nomark _)
theorem q_lt (ha : PE X a (tE g LW ma)) (hb : PE X b (tE g LW mb)) : PE X (.Compare a [.Lt] [b] pos) (tE g LW (mOp opLt ma mb)) := q_cmpR op_lt os_cmp ha hb (nomark _)
theorem q_le (ha : PE X a (tE g LW ma)) (hb : PE X b (tE g LW mb)) : PE X (.Compare a [.LtE] [b] pos) (tE g LW (mOp opLe ma mb)) := q_cmpR op_le os_cmp ha hb (nomark _)
theorem q_gt (ha : PE X a (tE g LW ma)) (hb : PE X b (tE g LW mb)) : PE X (.Compare a [.Gt] [b] pos) (tE g LW (mOp opGt ma mb)) := q_cmpR op_gt os_cmp ha hb (nomark _)
theorem q_ge (ha : PE X a (tE g LW ma)) (hb : PE X b (tE g LW mb)) : PE X (.Compare a [.GtE] [b] pos) (tE g LW (mOp opGe ma mb)) := q_cmpR op_ge os_cmp ha hb (nomark _)
theorem isN_of {ι : List Addr} {H : Hp} {x : V} {v : LV} (r : RV g ι H x v) : decide (x = .non) = isN v := by
  cases r <;> simp [isN]
theorem q_isN {j : Nat} {p2 : Pos} (ha : PE X a (tE g LW ma)) : PE X (.Compare a [.Is] [.Constant .none j p2] pos) (tE g LW (mUn opIsN ma)) := (pe_cmp (pc_isN ha)).wk fun σ H Q ⟨ι, lσ, lh, rs, rh, h⟩ =>
  ⟨ι, lσ, lh, rs, rh, fin_bind h fun ι1 x H1 v lh1 e1 rh1 rv1 h1 => by rw [isN_of rv1]; exact finR.ok h1 rh1 (.bl _)⟩
theorem q_notN {j : Nat} {p2 : Pos} (ha : PE X a (tE g LW ma)) : PE X (.Compare a [.IsNot] [.Constant .none j p2] pos) (tE g LW (mUn opNotN ma)) := (pe_cmp (pc_notN ha)).wk fun σ H Q ⟨ι, lσ, lh, rs, rh, h⟩ =>
  ⟨ι, lσ, lh, rs, rh, fin_bind h fun ι1 x H1 v lh1 e1 rh1 rv1 h1 => by rw [isN_of rv1]; exact finR.ok h1 rh1 (.bl _)⟩
theorem q_chain {op op' : CmpOp} {f f' : LV → LV → LH → R LV} {r r' : R2} (ho : OpR X (compareOp op) r) (hs : OpS g f r) (ho' : OpR X (compareOp op') r') (hs' : OpS g f' r') (ha : PE X a (tE g LW ma)) (hb : PE X b (tE g LW mb)) (hc : PE X c (tE g LW mc))
    (hm : lastMarks [op, op'] [b, c] = false := by with_unfolding_all rfl) : PE X (.Compare a [op, op'] [b, c] pos) (tE g LW (mChain f f' ma mb mc)) :=
  (pe_chain ho ho' ha hb hc hm).wk fun σ H Q ⟨ι, lσ, lh, rs, rh, h⟩ =>
    ⟨ι, lσ, lh, rs, rh, fin_bind h fun ι1 x H1 v lh1 e1 rh1 rv1 h1 => ⟨ι1, lσ, lh1, rs.mono e1, rh1, fin_bind h1 fun ι2 y H2 w lh2 e2 rh2 rv2 h2 =>
      hs LW ι2 lσ lh2 H2 x y v w _ rh2 (rv1.mono e2) rv2 (fin_bind (rel1 := relV g) h2 fun ι3 z H3 k lh3 e3 rh3 rv3 h3 => by
        split at h3
        · cases rv3
          exact ⟨true, rfl, by rw [if_pos rfl]; exact ⟨ι3, lσ, lh3, (rs.mono e1).mono (e2.trans e3), rh3, fin_bind h3 fun ι4 w' H4 w2 lh4 e4 rh4 rv4 h4 => hs' LW ι4 lσ lh4 H4 y w' w w2 Q rh4 (rv2.mono (e3.trans e4)) rv4 h4⟩⟩
        · cases rv3
          exact ⟨false, rfl, by rw [if_neg Bool.false_ne_true]; exact finR.ok h3 rh3 (.bl _)⟩
        · exact h3.elim)⟩⟩

/-! ### truth -/
theorem tru_of {ι : List Addr} {lσ : LSt} {H : Hp} {lh : LH} {x : V} {v : LV} {Q : Bool → Hp → Prop} (rh : RH g ι lh H) (r : RV g ι H x v) (h : finR relB g LW ι lσ H (tru v lh) Q) : ∃ k, TruV g.K x H k ∧ Q k H := by
  unfold tru at h
  split at h
  · cases r; exact ⟨false, rfl, h.ok rh rfl⟩
  · cases r; exact ⟨_, rfl, h.ok rh rfl⟩
  · cases r; exact ⟨_, rfl, h.ok rh rfl⟩
  · split at h
    · cases r
      rename_i s hz
      refine ⟨_, ⟨by rw [str_len]; exact sz hz, ?_⟩, h.ok rh rfl⟩
      rw [str_len]
      cases s with
      | nil => rfl
      | cons a r =>
        simp
        omega
    · exact h.elim
  · cases r with
    | @tup a vs _ ha ra =>
      refine ⟨_, .inr (.inl ⟨vs, ha, rfl⟩), ?_⟩
      have e := h.ok rh rfl
      cases ra <;> exact e
  · cases r with
    | @loc n a e3 =>
      split at h
      · rename_i e1
        obtain ⟨vs, k1, k2⟩ := rh.lst e1 e3
        refine ⟨_, .inl ⟨vs, .inl (.inl k1), rfl⟩, ?_⟩
        have e := h.ok rh rfl
        cases k2 <;> exact e
      · rename_i e1
        obtain ⟨vs, k1, k2⟩ := rh.rdL (by unfold rdL; rw [e1]) e3
        refine ⟨_, .inl ⟨vs, k1, rfl⟩, ?_⟩
        have e := h.ok rh rfl
        cases k2 <;> exact e
      · rename_i e1
        obtain ⟨vs, k1, k2⟩ := rh.dct e1 e3
        refine ⟨_, .inr (.inr ⟨vs, k1, rfl⟩), ?_⟩
        have e := h.ok rh rfl
        cases k2 <;> exact e
      · exact h.elim
  · exact h.elim
theorem q_tru (ha : PE X a (tE g LW ma)) (hK : X.K = g.K := by rfl) (he : ∀ whole, isTrue a X.env whole = (do let v ← whole; standAt a.pos; holding [v] (truthy v)) := by intro _; rfl) : PT X a (tT g LW (bE ma)) :=
  (pt_truth ha he).wk fun σ H Q ⟨ι, lσ, lh, rs, rh, h⟩ => ⟨ι, lσ, lh, rs, rh, fin_bind h fun ι1 x H1 v lh1 e1 rh1 rv1 h1 => by rw [hK]; exact tru_of rh1 rv1 h1⟩
/-- a comparison as a test -/
theorem q_tcmp {op : CmpOp} {f : LV → LV → LH → R LV} {r : R2} (ho : OpR X (compareOp op) r) (hs : OpS g f r) (ha : PE X a (tE g LW ma)) (hb : PE X b (tE g LW mb)) (hm : behindInMarks op b = false)
    (hB : ∀ v w lh, (∃ k, f v w lh = .ok (.bl k) lh) ∨ f v w lh = .bad) : PT X (.Compare a [op] [b] pos) (tT g LW (bE (mOp f ma mb))) :=
  (pt_cmpR ho ha hb hm).wk fun σ H Q h => by
    obtain ⟨ι, lσ, lh, rs, rh, h⟩ := h
    refine ⟨ι, lσ, lh, rs, rh, ?_⟩
    have h' : finR relB g LW ι lσ H ((ma lσ lh).bind fun x h1 => ((mb lσ h1).bind fun y h2 => f x y h2).bind tru) Q := by
      cases e : ma lσ lh with
      | ok v l => simpa [bE, mOp, e, R.bind] using h
      | exc x l => simpa [bE, mOp, e, R.bind] using h
      | bad => simpa [bE, mOp, e, R.bind] using h
    refine fin_bind h' fun ι1 x H1 v lh1 e1 rh1 rv1 h1 => ⟨ι1, lσ, lh1, rs.mono e1, rh1, ?_⟩
    have h1' : finR relB g LW ι1 lσ H1 ((mb lσ lh1).bind fun y h2 => (f v y h2).bind tru) Q := by
      cases e : mb lσ lh1 with
      | ok w l => simpa [e, R.bind] using h1
      | exc x l => simpa [e, R.bind] using h1
      | bad => simpa [e, R.bind] using h1
    refine fin_bind h1' fun ι2 y H2 w lh2 e2 rh2 rv2 h2 => hs LW ι2 lσ lh2 H2 x y v w _ rh2 (rv1.mono e2) rv2 ?_
    rcases hB v w lh2 with ⟨k, e⟩ | e
    · rw [e] at h2 ⊢
      exact fun ι3 z H3 e3 rh3 rv3 => by cases rv3; exact ⟨k, rfl, h2 ι3 k H3 e3 rh3 rfl⟩
    · rw [e] at h2
      exact h2.elim
theorem b_eq (v w : LV) (lh : LH) : (∃ k, opEq v w lh = .ok (.bl k) lh) ∨ opEq v w lh = .bad := by
  unfold opEq; split
  · exact .inl ⟨_, rfl⟩
  · exact .inr rfl
theorem b_ne (v w : LV) (lh : LH) : (∃ k, opNe v w lh = .ok (.bl k) lh) ∨ opNe v w lh = .bad := by
  unfold opNe; split
  · exact .inl ⟨_, rfl⟩
  · exact .inr rfl
theorem b_cmp (p : Int → Int → Bool) (v w : LV) (lh : LH) : (∃ k, opCmp p v w lh = .ok (.bl k) lh) ∨ opCmp p v w lh = .bad := by
  unfold opCmp; split
  · exact .inl ⟨_, rfl⟩
  · exact .inr rfl
theorem q_teq {k : Nat} (hr : Room k X.A) (ha : PE X a (tE g LW ma)) (hb : PE X b (tE g LW mb)) (hK : X.K = g.K := by rfl) : PT X (.Compare a [.Eq] [b] pos) (tT g LW (bE (mOp opEq ma mb))) := q_tcmp (or_eq hr) (by rw [hK]; exact os_eq) ha hb (nomark _) b_eq
theorem q_tne {k : Nat} (hr : Room k X.A) (ha : PE X a (tE g LW ma)) (hb : PE X b (tE g LW mb)) (hK : X.K = g.K := by rfl) : PT X (.Compare a [.NotEq] [b] pos) (tT g LW (bE (mOp opNe ma mb))) := q_tcmp (or_ne hr) (by rw [hK]; exact os_ne) ha hb (nomark _) b_ne
theorem q_tlt (ha : PE X a (tE g LW ma)) (hb : PE X b (tE g LW mb)) : PT X (.Compare a [.Lt] [b] pos) (tT g LW (bE (mOp opLt ma mb))) := q_tcmp op_lt os_cmp ha hb (nomark _) (b_cmp _)
theorem q_tle (ha : PE X a (tE g LW ma)) (hb : PE X b (tE g LW mb)) : PT X (.Compare a [.LtE] [b] pos) (tT g LW (bE (mOp opLe ma mb))) := q_tcmp op_le os_cmp ha hb (nomark _) (b_cmp _)
theorem q_tgt (ha : PE X a (tE g LW ma)) (hb : PE X b (tE g LW mb)) : PT X (.Compare a [.Gt] [b] pos) (tT g LW (bE (mOp opGt ma mb))) := q_tcmp op_gt os_cmp ha hb (nomark _) (b_cmp _)
theorem q_tge (ha : PE X a (tE g LW ma)) (hb : PE X b (tE g LW mb)) : PT X (.Compare a [.GtE] [b] pos) (tT g LW (bE (mOp opGe ma mb))) := q_tcmp op_ge os_cmp ha hb (nomark _) (b_cmp _)
/-- any expression that gives a bool, by pt_val -/
theorem q_tval {e : Expr} {m : ME} (h : PE X e (tE g LW m)) (he : ∀ whole, isTrue e X.env whole = (do let v ← whole; standAt e.pos; holding [v] (truthy v)) := by intro _; rfl) (hK : X.K = g.K := by rfl) : PT X e (tT g LW (bE m)) := q_tru h hK he
theorem q_tnot {t : MB} (h : PT X a (tT g LW t)) : PT X (.UnaryOp .Not a pos) (tT g LW (bNot t)) := (pt_not h).wk fun σ H Q ⟨ι, lσ, lh, rs, rh, h⟩ =>
  ⟨ι, lσ, lh, rs, rh, fin_bind h fun ι1 x H1 v lh1 e1 rh1 rv1 h1 => by cases rv1; exact finR.ok h1 rh1 rfl⟩
theorem q_and1 {t : MB} (h : PT X a (tT g LW t)) : PW X (.BoolOp .And [a] pos) (tT g LW t) := pw_and1 h
theorem q_or1 {t : MB} (h : PT X a (tT g LW t)) : PW X (.BoolOp .Or [a] pos) (tT g LW t) := pw_or1 h
theorem q_tand {t u : MB} {rest : List Expr} (ha : PT X a (tT g LW t)) (hb : PW X (.BoolOp .And (b :: rest) pos) (tT g LW u)) : PW X (.BoolOp .And (a :: b :: rest) pos) (tT g LW (bAnd t u)) := (pw_and ha hb).wk fun σ H Q ⟨ι, lσ, lh, rs, rh, h⟩ =>
  ⟨ι, lσ, lh, rs, rh, fin_bind h fun ι1 x H1 v lh1 e1 rh1 rv1 h1 => by
    cases rv1
    cases x with
    | true => rw [if_pos rfl] at h1 ⊢; exact ⟨ι1, lσ, lh1, rs.mono e1, rh1, h1⟩
    | false => rw [if_neg Bool.false_ne_true] at h1 ⊢; exact finR.ok h1 rh1 rfl⟩
theorem q_tor {t u : MB} {rest : List Expr} (ha : PT X a (tT g LW t)) (hb : PW X (.BoolOp .Or (b :: rest) pos) (tT g LW u)) : PW X (.BoolOp .Or (a :: b :: rest) pos) (tT g LW (bOr t u)) := (pw_or ha hb).wk fun σ H Q ⟨ι, lσ, lh, rs, rh, h⟩ =>
  ⟨ι, lσ, lh, rs, rh, fin_bind h fun ι1 x H1 v lh1 e1 rh1 rv1 h1 => by
    cases rv1
    cases x with
    | false => rw [if_neg Bool.false_ne_true] at h1 ⊢; exact ⟨ι1, lσ, lh1, rs.mono e1, rh1, h1⟩
    | true => rw [if_pos rfl] at h1 ⊢; exact finR.ok h1 rh1 rfl⟩
/-- values -/
theorem q_one {op : BoolOp} (h : PE X a (tE g LW ma)) : PE X (.BoolOp op [a] pos) (tE g LW ma) := pe_one h
theorem q_and {rest : List Expr} (ha : PE X a (tE g LW ma)) (hb : PE X (.BoolOp .And (b :: rest) pos) (tE g LW mb)) (hK : X.K = g.K := by rfl) : PE X (.BoolOp .And (a :: b :: rest) pos) (tE g LW (mAnd ma mb)) := (pe_andT ha hb).wk fun σ H Q ⟨ι, lσ, lh, rs, rh, h⟩ =>
  ⟨ι, lσ, lh, rs, rh, fin_bind h fun ι1 x H1 v lh1 e1 rh1 rv1 h1 => by
    rw [hK]
    refine tru_of (Q := fun k H1 => if k = true then tE g LW mb σ H1 Q else Q x H1) rh1 rv1 (fin_bind (rel1 := relB) h1 fun ι2 k H2 w lh2 e2 rh2 rv2 h2 => ?_)
    cases rv2
    cases k with
    | true => rw [if_pos rfl] at h2 ⊢; exact ⟨ι2, lσ, lh2, rs.mono (e1.trans e2), rh2, h2⟩
    | false => rw [if_neg Bool.false_ne_true] at h2 ⊢; exact finR.ok h2 rh2 (rv1.mono e2)⟩
theorem q_or {rest : List Expr} (ha : PE X a (tE g LW ma)) (hb : PE X (.BoolOp .Or (b :: rest) pos) (tE g LW mb)) (hK : X.K = g.K := by rfl) : PE X (.BoolOp .Or (a :: b :: rest) pos) (tE g LW (mOr ma mb)) := (pe_orT ha hb).wk fun σ H Q ⟨ι, lσ, lh, rs, rh, h⟩ =>
  ⟨ι, lσ, lh, rs, rh, fin_bind h fun ι1 x H1 v lh1 e1 rh1 rv1 h1 => by
    rw [hK]
    refine tru_of (Q := fun k H1 => if k = true then Q x H1 else tE g LW mb σ H1 Q) rh1 rv1 (fin_bind (rel1 := relB) h1 fun ι2 k H2 w lh2 e2 rh2 rv2 h2 => ?_)
    cases rv2
    cases k with
    | true => rw [if_pos rfl] at h2 ⊢; exact finR.ok h2 rh2 (rv1.mono e2)
    | false => rw [if_neg Bool.false_ne_true] at h2 ⊢; exact ⟨ι2, lσ, lh2, rs.mono (e1.trans e2), rh2, h2⟩⟩
theorem q_not (ha : PE X a (tE g LW ma)) (hK : X.K = g.K := by rfl) : PE X (.UnaryOp .Not a pos) (tE g LW (mNot ma)) := (pe_notT ha).wk fun σ H Q ⟨ι, lσ, lh, rs, rh, h⟩ =>
  ⟨ι, lσ, lh, rs, rh, fin_bind h fun ι1 x H1 v lh1 e1 rh1 rv1 h1 => by
    rw [hK]
    refine tru_of rh1 rv1 (fin_bind (rel1 := relB) h1 fun ι2 k H2 w lh2 e2 rh2 rv2 h2 => ?_)
    cases rv2
    exact finR.ok h2 rh2 (.bl _)⟩
theorem q_if {t : MB} (hc : PT X c (tT g LW t)) (ha : PE X a (tE g LW ma)) (hb : PE X b (tE g LW mb)) : PE X (.IfExp c a b pos) (tE g LW (mIf t ma mb)) := (pe_ifExp hc ha hb).wk fun σ H Q ⟨ι, lσ, lh, rs, rh, h⟩ =>
  ⟨ι, lσ, lh, rs, rh, fin_bind h fun ι1 x H1 v lh1 e1 rh1 rv1 h1 => by
    cases rv1
    cases x with
    | true => rw [if_pos rfl] at h1 ⊢; exact ⟨ι1, lσ, lh1, rs.mono e1, rh1, h1⟩
    | false => rw [if_neg Bool.false_ne_true] at h1 ⊢; exact ⟨ι1, lσ, lh1, rs.mono e1, rh1, h1⟩⟩

/-! ### arguments, displays -/
variable {es : List Expr} {ta : MA}
theorem q_nil : PA X [] (tA g LW aNil) := pa_nil.wk fun σ H Q ⟨ι, lσ, lh, rs, rh, h⟩ => h.ok rh .nil
theorem q_cons (ha : PE X a (tE g LW ma)) (hr : PA X es (tA g LW ta)) (hs : starEach (a :: es) X.env = (false, eval a X.env) :: starEach es X.env := by rfl) : PA X (a :: es) (tA g LW (aCons ma ta)) := (pa_cons ha hr hs).wk fun σ H Q ⟨ι, lσ, lh, rs, rh, h⟩ =>
  ⟨ι, lσ, lh, rs, rh, fin_bind h fun ι1 x H1 v lh1 e1 rh1 rv1 h1 => ⟨ι1, lσ, lh1, rs.mono e1, rh1, fin_bind h1 fun ι2 xs H2 w lh2 e2 rh2 rv2 h2 => finR.ok h2 rh2 (.cons (rv1.mono e2) rv2)⟩⟩
theorem q_tup {n : Nat} (h : PA X es (tA g LW ta)) : PE X (.Tuple es n pos) (tE g LW (mTup ta)) := (pe_tup h).wk fun σ H Q ⟨ι, lσ, lh, rs, rh, h⟩ =>
  ⟨ι, lσ, lh, rs, rh, fin_bind h fun ι1 xs H1 v lh1 e1 rh1 rv1 h1 => by
    split at h1
    · rename_i hz
      exact ⟨by rw [rv1.length]; exact sz hz, new_tup rh1 rv1 h1⟩
    · exact h1.elim⟩
theorem q_lst (h : PA X es (tA g LW ta)) : PE X (.List es pos) (tE g LW (mLst ta)) := (pe_lst h).wk fun σ H Q ⟨ι, lσ, lh, rs, rh, h⟩ =>
  ⟨ι, lσ, lh, rs, rh, fin_bind h fun ι1 xs H1 v lh1 e1 rh1 rv1 h1 => by
    split at h1
    · rename_i hz
      exact ⟨by rw [rv1.length]; exact sz hz, new_lst rh1 rv1 h1⟩
    · exact h1.elim⟩
theorem q_dct : PE X (.Dict [] [] pos) (tE g LW mDct) := pe_dnewK.wk fun σ H Q ⟨ι, lσ, lh, rs, rh, h⟩ => fun p hp =>
  h (ι ++ [p]) (.ref p) _ (Ext.freshI hp) (rh.alloc hp ⟨[], upd_same, .nil⟩) (.loc (by rw [← rh.len]; simp))
end
end Mi
namespace Mi
open PySem PySem.Spec PyProof.Rows L2

theorem ix_same (n : Nat) (i : Int) : ixL n i = ixN n i := rfl
theorem sIx_same (n d : Nat) (i : Option Int) : sIx n d i = HT.sIx n d i := by
  cases i with
  | none => rfl
  | some i =>
    unfold sIx HT.sIx
    by_cases h : 0 ≤ i
    · simp [h, show ¬ i < 0 by omega]
    · simp [h, show i < 0 by omega]
      omega
theorem keyR_inj {a b : LKey} : keyR a = keyR b ↔ a = b := by
  cases a <;> cases b <;> simp [keyR, str_inj]
theorem RK.find {g : GG} {ι : List Addr} {H : Hp} {vs : List (L2.Key × V)} {xs : List (LKey × LV)} (h : RK g ι H vs xs) (k : LKey) :
    (∃ v x, valV vs (keyR k) = some v ∧ kget xs k = some x ∧ RV g ι H v x) ∨ (valV vs (keyR k) = none ∧ kget xs k = none) := by
  induction h with
  | nil => exact .inr ⟨rfl, rfl⟩
  | @cons j v x r s a b ih =>
    by_cases e : j = k
    · subst e
      exact .inl ⟨v, x, by simp [valV], by simp [kget], a⟩
    · have e' : ¬ keyR j = keyR k := fun z => e (keyR_inj.mp z)
      have q1 : valV ((keyR j, v) :: r) (keyR k) = valV r (keyR k) := by simp [valV, List.find?_cons, e']
      have q2 : kget ((j, x) :: s) k = kget s k := by simp [kget, List.find?_cons, e]
      rw [q1, q2]
      exact ih
theorem RK.length {g : GG} {ι : List Addr} {H : Hp} {vs : List (L2.Key × V)} {xs : List (LKey × LV)} (h : RK g ι H vs xs) : vs.length = xs.length := by
  induction h with
  | nil => rfl
  | cons _ _ ih => simp [ih]
theorem RK.append {g : GG} {ι : List Addr} {H : Hp} {vs ws : List (L2.Key × V)} {xs ys : List (LKey × LV)} (h : RK g ι H vs xs) (k : RK g ι H ws ys) : RK g ι H (vs ++ ws) (xs ++ ys) := by
  induction h with
  | nil => exact k
  | cons a _ ih => exact .cons a ih
theorem RK.put {g : GG} {ι : List Addr} {H : Hp} {vs : List (L2.Key × V)} {xs : List (LKey × LV)} (h : RK g ι H vs xs) (k : LKey) {v : V} {x : LV} (r : RV g ι H v x) : RK g ι H (putK vs (keyR k) v) (kput xs k x) := by
  have e : (vs.any fun kv => decide (kv.1 = keyR k)) = (xs.any fun kv => decide (kv.1 = k)) := by
    induction h with
    | nil => rfl
    | cons a b ih => rw [List.any_cons, List.any_cons, ih]; simp [keyR_inj]
  have m : RK g ι H (vs.map fun kv => if kv.1 = keyR k then (kv.1, v) else kv) (xs.map fun kv => if kv.1 = k then (kv.1, x) else kv) := by
    clear e
    induction h with
    | nil => exact .nil
    | @cons j w y r' s a b ih =>
      rw [List.map_cons, List.map_cons]
      by_cases e : j = k
      · subst e; simp only [if_true]; exact .cons r ih
      · rw [if_neg (show ¬ (keyR j, w).1 = keyR k from fun z => e (keyR_inj.mp z)), if_neg (show ¬ (j, y).1 = k from e)]; exact .cons a ih
  unfold putK kput
  rw [e]
  split
  · exact m
  · exact h.append (.cons r .nil)
theorem keyOf_of {g : GG} {ι : List Addr} {H : Hp} {v : V} {x : LV} {k : LKey} (r : RV g ι H v x) (e : keyOf x = some k) : v = kV (keyR k) := by
  unfold keyOf at e
  split at e
  · cases e; cases r; rfl
  · cases e; cases r; rfl
  · cases e
theorem fin_ix {g : GG} {LW : LWish} {ι : List Addr} {lσ : LSt} {H : Hp} {lh : LH} {xs : List LV} {vs : List V} {i : Int} {Q : VK} (rh : RH g ι lh H) (r : RVs g ι H vs xs)
    (h : finR (relV g) g LW ι lσ H (match (ixL xs.length i).bind fun j => xs[j]? with | some v => .ok v lh | none => .bad) Q) : ∃ v, atI vs i = some v ∧ Q v H := by
  split at h
  · rename_i x e
    have e' : (ixL vs.length i).bind (fun j => xs[j]?) = some x := by rw [r.length]; exact e
    obtain ⟨j, e1, e2⟩ := Option.bind_eq_some_iff.mp e'
    obtain ⟨v, h1, h2⟩ := r.get e2
    refine ⟨v, ?_, h.ok rh h2⟩
    unfold atI
    rw [← ix_same, e1]
    exact h1
  · exact h.elim

section
variable {X : Cx} {g : GG} {LW : LWish} {a b c : Expr} {ma mb mc : ME} {pos : Pos}
/-- two rules for one construct, chosen by the values -/
theorem t2_or {f : LV → LV → LH → R LV} (sel : LV → LV → LH → Bool) {r r' : V → V → Hp → Prop} {σ : L2.St} {H : Hp} {Q : VK} (h : tE g LW (mOp f ma mb) σ H Q)
    (k1 : ∀ (ι : List Addr) (lσ : LSt) (lh : LH) (H : Hp) x y v w, RH g ι lh H → RV g ι H x v → RV g ι H y w → sel v w lh = true → finR (relV g) g LW ι lσ H (f v w lh) Q → r x y H)
    (k2 : ∀ (ι : List Addr) (lσ : LSt) (lh : LH) (H : Hp) x y v w, RH g ι lh H → RV g ι H x v → RV g ι H y w → sel v w lh = false → finR (relV g) g LW ι lσ H (f v w lh) Q → r' x y H) :
    (tE g LW ma σ H fun x H1 => tE g LW mb σ H1 fun y H2 => r x y H2) ∨ (tE g LW ma σ H fun x H1 => tE g LW mb σ H1 fun y H2 => r' x y H2) := by
  obtain ⟨ι, lσ, lh, rs, rh, h⟩ := h
  simp only [mOp] at h
  cases e1 : ma lσ lh with
  | bad => rw [e1] at h; exact h.elim
  | exc x l => rw [e1] at h; exact .inl ⟨ι, lσ, lh, rs, rh, by rw [e1]; exact h⟩
  | ok v l1 =>
    rw [e1] at h
    simp only [R.bind] at h
    cases e2 : mb lσ l1 with
    | bad => rw [e2] at h; exact h.elim
    | exc x l =>
      rw [e2] at h
      refine .inl ⟨ι, lσ, lh, rs, rh, ?_⟩
      rw [e1]
      intro ι1 x1 H1 x2 rh1 rv1
      exact ⟨ι1, lσ, l1, rs.mono x2, rh1, by rw [e2]; exact h⟩
    | ok w l2 =>
      rw [e2] at h
      cases e3 : sel v w l2 with
      | true =>
        refine .inl ⟨ι, lσ, lh, rs, rh, ?_⟩
        rw [e1]
        intro ι1 x1 H1 x2 rh1 rv1
        refine ⟨ι1, lσ, l1, rs.mono x2, rh1, ?_⟩
        rw [e2]
        intro ι2 y H2 x3 rh2 rv2
        exact k1 ι2 lσ l2 H2 x1 y v w rh2 (rv1.mono x3) rv2 e3 (finR.mono (x2.trans x3) h)
      | false =>
        refine .inr ⟨ι, lσ, lh, rs, rh, ?_⟩
        rw [e1]
        intro ι1 x1 H1 x2 rh1 rv1
        refine ⟨ι1, lσ, l1, rs.mono x2, rh1, ?_⟩
        rw [e2]
        intro ι2 y H2 x3 rh2 rv2
        exact k2 ι2 lσ l2 H2 x1 y v w rh2 (rv1.mono x3) rv2 e3 (finR.mono (x2.trans x3) h)
def selD (v _w : LV) (h : LH) : Bool := match v with
  | .loc n => match h[n]? with
    | some (.dct _) => true
    | _ => false
  | _ => false
/-- a[b], whatever a is -/
theorem q_ix (hu : X.A.units + 1 < cLine) (ha : PE X a (tE g LW ma)) (hb : PE X b (tE g LW mb)) (hs : PlainIx b := by exact fun _ _ => rfl) (hK : X.K = g.K := by rfl) : PE X (.Subscript a b pos) (tE g LW (mOp opIx ma mb)) :=
  ((pe_dget hu ha hb hs).or (pe_ix ix_seq ha hb hs)).wk fun σ H Q h => by
    refine t2_or selD (r' := fun x y H2 => rIx X.K x y H2 Q) h ?_ ?_
    · intro ι lσ lh H x y v w rh rx ry s h
      cases v with
      | loc n =>
        cases rx with
        | @loc _ a e =>
        simp only [selD] at s
        split at s
        · rename_i kvs e1
          simp only [opIx, e1] at h
          obtain ⟨vs, h1, h2⟩ := rh.dct e1 e
          split at h
          · rename_i z e2
            obtain ⟨k, e3, e4⟩ := Option.bind_eq_some_iff.mp e2
            rcases h2.find k with ⟨v, x, q1, q2, q3⟩ | ⟨_, q2⟩
            · rw [e4] at q2; cases q2
              rw [keyOf_of ry e3]
              exact ⟨a, v, rfl, q1 ▸ DGet.k h1, h.ok rh q3⟩
            · rw [e4] at q2; cases q2
          · exact h.elim
        · cases s
      | _ => cases s
    · intro ι lσ lh H x y v w rh rx ry s h
      rw [hK]
      cases v with
      | tup xs =>
        cases rx with
        | @tup a vs _ h1 h2 =>
        cases w with
        | int i =>
          cases ry
          obtain ⟨v, q1, q2⟩ := fin_ix rh h2 h
          exact .inr (.inl ⟨a, vs, i, v, rfl, rfl, h1, q1, q2⟩)
        | _ => exact h.elim
      | str cs =>
        cases rx
        cases w with
        | int i =>
          cases ry
          simp only [opIx] at h
          split at h
          · rename_i z e
            split at h
            · rename_i hz
              refine .inr (.inr ⟨_, i, z, rfl, rfl, by rw [str_len]; exact sz hz, ?_, h.ok rh (.str [z])⟩)
              unfold atI
              rw [← ix_same]
              exact e
            · exact h.elim
          · exact h.elim
        | _ => exact h.elim
      | loc n =>
        cases rx with
        | @loc _ a e =>
        simp only [selD] at s
        simp only [opIx] at h
        split at h
        · rename_i xs e1
          split at h
          · rename_i i
            cases ry
            obtain ⟨vs, h1, h2⟩ := rh.lst e1 e
            obtain ⟨v, q1, q2⟩ := fin_ix rh h2 h
            exact .inl ⟨a, vs, i, v, rfl, rfl, .inl (.inl h1), q1, q2⟩
          · exact h.elim
        · rename_i xs e1
          split at h
          · rename_i i
            cases ry
            obtain ⟨vs, h1, h2⟩ := rh.rdL (by unfold rdL; rw [e1]) e
            obtain ⟨v, q1, q2⟩ := fin_ix rh h2 h
            exact .inl ⟨a, vs, i, v, rfl, rfl, h1, q1, q2⟩
          · exact h.elim
        · rename_i kvs e1
          rw [e1] at s; cases s
        · exact h.elim
      | _ => exact h.elim

/-! ### slices -/
theorem q_oNone : PO X none (tO g LW oNone) := po_none.wk fun σ H Q ⟨ι, lσ, lh, rs, rh, h⟩ => h.ok rh rfl
theorem q_oSome (ha : PE X a (tE g LW ma)) : PO X (some a) (tO g LW (oSome ma)) := (po_some ha).wk fun σ H Q ⟨ι, lσ, lh, rs, rh, h⟩ =>
  ⟨ι, lσ, lh, rs, rh, fin_bind h fun ι1 x H1 v lh1 e1 rh1 rv1 h1 => by
    split at h1
    · cases rv1; exact ⟨_, rfl, h1.ok rh1 rfl⟩
    · exact h1.elim⟩
theorem cut_len {g : GG} {ι : List Addr} {H : Hp} {vs : List V} {xs : List LV} (r : RVs g ι H vs xs) (lo hi : Option Int) : RVs g ι H (cutV vs lo hi) (cutL xs lo hi) := by
  unfold cutV cutL
  rw [r.length, ← sIx_same, ← sIx_same]
  exact (r.drop _).take _
theorem cut_all {vs : List V} {lo hi : Option Int} (h : HT.sIx vs.length 0 lo = 0 ∧ HT.sIx vs.length vs.length hi = vs.length) : cutV vs lo hi = vs := by
  unfold cutV
  rw [h.1, h.2]
  simp
theorem q_slice {lo hi : Option Expr} {ml mh : MO} {p2 : Pos} (ha : PE X a (tE g LW ma)) (hl : PO X lo (tO g LW ml)) (hh : PO X hi (tO g LW mh)) (hK : X.K = g.K := by rfl) : PE X (.Subscript a (.Slice lo hi none p2) pos) (tE g LW (mSl ma ml mh)) :=
  (pe_slice (sl_list.or sl_tupA) ha hl hh).wk fun σ H Q ⟨ι, lσ, lh, rs, rh, h⟩ =>
    ⟨ι, lσ, lh, rs, rh, fin_bind h fun ι1 x H1 v lh1 e1 rh1 rv1 h1 => ⟨ι1, lσ, lh1, rs.mono e1, rh1, fin_bind h1 fun ι2 l H2 l' lh2 e2 rh2 rv2 h2 => ⟨ι2, lσ, lh2, (rs.mono e1).mono e2, rh2, fin_bind h2 fun ι3 u H3 u' lh3 e3 rh3 rv3 h3 => by
      rw [hK]
      cases rv2
      cases rv3
      have rv := rv1.mono (e2.trans e3)
      cases v with
      | tup xs =>
        cases rv with
        | @tup a vs _ k1 k2 =>
        refine .inr ⟨a, vs, rfl, k1, fun z => ?_, fun _ => ?_⟩
        · have c := cut_len k2 l u
          rw [cut_all z] at c
          exact finR.ok h3 rh3 (.tup k1 c)
        · exact new_tup rh3 (cut_len k2 l u) h3
      | loc n =>
        cases rv with
        | @loc _ a e =>
        simp only [opSl] at h3
        split at h3
        · rename_i xs q
          obtain ⟨vs, k1, k2⟩ := rh3.rdL q e
          exact .inl ⟨a, vs, rfl, k1, new_lst rh3 (cut_len k2 l u) h3⟩
        · exact h3.elim
      | _ => exact h3.elim⟩⟩⟩

/-! ### built-in functions and types -/
def CaS (g : GG) (f : List LV → LH → R LV) (r : List V → Hp → VK → Prop) : Prop := ∀ (LW : LWish) (ι : List Addr) (lσ : LSt) (lh : LH) (H : Hp) (xs : List V) (vs : List LV) (Q : VK),
  RH g ι lh H → RVs g ι H xs vs → finR (relV g) g LW ι lσ H (f vs lh) Q → r xs H Q
variable {es : List Expr} {ta : MA}
theorem tCB_of {f : List LV → LH → R LV} {r : List V → Hp → VK → Prop} (hs : CaS g f r) {σ : L2.St} {H : Hp} {Q : VK} (h : tE g LW (mB f ta) σ H Q) : tCB r (tA g LW ta) σ H Q := by
  obtain ⟨ι, lσ, lh, rs, rh, h⟩ := h
  exact ⟨ι, lσ, lh, rs, rh, fin_bind h fun ι1 x H1 v lh1 e1 rh1 rv1 h1 => hs LW ι1 lσ lh1 H1 x v Q rh1 rv1 h1⟩
theorem q_cB {x : Str} {p : Pos} {id : String} {f : List LV → LH → R LV} {r : List V → Hp → VK → Prop} (hc : CallR X (.builtin id) r) (hs : CaS g f r) (hg : Gl X x) (hm : X.mg x = none) (hv : bootBuiltins x = some (.builtin id)) (ha : PA X (a :: es) (tA g LW ta)) (hn : x ≠ "__name__" := by decide) (hdb : (x == ("__debug__" : Str)) = false := by decide)
    (he : starEach (a :: es) X.env = (false, eval a X.env) :: starEach es X.env := by rfl) (hpl : (backTo pos (starEach es X.env)).any (·.1) = false := by rfl) : PE X (.Call (.Name x p) (a :: es) [] pos) (tE g LW (mB f ta)) :=
  (pe_callB hc hg hm hv ha hn hdb he hpl).wk fun _ _ _ h => tCB_of hs h
theorem q_cTy {x : Str} {p : Pos} {T : String} {f : List LV → LH → R LV} {r : List V → Hp → VK → Prop} (hc : CallR X (.type T) r) (hs : CaS g f r) (hg : Gl X x) (hm : X.mg x = none) (hv : bootBuiltins x = some (.type T)) (ha : PA X (a :: es) (tA g LW ta)) (hn : x ≠ "__name__" := by decide) (hdb : (x == ("__debug__" : Str)) = false := by decide)
    (he : starEach (a :: es) X.env = (false, eval a X.env) :: starEach es X.env := by rfl) (hpl : (backTo pos (starEach es X.env)).any (·.1) = false := by rfl) : PE X (.Call (.Name x p) (a :: es) [] pos) (tE g LW (mB f ta)) :=
  (pe_callTy hc hg hm hv ha hn hdb he hpl).wk fun _ _ _ h => tCB_of hs h
abbrev rLenX (K : PySem.W.Frag) : List V → Hp → VK → Prop := fun xs H Q => (∃ x n, xs = [x] ∧ LenV K x H n ∧ Q (.int n) H) ∨ ∃ a kvs, xs = [V.ref a] ∧ H a = some (.dK kvs) ∧ Q (.int kvs.length) H
theorem or_len : CallR X (.builtin "len") (rLenX X.K) := call_len.or call_lenD
theorem cs_len : CaS g fLen (rLenX g.K) := by
  intro LW ι lσ lh H xs vs Q rh r h
  unfold fLen at h
  split at h
  · cases r with
    | cons r1 r2 =>
    cases r2
    cases r1 with
    | @tup a vs _ k1 k2 =>
    refine .inl ⟨_, vs.length, rfl, .inr ⟨vs, k1, rfl⟩, ?_⟩
    rw [k2.length]
    exact h.ok rh (.int _)
  · split at h
    · cases r with
      | cons r1 r2 =>
      cases r2
      cases r1
      rename_i s hz
      refine .inl ⟨_, s.length, rfl, ⟨by rw [str_len]; exact sz hz, by rw [str_len]⟩, h.ok rh (.int _)⟩
    · exact h.elim
  · cases r with
    | cons r1 r2 =>
    cases r2
    cases r1 with
    | @loc n a e =>
    split at h
    · rename_i xs e1
      obtain ⟨vs, k1, k2⟩ := rh.lst e1 e
      refine .inl ⟨_, vs.length, rfl, .inl ⟨vs, .inl (.inl k1), rfl⟩, ?_⟩
      rw [k2.length]
      exact h.ok rh (.int _)
    · rename_i xs e1
      obtain ⟨vs, k1, k2⟩ := rh.rdL (by unfold rdL; rw [e1]) e
      refine .inl ⟨_, vs.length, rfl, .inl ⟨vs, k1, rfl⟩, ?_⟩
      rw [k2.length]
      exact h.ok rh (.int _)
    · rename_i xs e1
      obtain ⟨vs, k1, k2⟩ := rh.dct e1 e
      refine .inr ⟨_, vs, rfl, k1, ?_⟩
      rw [k2.length]
      exact h.ok rh (.int _)
    · exact h.elim
  · exact h.elim
theorem q_len {p : Pos} (hg : Gl X "len") (hm : X.mg "len" = none) (ha : PE X a (tE g LW ma)) (hK : X.K = g.K := by rfl) (hs : starEach [a] X.env = (false, eval a X.env) :: starEach [] X.env := by rfl) : PE X (.Call (.Name "len" p) [a] [] pos) (tE g LW (mB fLen (aCons ma aNil))) :=
  q_cB or_len (by rw [hK]; exact cs_len) hg hm PySem.boot_len (q_cons ha q_nil hs) (by decide) (by decide) hs
theorem cs_int : CaS g fInt (fun xs H Q => (∃ i, xs = [.int i] ∧ Q (.int i) H) ∨ ∃ k, xs = [.bl k] ∧ Q (.int (if k then 1 else 0)) H) := by
  intro LW ι lσ lh H xs vs Q rh r h
  unfold fInt at h
  split at h
  · cases r with
    | cons r1 r2 => cases r2; cases r1; exact .inl ⟨_, rfl, h.ok rh (.int _)⟩
  · cases r with
    | cons r1 r2 => cases r2; cases r1; exact .inr ⟨_, rfl, h.ok rh (.int _)⟩
  · exact h.elim
theorem q_int1 {p : Pos} (hg : Gl X "int") (hm : X.mg "int" = none) (ha : PE X a (tE g LW ma)) (hs : starEach [a] X.env = (false, eval a X.env) :: starEach [] X.env := by rfl) : PE X (.Call (.Name "int" p) [a] [] pos) (tE g LW (mB fInt (aCons ma aNil))) :=
  q_cTy call_int1 cs_int hg hm (by decide +kernel) (q_cons ha q_nil hs) (by decide) (by decide) hs
theorem cs_tuple : CaS g fTuple (fun xs H Q => ∃ p ys, xs = [.ref p] ∧ ((SqL g.K H p ys ∧ ∀ l, H l = none → Q (.ref l) (upd H l (.tup ys))) ∨ (SqT g.K H p ys ∧ Q (.ref p) H))) := by
  intro LW ι lσ lh H xs vs Q rh r h
  unfold fTuple at h
  split at h
  · cases r with
    | cons r1 r2 =>
    cases r2
    cases r1 with
    | @tup a vs _ k1 k2 => exact ⟨a, vs, rfl, .inr ⟨k1, h.ok rh (.tup k1 k2)⟩⟩
  · cases r with
    | cons r1 r2 =>
    cases r2
    cases r1 with
    | @loc n a e =>
    split at h
    · rename_i e1
      obtain ⟨vs, k1, k2⟩ := rh.rdL e1 e
      exact ⟨a, vs, rfl, .inl ⟨k1, new_tup rh k2 h⟩⟩
    · exact h.elim
  · exact h.elim
theorem q_tuple {p : Pos} (hg : Gl X "tuple") (hm : X.mg "tuple" = none) (ha : PE X a (tE g LW ma)) (hK : X.K = g.K := by rfl) (hs : starEach [a] X.env = (false, eval a X.env) :: starEach [] X.env := by rfl) : PE X (.Call (.Name "tuple" p) [a] [] pos) (tE g LW (mB fTuple (aCons ma aNil))) :=
  q_cTy call_tuple_of (by rw [hK]; exact cs_tuple) hg hm boot_tuple (q_cons ha q_nil hs) (by decide) (by decide) hs
theorem cs_list : CaS g fList (fun xs H Q => ∃ p ys, xs = [.ref p] ∧ (SqL g.K H p ys ∨ SqT g.K H p ys) ∧ ∀ l, H l = none → Q (.ref l) (upd H l (.lst ys))) := by
  intro LW ι lσ lh H xs vs Q rh r h
  unfold fList at h
  split at h
  · cases r with
    | cons r1 r2 =>
    cases r2
    cases r1 with
    | @tup a vs _ k1 k2 => exact ⟨a, vs, rfl, .inr k1, new_lst rh k2 h⟩
  · cases r with
    | cons r1 r2 =>
    cases r2
    cases r1 with
    | @loc n a e =>
    split at h
    · rename_i e1
      obtain ⟨vs, k1, k2⟩ := rh.rdL e1 e
      exact ⟨a, vs, rfl, .inl k1, new_lst rh k2 h⟩
    · exact h.elim
  · exact h.elim
theorem q_list {p : Pos} (hg : Gl X "list") (hm : X.mg "list" = none) (ha : PE X a (tE g LW ma)) (hK : X.K = g.K := by rfl) (hs : starEach [a] X.env = (false, eval a X.env) :: starEach [] X.env := by rfl) : PE X (.Call (.Name "list" p) [a] [] pos) (tE g LW (mB fList (aCons ma aNil))) :=
  q_cTy call_list_of (by rw [hK]; exact cs_list) hg hm (by decide +kernel) (q_cons ha q_nil hs) (by decide) (by decide) hs
theorem bls_of {ι : List Addr} {H : Hp} : ∀ {xs : List LV} {vs : List V} {bs : List Bool}, bls xs = some bs → RVs g ι H vs xs → vs = bs.map V.bl
  | [], _, _, e, .nil => by cases e; rfl
  | .bl b :: r, _, _, e, .cons (.bl _) k => by
    simp only [bls, Option.map_eq_some_iff] at e
    obtain ⟨t, e1, rfl⟩ := e
    rw [bls_of e1 k]; rfl
  | .non :: _, _, _, e, _ => by simp [bls] at e
  | .int _ :: _, _, _, e, _ => by simp [bls] at e
  | .str _ :: _, _, _, e, _ => by simp [bls] at e
  | .tup _ :: _, _, _, e, _ => by simp [bls] at e
  | .loc _ :: _, _, _, e, _ => by simp [bls] at e
  | .fn _ :: _, _, _, e, _ => by simp [bls] at e
theorem cs_all : CaS g fAll (rAll g.K) := by
  intro LW ι lσ lh H xs vs Q rh r h
  unfold fAll at h
  split at h
  · cases r with
    | cons r1 r2 =>
    cases r2
    cases r1 with
    | @loc n a e =>
    split at h
    · rename_i bs e1
      obtain ⟨zs, q1, q2⟩ := Option.bind_eq_some_iff.mp e1
      obtain ⟨vs, k1, k2⟩ := rh.rdL q1 e
      rw [bls_of q2 k2] at k1
      exact ⟨a, bs, rfl, k1, h.ok rh (.bl _)⟩
    · exact h.elim
  · exact h.elim
theorem q_all {p : Pos} (hc : X.calm = true) (hg : Gl X "all") (hm : X.mg "all" = none) (ha : PE X a (tE g LW ma)) (hK : X.K = g.K := by rfl) (hs : starEach [a] X.env = (false, eval a X.env) :: starEach [] X.env := by rfl) : PE X (.Call (.Name "all" p) [a] [] pos) (tE g LW (mB fAll (aCons ma aNil))) :=
  q_cB (cr_all hc) (by rw [hK]; exact cs_all) hg hm (by decide +kernel) (q_cons ha q_nil hs) (by decide) (by decide) hs
theorem cs_any : CaS g fAny (rAny g.K) := by
  intro LW ι lσ lh H xs vs Q rh r h
  unfold fAny at h
  split at h
  · cases r with
    | cons r1 r2 =>
    cases r2
    cases r1 with
    | @loc n a e =>
    split at h
    · rename_i bs e1
      obtain ⟨zs, q1, q2⟩ := Option.bind_eq_some_iff.mp e1
      obtain ⟨vs, k1, k2⟩ := rh.rdL q1 e
      rw [bls_of q2 k2] at k1
      exact ⟨a, bs, rfl, k1, h.ok rh (.bl _)⟩
    · exact h.elim
  · exact h.elim
theorem q_any {p : Pos} (hc : X.calm = true) (hg : Gl X "any") (hm : X.mg "any" = none) (ha : PE X a (tE g LW ma)) (hK : X.K = g.K := by rfl) (hs : starEach [a] X.env = (false, eval a X.env) :: starEach [] X.env := by rfl) : PE X (.Call (.Name "any" p) [a] [] pos) (tE g LW (mB fAny (aCons ma aNil))) :=
  q_cB (cr_any hc) (by rw [hK]; exact cs_any) hg hm (by decide +kernel) (q_cons ha q_nil hs) (by decide) (by decide) hs

/-! ### isinstance with a built-in type -/
def Ty.nm : Ty → String
  | .int => "int" | .str => "str" | .tuple => "tuple" | .bool => "bool" | .list => "list"
theorem kitT {K : PySem.W.Frag} (a : String) (t : Ty) (b : Bool) (h : kitB a t.nm = some b) : PySem.W.kitOne K (.type a) (.type t.nm) = some b := kit_ty h
theorem sqT_ty {K : PySem.W.Frag} {H : Hp} {a : Addr} {vs : List V} (h : SqT K H a vs) : TyX K H (.ref a) (.type "tuple") := by
  rcases h with (h | ⟨o, h⟩) | ⟨o, its, n, h1, h2, _⟩
  · exact .base (.tup h)
  · exact .fTuple h
  · exact .kTuple h1 h2
theorem ty_of {LW : LWish} {ι : List Addr} {lσ : LSt} {H : Hp} {lh : LH} {x : V} {v : LV} {t : Ty} {Q : VK} (rh : RH g ι lh H) (r : RV g ι H x v) (h : finR (relV g) g LW ι lσ H (isTy t v lh) Q) : rIsi g.K [x, .ty t.nm] H Q := by
  unfold isTy at h
  split at h
  · cases r
    exact ⟨_, _, _, _, false, rfl, .ty _, .base .non, kitT _ t _ (by cases t <;> decide +kernel), h.ok rh (.bl _)⟩
  · cases r
    exact ⟨_, _, _, _, _, rfl, .ty _, .base (.bl _), kitT _ t (decide (t = .bool) || decide (t = .int)) (by cases t <;> decide +kernel), h.ok rh (.bl _)⟩
  · cases r
    exact ⟨_, _, _, _, _, rfl, .ty _, .base (.int _), kitT _ t (decide (t = .int)) (by cases t <;> decide +kernel), h.ok rh (.bl _)⟩
  · cases r
    exact ⟨_, _, _, _, _, rfl, .ty _, .base (.str _), kitT _ t (decide (t = .str)) (by cases t <;> decide +kernel), h.ok rh (.bl _)⟩
  · cases r with
    | @tup a vs _ k1 k2 =>
    exact ⟨_, _, _, _, _, rfl, .ty _, sqT_ty k1, kitT _ t (decide (t = .tuple)) (by cases t <;> decide +kernel), h.ok rh (.bl _)⟩
  · cases r with
    | @loc n a e =>
    split at h
    · rename_i e1
      obtain ⟨vs, k1, k2⟩ := rh.lst e1 e
      exact ⟨_, _, _, _, _, rfl, .ty _, .base (.lst k1), kitT _ t (decide (t = .list)) (by cases t <;> decide +kernel), h.ok rh (.bl _)⟩
    · exact h.elim
  · exact h.elim
theorem q_isTy {p p2 : Pos} {x : Str} (t : Ty) (hg : Gl X "isinstance") (hm : X.mg "isinstance" = none) (ha : PE X a (tE g LW ma)) (hg2 : Gl X x) (hm2 : X.mg x = none) (hv : bootBuiltins x = some (.type t.nm)) (hn : x ≠ "__name__" := by decide) (hdb : (x == ("__debug__" : Str)) = false := by decide) (hK : X.K = g.K := by rfl)
    (hs : starEach [a, .Name x p2] X.env = (false, eval a X.env) :: starEach [.Name x p2] X.env := by rfl) : PE X (.Call (.Name "isinstance" p) [a, .Name x p2] [] pos) (tE g LW (mUn (isTy t) ma)) :=
  (pe_callB call_isi hg hm (by decide +kernel) (pa_cons ha (pa_cons (pe_bltn (v := .ty t.nm) hg2 hm2 hv rfl hn hdb) pa_nil) hs) (by decide) (by decide) hs).wk fun σ H Q ⟨ι, lσ, lh, rs, rh, h⟩ =>
    ⟨ι, lσ, lh, rs, rh, fin_bind h fun ι1 x H1 v lh1 e1 rh1 rv1 h1 => by rw [hK]; exact ty_of rh1 rv1 h1⟩

/-! ### methods of lists and dicts -/
def MtS (g : GG) (f : LV → List LV → LH → R LV) (T : String) (r : V → List V → Hp → VK → Prop) : Prop := ∀ (LW : LWish) (ι ι0 : List Addr) (lσ : LSt) (lh0 lh : LH) (H0 H : Hp) (x : V) (v : LV) (xs : List V) (vs : List LV) (Q : VK),
  RH g ι lh H → RV g ι H x v → RVs g ι H xs vs → finR (relV g) g LW ι lσ H (f v vs lh) Q → r x xs H Q
end
end Mi
namespace Mi
open PySem PySem.Spec PyProof.Rows L2

/-! ### methods -/
section
variable {X : Cx} {g : GG} {LW : LWish} {a b c : Expr} {ma mb mc : ME} {pos : Pos} {es : List Expr} {ta : MA}
theorem RH.set_lst {ι : List Addr} {lh : LH} {H : Hp} {n : Nat} {p : Addr} {x : LO} {vs : List V} {ys : List LV} (rh : RH g ι lh H) (e : ι[n]? = some p) (ex : lh[n]? = some x) (mx : LO.mut x) (r : RVs g ι H vs ys) :
    RH g ι (lh.set n (.lst ys)) (upd H p (.lst vs)) ∧ Ext ι H ι (upd H p (.lst vs)) := by
  obtain ⟨u, hu, mu⟩ := (rh.ob n p x e ex).tracked mx
  have x1 : Ext ι H ι (upd H p (.lst vs)) := Ext.write (by rw [hu]; exact mu)
  exact ⟨rh.write e ex mx trivial ⟨vs, upd_same, r.mono x1⟩, x1⟩
theorem RH.set_dct {ι : List Addr} {lh : LH} {H : Hp} {n : Nat} {p : Addr} {x : LO} {vs : List (L2.Key × V)} {ys : List (LKey × LV)} (rh : RH g ι lh H) (e : ι[n]? = some p) (ex : lh[n]? = some x) (mx : LO.mut x) (r : RK g ι H vs ys) :
    RH g ι (lh.set n (.dct ys)) (upd H p (.dK vs)) ∧ Ext ι H ι (upd H p (.dK vs)) := by
  obtain ⟨u, hu, mu⟩ := (rh.ob n p x e ex).tracked mx
  have x1 : Ext ι H ι (upd H p (.dK vs)) := Ext.write (by rw [hu]; exact mu)
  exact ⟨rh.write e ex mx trivial ⟨vs, upd_same, r.mono x1⟩, x1⟩
theorem isLst_of {x : LV} {h : LH} (e : isLst x h = true) : ∃ n xs, x = .loc n ∧ h[n]? = some (.lst xs) := by
  unfold isLst at e
  split at e
  · split at e
    · rename_i q; exact ⟨_, _, rfl, q⟩
    · cases e
  · cases e
theorem isDct_of {x : LV} {h : LH} (e : isDct x h = true) : ∃ n xs, x = .loc n ∧ h[n]? = some (.dct xs) := by
  unfold isDct at e
  split at e
  · split at e
    · rename_i q; exact ⟨_, _, rfl, q⟩
    · cases e
  · cases e
def MtSnd (g : GG) (f : LV → List LV → LH → R LV) (r : V → List V → Hp → VK → Prop) : Prop := ∀ (LW : LWish) (ι : List Addr) (lσ : LSt) (lh : LH) (H : Hp) (x : V) (v : LV) (xs : List V) (vs : List LV) (Q : VK),
  RH g ι lh H → RV g ι H x v → RVs g ι H xs vs → finR (relV g) g LW ι lσ H (f v vs lh) Q → r x xs H Q
/-- a method of lists -/
theorem q_mL {name : Str} {id : String} {apos cpos : Pos} {f : LV → List LV → LH → R LV} {r : V → List V → Hp → VK → Prop} (slot : Slot "list" name id) (hty : typeOf (.builtin id) = pure (.type "method_descriptor")) (hm : MtR X id r) (hs : MtSnd g f r) (ha : PE X a (tE g LW ma)) (hb : PA X (b :: es) (tA g LW ta)) (hK : X.K = g.K := by rfl)
    (hbase : attributeBase a name X.env (eval a X.env) = eval a X.env := by rfl)
    (hfew : ((backTo cpos (starEach (b :: es) X.env)).all (fun x => !x.1) && (backToKw cpos (keywordEach [] X.env)).all (fun x => x.1.isSome)
      && decide ((b :: es).length + ([] : List Keyword).length + (if ([] : List Keyword).isEmpty then 0 else 1) < 30)) = true := by rfl)
    (hline : (apos.endLine == cpos.line) = true := by rfl) (hst : starEach (b :: es) X.env = (false, eval b X.env) :: starEach es X.env := by rfl) (hplain : (backTo cpos (starEach es X.env)).any (·.1) = false := by rfl) :
    PE X (.Call (.Attribute a name apos) (b :: es) [] cpos) (tE g LW (mM isLst f ma ta)) :=
  (pe_bm PySem.F.plainAttrs_list slot hty hm ha hb hbase hfew hline hst hplain).wk fun σ H Q ⟨ι, lσ, lh, rs, rh, h⟩ =>
    ⟨ι, lσ, lh, rs, rh, fin_bind h fun ι1 x H1 v lh1 e1 rh1 rv1 h1 => by
      split at h1
      · rename_i e
        obtain ⟨n, xs, rfl, e2⟩ := isLst_of e
        cases rv1 with
        | @loc _ p e3 =>
        obtain ⟨vs, k1, k2⟩ := rh1.lst e2 e3
        refine ⟨.inl ⟨rfl, vs, .inl (.inl k1)⟩, ⟨ι1, lσ, lh1, rs.mono e1, rh1, fin_bind h1 fun ι2 y H2 w lh2 x2 rh2 rv2 h2 => ?_⟩⟩
        exact hs LW ι2 lσ lh2 H2 _ _ y w Q rh2 (.loc (x2.get e3)) rv2 h2
      · exact h1.elim⟩
theorem ms_append : MtSnd g mtAppend rAppend := by
  intro LW ι lσ lh H x v xs vs Q rh rx rv h
  unfold mtAppend at h
  split at h
  · split at h
    · rename_i e1
      split at h
      · rename_i hz
        cases rx with
        | @loc n p e =>
        cases rv with
        | cons r1 r2 =>
        cases r2
        obtain ⟨ws, k1, k2⟩ := rh.lst e1 e
        have k3 := k2.append (.cons r1 .nil)
        obtain ⟨q1, q2⟩ := rh.set_lst e e1 trivial k3
        exact ⟨p, ws, _, rfl, rfl, k1, by rw [k2.length]; exact sz' hz, h ι _ _ q2 q1 .non⟩
      · exact h.elim
    · exact h.elim
  · exact h.elim
theorem q_append {apos cpos : Pos} (ha : PE X a (tE g LW ma)) (hb : PE X b (tE g LW mb)) (hK : X.K = g.K := by rfl)
    (hbase : attributeBase a "append" X.env (eval a X.env) = eval a X.env := by rfl)
    (hfew : ((backTo cpos (starEach [b] X.env)).all (fun x => !x.1) && (backToKw cpos (keywordEach [] X.env)).all (fun x => x.1.isSome)
      && decide ([b].length + ([] : List Keyword).length + (if ([] : List Keyword).isEmpty then 0 else 1) < 30)) = true := by rfl)
    (hline : (apos.endLine == cpos.line) = true := by rfl) (hst : starEach [b] X.env = (false, eval b X.env) :: starEach [] X.env := by rfl) :
    PE X (.Call (.Attribute a "append" apos) [b] [] cpos) (tE g LW (mM isLst mtAppend ma (aCons mb aNil))) :=
  q_mL PySem.F.slot_list_append PySem.F.type_list_append mt_append ms_append ha (q_cons hb q_nil hst) hK hbase hfew hline hst rfl
theorem ms_extend : MtSnd g mtExtend rExtend := by
  intro LW ι lσ lh H x v xs vs Q rh rx rv h
  unfold mtExtend at h
  split at h
  · split at h
    · rename_i e1 e2
      split at h
      · rename_i hz
        cases rx with
        | @loc n p e =>
        cases rv with
        | cons r1 r2 =>
        cases r2
        cases r1 with
        | @loc m q e' =>
        obtain ⟨ws, k1, k2⟩ := rh.lst e1 e
        obtain ⟨zs, k3, k4⟩ := rh.lst e2 e'
        have k5 := k2.append k4
        obtain ⟨q1, q2⟩ := rh.set_lst e e1 trivial k5
        exact ⟨p, q, ws, zs, rfl, rfl, k1, k3, by rw [k2.length, k4.length]; exact sz hz, h ι _ _ q2 q1 .non⟩
      · exact h.elim
    · exact h.elim
  · exact h.elim
theorem q_extend {apos cpos : Pos} (ha : PE X a (tE g LW ma)) (hb : PE X b (tE g LW mb)) (hK : X.K = g.K := by rfl)
    (hbase : attributeBase a "extend" X.env (eval a X.env) = eval a X.env := by rfl)
    (hfew : ((backTo cpos (starEach [b] X.env)).all (fun x => !x.1) && (backToKw cpos (keywordEach [] X.env)).all (fun x => x.1.isSome)
      && decide ([b].length + ([] : List Keyword).length + (if ([] : List Keyword).isEmpty then 0 else 1) < 30)) = true := by rfl)
    (hline : (apos.endLine == cpos.line) = true := by rfl) (hst : starEach [b] X.env = (false, eval b X.env) :: starEach [] X.env := by rfl) :
    PE X (.Call (.Attribute a "extend" apos) [b] [] cpos) (tE g LW (mM isLst mtExtend ma (aCons mb aNil))) :=
  q_mL PySem.F.slot_list_extend PySem.F.type_list_extend mt_extend ms_extend ha (q_cons hb q_nil hst) hK hbase hfew hline hst rfl
/-- d.get(k, x) -/
theorem q_get2 {apos cpos : Pos} (hu : X.A.units + 1 < cLine) (ha : PE X a (tE g LW ma)) (hb : PE X b (tE g LW mb)) (hc : PE X c (tE g LW mc)) (m : M2 X a "get" apos b c cpos := by exact ⟨rfl, rfl, rfl, rfl⟩) : PE X (.Call (.Attribute a "get" apos) [b, c] [] cpos) (tE g LW (mM isDct mtGet2 ma (aCons mb (aCons mc aNil)))) :=
  (pe_dget2 hu ha hb hc m).wk fun σ H Q ⟨ι, lσ, lh, rs, rh, h⟩ =>
    ⟨ι, lσ, lh, rs, rh, fin_bind h fun ι1 x H1 v lh1 e1 rh1 rv1 h1 => by
      split at h1
      · rename_i e
        obtain ⟨n, xs, rfl, e2⟩ := isDct_of e
        cases rv1 with
        | @loc _ p e3 =>
        obtain ⟨vs, k1, k2⟩ := rh1.dct e2 e3
        refine ⟨p, rfl, .inl ⟨vs, .inl k1⟩, ⟨ι1, lσ, lh1, rs.mono e1, rh1, ?_⟩⟩
        -- the arguments one by one
        simp only [aCons, aNil] at h1
        cases e4 : mb lσ lh1 with
        | bad => rw [e4] at h1; exact h1.elim
        | exc y l => rw [e4] at h1; exact h1
        | ok k l =>
          rw [e4] at h1
          intro ι2 y H2 x2 rh2 rv2
          refine ⟨ι2, lσ, l, (rs.mono e1).mono x2, rh2, ?_⟩
          simp only [R.bind] at h1
          cases e5 : mc lσ l with
          | bad => rw [e5] at h1; exact h1.elim
          | exc y l => rw [e5] at h1; exact h1
          | ok d l2 =>
            rw [e5] at h1
            simp only [R.bind] at h1
            intro ι3 z H3 x3 rh3 rv3
            have h3 := finR.mono (x2.trans x3) h1
            simp only [mtGet2] at h3
            split at h3
            · rename_i kvs k' f1 f2
              obtain ⟨ws, w1, w2⟩ := rh3.dct f1 ((x2.trans x3).get e3)
              rw [keyOf_of (rv2.mono x3) f2]
              refine ⟨_, DGet.k w1, ?_⟩
              rcases w2.find k' with ⟨v, x, q1, q2, q3⟩ | ⟨q1, q2⟩
              · rw [q1]; rw [q2] at h3; exact h3.ok rh3 q3
              · rw [q1]; rw [q2] at h3; exact h3.ok rh3 rv3
            · exact h3.elim
      · exact h1.elim⟩
end

/-! ### what a def promises -/
def spOf (g : GG) (np : Nat) (r : List LV → LH → R LV) : Sp := fun vs H Q E => vs.length = np ∧ ∃ ι lh args, RH g ι lh H ∧ RVs g ι H vs args ∧ match r args lh with
  | .ok v lh' => ∀ ι' x H', Ext ι H ι' H' → RH g ι' lh' H' → RV g ι' H' x v → Q x H'
  | .exc x lh' => ∀ ι' H' cls d, Ext ι H ι' H' → RH g ι' lh' H' → RX g ι' H' cls d x → E cls d H'
  | .bad => False
/-- what is wanted of an error that leaves the code -/
def wOf (g : GG) (LW : LWish) : WX := fun cls d σ H => ∃ ι lσ lh x, RS g LW ι lσ σ H ∧ RH g ι lh H ∧ RX g ι H cls d x ∧ LW.w x lσ lh
section
variable {X : Cx} {g : GG} {LW : LWish} {a b c : Expr} {ma mb mc : ME} {pos : Pos} {es : List Expr} {ta : MA}
/-- a def called by its name -/
theorem q_call {k i np : Nat} {f : Addr} {fd : FuncData} {ps : List Str} {x : Str} {p : Pos} {C : Or} (tk : Takes X (wOf g LW)) (F : FnOk X.prog X.w X.K X.mg X.base (L2.CX X.prog X.w) k f fd ps (spOf g np (C i))) (hn : np = ps.length) (hr : Room k X.A) (hg : Gl X x) (hm : X.mg x = some (.ref f)) (hk : PySem.W.keepIn X.K (.ref f) = true) (hb : Binds X.K fd ps [])
    (ha : PA X (a :: es) (tA g LW ta)) (hl : (a :: es).length = np := by rfl) (hal : ∀ lσ lh vs lh1, ta lσ lh = .ok vs lh1 → vs.length = np) (hdb : (x == ("__debug__" : Str)) = false := by decide) (he : starEach (a :: es) X.env = (false, eval a X.env) :: starEach es X.env := by rfl) (hpl : (backTo pos (starEach es X.env)).any (·.1) = false := by rfl) :
    PE X (.Call (.Name x p) (a :: es) [] pos) (tE g LW (mCall C i ta)) :=
  (pe_callS F hr hg hm hk hb (passAt tk) ha hdb he hpl).wk fun σ H Q ⟨ι, lσ, lh, rs, rh, h⟩ => by
    refine ⟨ι, lσ, lh, rs, rh, ?_⟩
    simp only [mCall] at h
    cases e : ta lσ lh with
    | bad => rw [e] at h; exact h.elim
    | exc y l => rw [e] at h; exact h
    | ok vs l =>
      rw [e] at h
      simp only [R.bind] at h
      intro ι1 xs H1 x1 rh1 rv1
      have h1 := finR.mono x1 h
      refine ⟨by rw [rv1.length]; exact hal _ _ _ _ e, ι1, l, vs, rh1, rv1, ?_⟩
      cases e2 : C i vs l with
      | bad => rw [e2] at h1; exact h1.elim
      | ok v l2 => rw [e2] at h1; exact h1
      | exc y l2 =>
        rw [e2] at h1
        exact fun ι' H' cls d x2 rh2 rx => ⟨ι', lσ, l2, y, (rs.mono x1).mono x2, rh2, rx, h1⟩
end
theorem al_nil (lσ : LSt) (lh : LH) (vs : List LV) (lh1 : LH) (h : aNil lσ lh = .ok vs lh1) : vs.length = 0 := by
  simp only [aNil] at h; cases h; rfl
theorem al_cons {a : ME} {r : MA} {n : Nat} (hr : ∀ lσ lh vs lh1, r lσ lh = .ok vs lh1 → vs.length = n) (lσ : LSt) (lh : LH) (vs : List LV) (lh1 : LH) (h : aCons a r lσ lh = .ok vs lh1) : vs.length = n + 1 := by
  simp only [aCons] at h
  cases e : a lσ lh with
  | bad => rw [e] at h; cases h
  | exc y l => rw [e] at h; cases h
  | ok v l =>
    rw [e] at h
    simp only [R.bind] at h
    cases e2 : r lσ l with
    | bad => rw [e2] at h; cases h
    | exc y l => rw [e2] at h; cases h
    | ok w l2 =>
      rw [e2] at h
      simp only [R.bind] at h
      cases h
      simp [hr _ _ _ _ e2]

/-! ### statements -/
def finS (g : GG) (LW : LWish) (ι : List Addr) (H : Hp) (o : O) (D : Ends) : Prop := match o with
  | .nx lσ lh => ∀ ι' σ' H', Ext ι H ι' H' → RS g LW ι' lσ σ' H' → RH g ι' lh H' → D.nx σ' H'
  | .bk lσ lh => ∀ ι' σ' H', Ext ι H ι' H' → RS g LW ι' lσ σ' H' → RH g ι' lh H' → D.bk σ' H'
  | .ct lσ lh => ∀ ι' σ' H', Ext ι H ι' H' → RS g LW ι' lσ σ' H' → RH g ι' lh H' → D.ct σ' H'
  | .rt v lh => ∀ ι' x H', Ext ι H ι' H' → RH g ι' lh H' → RV g ι' H' x v → D.rt x H'
  | .exc x lσ lh => LW.w x lσ lh
  | .bad => False
def tS (g : GG) (LW : LWish) (m : MS) : TS := fun D σ H => ∃ ι lσ lh, RS g LW ι lσ σ H ∧ RH g ι lh H ∧ finS g LW ι H (m lσ lh) D
section
variable {X : Cx} {g : GG} {LW : LWish} {ι ι1 : List Addr} {lσ : LSt} {H H1 : Hp} {lh : LH} {σ : L2.St}
theorem finS.mono {o : O} {D : Ends} (e : Ext ι H ι1 H1) (h : finS g LW ι H o D) : finS g LW ι1 H1 o D := by
  cases o with
  | nx l h' => exact fun ι' x H' e1 r1 r2 => h ι' x H' (e.trans e1) r1 r2
  | bk l h' => exact fun ι' x H' e1 r1 r2 => h ι' x H' (e.trans e1) r1 r2
  | ct l h' => exact fun ι' x H' e1 r1 r2 => h ι' x H' (e.trans e1) r1 r2
  | rt l h' => exact fun ι' x H' e1 r1 r2 => h ι' x H' (e.trans e1) r1 r2
  | exc x l h' => exact h
  | bad => exact h
theorem fin_st {γ δ : Type} {rel1 : List Addr → Hp → δ → γ → Prop} {r : R γ} {k : γ → LH → O} {D : Ends} {Q1 : δ → Hp → Prop} (h : finS g LW ι H (r.st lσ k) D)
    (q : ∀ ι1 x H1 v lh1, Ext ι H ι1 H1 → RH g ι1 lh1 H1 → rel1 ι1 H1 x v → finS g LW ι1 H1 (k v lh1) D → Q1 x H1) : finR rel1 g LW ι lσ H r Q1 := by
  cases r with
  | ok v lh => exact fun ι1 x H1 e rh rv => q ι1 x H1 v lh e rh rv (finS.mono (o := k v lh) e h)
  | exc x lh => exact h
  | bad => exact h
variable {a b c : Expr} {ma mb mc : ME} {pos : Pos} {st : Stmt} {sts : List Stmt} {s t : MS}
theorem q_snil : PSs X [] (tS g LW sNext) := pss_nil.wk fun D σ H ⟨ι, lσ, lh, rs, rh, h⟩ => h ι σ H .refl rs rh
theorem q_scons (hs : PS X st (tS g LW s)) (ht : PSs X sts (tS g LW t)) : PSs X (st :: sts) (tS g LW (sSeq s t)) := (pss_cons hs ht).wk fun D σ H ⟨ι, lσ, lh, rs, rh, h⟩ => by
  refine ⟨ι, lσ, lh, rs, rh, ?_⟩
  simp only [sSeq] at h
  cases e : s lσ lh with
  | nx l1 h1 => rw [e] at h; exact fun ι' σ' H' x1 rs1 rh1 => ⟨ι', l1, h1, rs1, rh1, finS.mono x1 h⟩
  | bk l1 h1 => rw [e] at h; exact h
  | ct l1 h1 => rw [e] at h; exact h
  | rt l1 h1 => rw [e] at h; exact h
  | exc x l1 h1 => rw [e] at h; exact h
  | bad => rw [e] at h; exact h
theorem q_sone (hs : PS X st (tS g LW s)) : PSs X [st] (tS g LW s) := pss_one hs
theorem q_pass : PS X (.Pass pos) (tS g LW sNext) := ps_pass.wk fun D σ H ⟨ι, lσ, lh, rs, rh, h⟩ => h ι σ H .refl rs rh
theorem q_break : PS X (.Break pos) (tS g LW sBreak) := ps_break.wk fun D σ H ⟨ι, lσ, lh, rs, rh, h⟩ => h ι σ H .refl rs rh
theorem q_continue : PS X (.Continue pos) (tS g LW sCont) := ps_continue.wk fun D σ H ⟨ι, lσ, lh, rs, rh, h⟩ => h ι σ H .refl rs rh
theorem q_expr (ha : PE X a (tE g LW ma)) (hs : swapsWith a none pos.line X.env = pure false := by rfl) : PS X (.Expr a pos) (tS g LW (sExpr ma)) := (ps_expr ha hs).wk fun D σ H ⟨ι, lσ, lh, rs, rh, h⟩ =>
  ⟨ι, lσ, lh, rs, rh, fin_st h fun ι1 x H1 v lh1 e1 rh1 rv1 h1 => h1 ι1 σ H1 .refl (rs.mono e1) rh1⟩
theorem q_ret (ha : PE X a (tE g LW ma)) : PS X (.Return (some a) pos) (tS g LW (sRet ma)) := (ps_ret ha).wk fun D σ H ⟨ι, lσ, lh, rs, rh, h⟩ =>
  ⟨ι, lσ, lh, rs, rh, fin_st h fun ι1 x H1 v lh1 e1 rh1 rv1 h1 => h1 ι1 x H1 .refl rh1 rv1⟩
theorem q_retN : PS X (.Return none pos) (tS g LW sRetN) := ps_retN.wk fun D σ H ⟨ι, lσ, lh, rs, rh, h⟩ => h ι .non H .refl rh .non
theorem q_sif {tt : MB} {xs ys : List Stmt} (hc : PT X c (tT g LW tt)) (ha : PSs X xs (tS g LW s)) (hb : PSs X ys (tS g LW t)) : PS X (.If c xs ys pos) (tS g LW (sIf tt s t)) := (ps_if hc ha hb).wk fun D σ H ⟨ι, lσ, lh, rs, rh, h⟩ =>
  ⟨ι, lσ, lh, rs, rh, fin_st h fun ι1 x H1 v lh1 e1 rh1 rv1 h1 => by
    cases rv1
    cases x with
    | true => rw [if_pos rfl] at h1 ⊢; exact ⟨ι1, lσ, lh1, rs.mono e1, rh1, h1⟩
    | false => rw [if_neg Bool.false_ne_true] at h1 ⊢; exact ⟨ι1, lσ, lh1, rs.mono e1, rh1, h1⟩⟩
theorem q_set (i : Nat) {x : Str} {p : Pos} (hN : X.N.Nodup) (ha : PE X a (tE g LW ma)) (hi : X.N[i]? = some x := by rfl) (hx : Loc X.env.scope x := by first | exact Or.inl rfl | exact Or.inr rfl) (hs : swapsWith a (some (.Name x p)) pos.line X.env = pure false := by rfl) (hf : X.fn x = true ∨ X.env.scope.names.lookup x = some .local := by first | exact .inl rfl | exact .inr rfl) :
    PS X (.Assign [.Name x p] a pos) (tS g LW (sSet i ma)) := (ps_set hN hi hx ha hs hf).wk fun D σ H ⟨ι, lσ, lh, rs, rh, h⟩ =>
  ⟨ι, lσ, lh, rs, rh, fin_st h fun ι1 x H1 v lh1 e1 rh1 rv1 h1 => h1 ι1 _ H1 .refl ((rs.mono e1).set rv1 i) rh1⟩
theorem q_aug (i : Nat) {x : Str} {p : Pos} {op : Operator} {f : LV → LV → LH → R LV} {r : R2} (hN : X.N.Nodup) (ho : OpR X (inplaceOp op) r) (hsf : OpS g f r) (ha : PE X a (tE g LW ma)) (hi : X.N[i]? = some x := by rfl) (hx : Loc X.env.scope x := by first | exact Or.inl rfl | exact Or.inr rfl) (hf : X.fn x = true ∨ X.env.scope.names.lookup x = some .local := by first | exact .inl rfl | exact .inr rfl) :
    PS X (.AugAssign (.Name x p) op a pos) (tS g LW (sAug f i ma)) := (ps_aug hN hi hx ha ho hf).wk fun D σ H ⟨ι, lσ, lh, rs, rh, h⟩ => by
  simp only [sAug, mVar] at h
  cases e : lσ[i]? with
  | none => rw [e] at h; exact h.elim
  | some o =>
    cases o with
    | none => rw [e] at h; exact h.elim
    | some v =>
      rw [e] at h
      obtain ⟨x0, k1, k2⟩ := rs.at' i v e
      refine ⟨x0, k1, ι, lσ, lh, rs, rh, fin_st h fun ι1 y H1 w lh1 e1 rh1 rv1 h1 => ?_⟩
      exact hsf LW ι1 lσ lh1 H1 x0 y v w _ rh1 (k2.mono e1) rv1 (fin_st (rel1 := relV g) h1 fun ι2 z H2 u lh2 e2 rh2 rv2 h2 => h2 ι2 _ H2 .refl ((rs.mono (e1.trans e2)).set rv2 i) rh2)
theorem os_isub : OpS g opSub (rI0 fun i j => .int (i - j)) := os_sub
/-- o[k] = a: a list or a dict -/
theorem q_put {o k : Expr} {mo mk : ME} {p : Pos} (hu : X.A.units + 1 < cLine) (ha : PE X a (tE g LW ma)) (ho : PE X o (tE g LW mo)) (hk : PE X k (tE g LW mk))
    (hs : swapsWith a (some (.Subscript o k p)) pos.line X.env = pure false := by rfl) (hs1 : swapsWithSole [.Subscript o k p] a pos.line X.env = pure false := by rfl) (hw : swappedStores [.Subscript o k p] a X.env = pure none := by rfl)
    (h1 : (assignEach [.Subscript o k p] X.env).map (·.2) = [assign (.Subscript o k p) X.env] := by rfl)
    (has : ∀ v, assign (.Subscript o k p) X.env v = (do
      let ov ← holding [v] (eval o X.env)
      let iv ← holding [v, ov] (eval k X.env)
      standAt p
      holding [v, ov, iv] (setItem ov iv v)
      release [v, ov, iv] []) := by intro _; rfl) : PS X (.Assign [.Subscript o k p] a pos) (tS g LW (sSub mo mk ma)) :=
  ((ps_dput hu ho hk ha hs).or (ps_asg ha (pg_sub ho hk set_list has) hs1 hw h1)).wk fun D σ H ⟨ι, lσ, lh, rs, rh, h⟩ => by
    simp only [Mi.sSub] at h
    cases e1 : ma lσ lh with
    | bad => rw [e1] at h; exact h.elim
    | exc x l => rw [e1] at h; exact .inl ⟨ι, lσ, lh, rs, rh, by rw [e1]; exact h⟩
    | ok v l1 =>
      rw [e1] at h
      simp only [R.st] at h
      cases e2 : mo lσ l1 with
      | bad => rw [e2] at h; exact h.elim
      | exc x l =>
        rw [e2] at h
        refine .inl ⟨ι, lσ, lh, rs, rh, ?_⟩
        rw [e1]
        intro ι1 x1 H1 x2 rh1 rv1
        exact ⟨ι1, lσ, l1, rs.mono x2, rh1, by rw [e2]; exact h⟩
      | ok w l2 =>
        rw [e2] at h
        simp only at h
        cases e3 : mk lσ l2 with
        | bad => rw [e3] at h; exact h.elim
        | exc x l =>
          rw [e3] at h
          refine .inl ⟨ι, lσ, lh, rs, rh, ?_⟩
          rw [e1]
          intro ι1 x1 H1 x2 rh1 rv1
          refine ⟨ι1, lσ, l1, rs.mono x2, rh1, ?_⟩
          rw [e2]
          intro ι2 y H2 x3 rh2 rv2
          exact ⟨ι2, lσ, l2, (rs.mono x2).mono x3, rh2, by rw [e3]; exact h⟩
        | ok u l3 =>
          rw [e3] at h
          simp only [R.st] at h
          cases e4 : selD w u l3 with
          | true =>
            refine .inl ⟨ι, lσ, lh, rs, rh, ?_⟩
            rw [e1]
            intro ι1 x1 H1 x2 rh1 rv1
            refine ⟨ι1, lσ, l1, rs.mono x2, rh1, ?_⟩
            rw [e2]
            intro ι2 y H2 x3 rh2 rv2
            refine ⟨ι2, lσ, l2, (rs.mono x2).mono x3, rh2, ?_⟩
            rw [e3]
            intro ι3 z H3 x4 rh3 rv3
            have h3 := finS.mono ((x2.trans x3).trans x4) h
            have rs3 := ((rs.mono x2).mono x3).mono x4
            have rv2' := rv2.mono x4
            have rv1' := rv1.mono (x3.trans x4)
            cases w with
            | loc n =>
              cases rv2' with
              | @loc _ a e =>
              simp only [selD] at e4
              split at e4
              · rename_i kvs q1
                simp only [stIx, q1] at h3
                split at h3
                · rename_i v0 l0 r0
                  split at r0
                  · rename_i k' q2
                    split at r0
                    · rename_i hz
                      cases r0
                      obtain ⟨vs, w1, w2⟩ := rh3.dct q1 e
                      rw [keyOf_of rv3 q2]
                      obtain ⟨p1, p2⟩ := rh3.set_dct e q1 trivial (w2.put k' rv1')
                      exact ⟨a, _, rfl, DPut.k w1 (by rw [w2.length]; exact sz' hz), h3 ι3 σ _ p2 (rs3.mono p2) p1⟩
                    · cases r0
                  · cases r0
                · rename_i r0
                  split at r0
                  · split at r0 <;> cases r0
                  · cases r0
                · exact h3.elim
              · cases e4
            | _ => cases e4
          | false =>
            refine .inr ⟨ι, lσ, lh, rs, rh, ?_⟩
            rw [e1]
            intro ι1 x1 H1 x2 rh1 rv1
            refine ⟨ι1, lσ, l1, rs.mono x2, rh1, ?_⟩
            rw [e2]
            intro ι2 y H2 x3 rh2 rv2
            refine ⟨ι2, lσ, l2, (rs.mono x2).mono x3, rh2, ?_⟩
            rw [e3]
            intro ι3 z H3 x4 rh3 rv3
            have h3 := finS.mono ((x2.trans x3).trans x4) h
            have rs3 := ((rs.mono x2).mono x3).mono x4
            have rv2' := rv2.mono x4
            have rv1' := rv1.mono (x3.trans x4)
            cases w with
            | loc n =>
              cases rv2' with
              | @loc _ a e =>
              simp only [selD] at e4
              simp only [stIx] at h3
              split at h3
              · rename_i v0 l0 r0
                split at r0
                · rename_i xs q1
                  split at r0
                  · rename_i i
                    split at r0
                    · rename_i j q2
                      cases r0
                      cases rv3
                      obtain ⟨vs, w1, w2⟩ := rh3.lst q1 e
                      obtain ⟨p1, p2⟩ := rh3.set_lst e q1 trivial (w2.set rv1' j)
                      exact ⟨a, vs, i, j, rfl, rfl, w1, by rw [w2.length]; exact q2, h3 ι3 σ _ p2 (rs3.mono p2) p1⟩
                    · cases r0
                  · cases r0
                · rename_i kvs q1
                  rw [q1] at e4; cases e4
                · cases r0
              · rename_i r0
                split at r0
                · split at r0
                  · split at r0 <;> cases r0
                  · cases r0
                · split at r0
                  · split at r0 <;> cases r0
                  · cases r0
                · cases r0
              · exact h3.elim
            | _ => exact h3.elim
end
end Mi
namespace Mi
open PySem PySem.Spec PyProof.Rows L2

/-! ### what a for walks -/
structure ItOk (g : GG) (ι : List Addr) (H : Hp) (J : It) (xs : List LV) (chk : LH → Bool) : Prop where
  go : ∀ ι' lh H' (i : Nat), Ext ι H ι' H' → RH g ι' lh H' → chk lh = true → i < xs.length → J.go i H'
  yld : ∀ ι' lh H' (i : Nat) x lx H'', Ext ι H ι' H' → RH g ι' lh H' → chk lh = true → xs[i]? = some lx → J.yld i H' x H'' → Ext ι' H' ι' H'' ∧ RH g ι' lh H'' ∧ RV g ι' H'' x lx
  stop : ∀ ι' lh H', Ext ι H ι' H' → RH g ι' lh H' → chk lh = true → J.stop xs.length H'
abbrev relI (g : GG) : List Addr → Hp → It → (List LV × (LH → Bool)) → Prop := fun ι H J w => ItOk g ι H J w.1 w.2
abbrev tI (g : GG) (LW : LWish) (m : MI) : TI := tR (relI g) g LW m
theorem _root_.L2.PI.wk {X : Cx} {tg e : Expr} {t t' : TI} (h : PI X tg e t) (k : ∀ σ H Q, t' σ H Q → t σ H Q) : PI X tg e t' := ⟨fun pins s σ H R I q => h.run pins s σ H R I (k σ H R q)⟩
theorem _root_.L2.PI.or {X : Cx} {tg e : Expr} {t t' : TI} (h : PI X tg e t) (h' : PI X tg e t') : PI X tg e (fun σ H Q => t σ H Q ∨ t' σ H Q) := ⟨fun pins s σ H R I q => q.elim (h.run pins s σ H R I) (h'.run pins s σ H R I)⟩
section
variable {X : Cx} {g : GG} {LW : LWish} {ι ι1 : List Addr} {lσ : LSt} {H H1 : Hp} {lh : LH} {σ : L2.St} {a b c tg : Expr} {ma mb mc : ME} {pos : Pos}
theorem itok_tup {p : Addr} {vs : List V} {xs : List LV} (h : SqT g.K H p vs) (r : RVs g ι H vs xs) : ItOk g ι H (Itt g.K p) xs always := by
  refine ⟨fun ι' lh H' i e rh _ hi => ?_, fun ι' lh H' i x lx H'' e rh _ hx y => ?_, fun ι' lh H' e rh _ => ?_⟩
  · have hi' : i < vs.length := by rw [r.length]; exact hi
    exact ⟨vs, vs[i], e.sqT h, List.getElem?_eq_getElem hi'⟩
  · obtain ⟨q, y⟩ := y
    subst q
    obtain ⟨v, q1, q2⟩ := r.get hx
    have q3 := y vs (e.sqT h)
    rw [q1] at q3; cases q3
    exact ⟨.refl, rh, q2.mono e⟩
  · exact ⟨vs, e.sqT h, by rw [r.length]; exact Nat.le_refl _⟩
theorem itok_lst {n : Nat} {p : Addr} {xs : List LV} (hn : ι[n]? = some p) : ItOk g ι H (Itl g.K p) xs (keepsL n xs) := by
  refine ⟨fun ι' lh H' i e rh q hi => ?_, fun ι' lh H' i x lx H'' e rh q hx y => ?_, fun ι' lh H' e rh q => ?_⟩
  · obtain ⟨vs, k1, k2⟩ := rh.rdL (of_decide_eq_true q) (e.get hn)
    have hi' : i < vs.length := by rw [k2.length]; exact hi
    exact ⟨vs, vs[i], k1, List.getElem?_eq_getElem hi'⟩
  · obtain ⟨vs, k1, k2⟩ := rh.rdL (of_decide_eq_true q) (e.get hn)
    obtain ⟨z, y⟩ := y
    subst z
    obtain ⟨v, q1, q2⟩ := k2.get hx
    have q3 := y vs k1
    rw [q1] at q3; cases q3
    exact ⟨.refl, rh, q2⟩
  · obtain ⟨vs, k1, k2⟩ := rh.rdL (of_decide_eq_true q) (e.get hn)
    exact ⟨vs, k1, by rw [k2.length]; exact Nat.le_refl _⟩
theorem itok_str {s : List Nat} : ItOk g ι H (Its ⟨s.toArray⟩) (s.map fun c => .str [c]) always := by
  refine ⟨fun ι' lh H' i e rh _ hi => ?_, fun ι' lh H' i x lx H'' e rh _ hx y => ?_, fun ι' lh H' e rh _ => ?_⟩
  · show i < s.toArray.size
    simpa using hi
  · obtain ⟨z, c, hc, rfl⟩ := y
    subst z
    rw [List.getElem?_map] at hx
    have hc' : s[i]? = some c := by simpa using hc
    rw [hc'] at hx
    cases hx
    exact ⟨.refl, rh, .str [c]⟩
  · show s.toArray.size ≤ _
    simp
theorem q_iSeq (ha : PE X a (tE g LW ma)) (hK : X.K = g.K := by rfl) : PI X tg a (tI g LW (iSeqL ma)) :=
  ((pi_tup ha).or ((pi_list ha).or (pi_str ha))).wk fun σ H Q ⟨ι, lσ, lh, rs, rh, h⟩ => by
    simp only [iSeqL] at h
    cases e : ma lσ lh with
    | bad => rw [e] at h; exact h.elim
    | exc x l => rw [e] at h; exact .inl ⟨ι, lσ, lh, rs, rh, by rw [e]; exact h⟩
    | ok v l =>
      rw [e] at h
      simp only [R.bind] at h
      cases v with
      | tup xs =>
        refine .inl ⟨ι, lσ, lh, rs, rh, ?_⟩
        rw [e]
        intro ι1 x H1 x1 rh1 rv1
        cases rv1 with
        | @tup p vs _ k1 k2 => exact ⟨p, rfl, ⟨vs, by rw [hK]; exact k1⟩, by rw [hK]; exact h ι1 _ H1 x1 rh1 (itok_tup k1 k2)⟩
      | str s =>
        refine .inr (.inr ⟨ι, lσ, lh, rs, rh, ?_⟩)
        rw [e]
        intro ι1 x H1 x1 rh1 rv1
        cases rv1
        exact ⟨_, rfl, h ι1 _ H1 x1 rh1 itok_str⟩
      | loc n =>
        refine .inr (.inl ⟨ι, lσ, lh, rs, rh, ?_⟩)
        rw [e]
        intro ι1 x H1 x1 rh1 rv1
        cases rv1 with
        | @loc _ p k1 =>
          simp only at h
          split at h
          · rename_i xs q
            obtain ⟨vs, w1, w2⟩ := rh1.rdL q k1
            exact ⟨p, rfl, ⟨vs, by rw [hK]; exact w1⟩, by rw [hK]; exact h ι1 _ H1 x1 rh1 (itok_lst k1)⟩
          · exact h.elim
      | _ => exact h.elim
theorem rng_get {lo : Int} {n i : Nat} {x : LV} (h : (rng lo n)[i]? = some x) : x = .int (lo + i) ∧ i < n := by
  unfold rng at h
  rw [List.getElem?_map] at h
  have hi : i < n := by
    by_cases hi : i < n
    · exact hi
    · rw [List.getElem?_eq_none (by simpa using hi)] at h; cases h
  rw [List.getElem?_range hi] at h
  cases h
  exact ⟨rfl, hi⟩
theorem rng_len (lo : Int) (n : Nat) : (rng lo n).length = n := by unfold rng; simp
theorem itok_rng {lo : Int} {n : Nat} : ItOk g ι H (Itr lo n) (rng lo n) always := by
  refine ⟨fun ι' lh H' i e rh _ hi => ?_, fun ι' lh H' i x lx H'' e rh _ hx y => ?_, fun ι' lh H' e rh _ => ?_⟩
  · rw [rng_len] at hi; exact hi
  · obtain ⟨z, y⟩ := y
    subst z y
    rw [(rng_get hx).1]
    exact ⟨.refl, rh, .int _⟩
  · show n ≤ _
    rw [rng_len]; exact Nat.le_refl _
theorem big_of {i : Int} (h : big i = true) : -(2 ^ 62) ≤ i ∧ i < 2 ^ 62 := by
  unfold big at h
  simpa using h
theorem q_iRange1 {p : Pos} (hg : Gl X "range") (hm : X.mg "range" = none) (ha : PE X a (tE g LW ma)) (hs : starEach [a] X.env = [(false, eval a X.env)] := by rfl) : PI X tg (.Call (.Name "range" p) [a] [] pos) (tI g LW (iRange1 ma)) :=
  (pi_range1 hg hm (pa_cons ha pa_nil hs) hs).wk fun σ H Q ⟨ι, lσ, lh, rs, rh, h⟩ =>
    ⟨ι, lσ, lh, rs, rh, fin_bind h fun ι1 x H1 v lh1 e1 rh1 rv1 h1 => by
      split at h1
      · cases rv1
        split at h1
        · rename_i j hb
          exact ⟨j, rfl, (big_of hb).1, (big_of hb).2, h1 ι1 _ H1 .refl rh1 itok_rng⟩
        · exact h1.elim
      · exact h1.elim⟩
theorem q_iRange2 {p : Pos} (hg : Gl X "range") (hm : X.mg "range" = none) (ha : PE X a (tE g LW ma)) (hb : PE X b (tE g LW mb)) (hs : starEach [a, b] X.env = [(false, eval a X.env), (false, eval b X.env)] := by rfl) (hs2 : starEach [b] X.env = [(false, eval b X.env)] := by rfl) : PI X tg (.Call (.Name "range" p) [a, b] [] pos) (tI g LW (iRange2 ma mb)) :=
  (pi_range2 hg hm (pa_cons ha (pa_cons hb pa_nil hs2) (by rw [hs, hs2])) hs hs2).wk fun σ H Q ⟨ι, lσ, lh, rs, rh, h⟩ =>
    ⟨ι, lσ, lh, rs, rh, fin_bind h fun ι1 x H1 v lh1 e1 rh1 rv1 h1 => ⟨ι1, lσ, lh1, rs.mono e1, rh1, fin_bind h1 fun ι2 y H2 w lh2 e2 rh2 rv2 h2 => by
      split at h2
      · cases rv1; cases rv2
        split at h2
        · rename_i i j hb
          rw [Bool.and_eq_true] at hb
          exact ⟨i, j, rfl, ⟨(big_of hb.1).1, (big_of hb.1).2, (big_of hb.2).1, (big_of hb.2).2⟩, h2 ι2 _ H2 .refl rh2 itok_rng⟩
        · exact h2.elim
      · exact h2.elim⟩⟩
theorem itok_rev {n : Nat} : ItOk g ι H (Itc (0 + ((n : Nat) : Int) - 1) (-1) n) (rng 0 n).reverse always := by
  refine ⟨fun ι' lh H' i e rh _ hi => ?_, fun ι' lh H' i x lx H'' e rh _ hx y => ?_, fun ι' lh H' e rh _ => ?_⟩
  · rw [List.length_reverse, rng_len] at hi; exact hi
  · obtain ⟨z, y⟩ := y
    subst z y
    have hi : i < n := by have := (List.getElem?_eq_some_iff.mp hx).1; rw [List.length_reverse, rng_len] at this; exact this
    rw [List.getElem?_reverse (by rw [rng_len]; exact hi), rng_len] at hx
    rw [(rng_get hx).1]
    refine ⟨.refl, rh, ?_⟩
    have e3 : (0 : Int) + ((n : Nat) : Int) - 1 + ((i : Nat) : Int) * (-1) = 0 + ((n - 1 - i : Nat) : Int) := by omega
    rw [e3]
    exact .int _
  · show n ≤ _
    rw [List.length_reverse, rng_len]; exact Nat.le_refl _
/-- reversed(range(n)) -/
theorem q_iRev1 {p p2 pos2 : Pos} (hg : Gl X "reversed") (hm : X.mg "reversed" = none) (hg2 : Gl X "range") (hm2 : X.mg "range" = none) (ha : PE X a (tE g LW ma)) (na : starEach [a] X.env = (false, eval a X.env) :: starEach [] X.env := by rfl)
    (hs : starEach [.Call (.Name "range" p2) [a] [] pos2] X.env = (false, eval (.Call (.Name "range" p2) [a] [] pos2) X.env) :: starEach [] X.env := by rfl) : PI X tg (.Call (.Name "reversed" p) [.Call (.Name "range" p2) [a] [] pos2] [] pos) (tI g LW (iRevRange1 ma)) :=
  (pi_revR hg hm (prg_1 hg2 hm2 ha na) hs).wk fun σ H Q ⟨ι, lσ, lh, rs, rh, h⟩ =>
    ⟨ι, lσ, lh, rs, rh, fin_bind h fun ι1 x H1 v lh1 e1 rh1 rv1 h1 => by
      split at h1
      · cases rv1
        split at h1
        · rename_i j hb
          refine ⟨j, rfl, by decide, by decide, (big_of hb).1, (big_of hb).2, ?_⟩
          have e2 : (j - 0).toNat = j.toNat := by rw [Int.sub_zero]
          rw [e2]
          exact h1 ι1 _ H1 .refl rh1 itok_rev
        · exact h1.elim
      · exact h1.elim⟩

/-! ### what a loop's item is bound to -/
def Touch (js : List Nat) (σ σ' : L2.St) : Prop := ∀ vs : List Nat, (∀ j ∈ js, j ∈ vs) → wipe σ' vs = wipe σ vs
theorem wipe_set {σ : L2.St} {j : Nat} {y : Option V} : ∀ {vs : List Nat}, j ∈ vs → wipe (σ.set j y) vs = wipe σ vs
  | v :: vs, h => by
    unfold wipe
    by_cases e : j ∈ vs
    · rw [wipe_set e]
    · have ej : j = v := by
        rcases List.mem_cons.mp h with q | q
        · exact q
        · exact absurd q e
      subst ej
      have q : ∀ us : List Nat, j ∉ us → wipe (σ.set j y) us = (wipe σ us).set j y := by
        intro us
        induction us with
        | nil => intro _; rfl
        | cons u us ih =>
          intro hu
          unfold wipe
          rw [ih (fun z => hu (List.mem_cons_of_mem _ z)), List.set_comm _ _ (fun z => hu (by rw [z]; exact List.mem_cons_self))]
      rw [q vs e, List.set_set]
structure GOk (g : GG) (t : TG) (m : MG) (js : List Nat) : Prop where
  ok : ∀ (LW : LWish) ι lσ lσ' lh σ H v x (Q : L2.St → Hp → Prop), RS g LW ι lσ σ H → RH g ι lh H → RV g ι H v x → m x lσ = some lσ' → (∀ σ', RS g LW ι lσ' σ' H → Touch js σ σ' → Q σ' H) → t v σ H Q
theorem g_nm {i : Nat} : GOk g (gName i) (gNm i) [i] := ⟨fun LW ι lσ lσ' lh σ H v x Q rs rh rv e k => by
  simp only [gNm] at e
  cases e
  exact k _ (rs.set rv i) fun vs hv => wipe_set (hv i List.mem_cons_self)⟩
end

/-! ### loops -/
section
variable {X : Cx} {g : GG} {LW : LWish} {tg iter : Expr} {body : List Stmt} {mi : MI} {gt : TG} {mg : MG} {js : List Nat} {mb : MS} {pos : Pos}
theorem q_for (po : PassesOwn (model X.prog X.w) X.A X.env X.xe) (hc : X.calm = true) (hi : PI X tg iter (tI g LW mi)) (hg : PG X tg gt) (go : GOk g gt mg js) (hb : PSs X body (tS g LW mb)) (hs : ∀ x, foldedSetIterable iter X.env x = pure x := by intro _; rfl) :
    PS X (.For tg iter body [] pos) (tS g LW (sFor mi mg mb)) := (ps_for po hc hi hg hb hs).wk fun D σ H ⟨ι, lσ, lh, rs, rh, h⟩ =>
  ⟨ι, lσ, lh, rs, rh, fin_st h fun ι1 J H1 w lh1 e1 rh1 it h1 => by
    obtain ⟨xs, chk⟩ := w
    refine ⟨fun i m σ' H' => m = xs.length - i ∧ i ≤ xs.length ∧ ∃ ι' lσ' lh', Ext ι1 H1 ι' H' ∧ RS g LW ι' lσ' σ' H' ∧ RH g ι' lh' H' ∧ finS g LW ι' H' (forM chk mg mb (xs.drop i) lσ' lh') D,
      ⟨xs.length, by simp, Nat.zero_le _, ι1, lσ, lh1, .refl, rs.mono e1, rh1, by rw [List.drop_zero]; exact h1⟩, ?_⟩
    rintro i m σ' H' ⟨rfl, hi, ι', lσ', lh', x1, rs1, rh', h2⟩
    by_cases hlt : i < xs.length
    · rw [List.drop_eq_getElem_cons hlt] at h2
      unfold forM at h2
      split at h2
      · rename_i hk
        refine .inr ⟨it.go ι' lh' H' i x1 rh' hk hlt, fun σ2 H2 => ∃ ι' lσ' lh', Ext ι1 H1 ι' H2 ∧ RS g LW ι' lσ' σ2 H2 ∧ RH g ι' lh' H2 ∧ finS g LW ι' H2 (forM chk mg mb (xs.drop (i + 1)) lσ' lh') D, fun σ2 H2 q => ⟨xs.length - (i + 1), by omega, rfl, hlt, q⟩, fun x H'' y => ?_⟩
        obtain ⟨y1, y2, y3⟩ := it.yld ι' lh' H' i x _ H'' x1 rh' hk (List.getElem?_eq_getElem hlt) y
        split at h2
        · exact h2.elim
        · rename_i lσ1 eg
          refine go.ok LW ι' lσ' lσ1 lh' σ' H'' x _ _ (rs1.mono y1) y2 y3 eg fun σ2 rs2 _ => ⟨ι', lσ1, lh', rs2, y2, ?_⟩
          cases e : mb lσ1 lh' with
          | nx l1 l2 =>
            rw [e] at h2
            exact fun ι3 σ3 H3 x3 rs3 rh3 => ⟨ι3, l1, l2, (x1.trans y1).trans x3, rs3, rh3, finS.mono (y1.trans x3) h2⟩
          | ct l1 l2 =>
            rw [e] at h2
            exact fun ι3 σ3 H3 x3 rs3 rh3 => ⟨ι3, l1, l2, (x1.trans y1).trans x3, rs3, rh3, finS.mono (y1.trans x3) h2⟩
          | bk l1 l2 =>
            rw [e] at h2
            exact fun ι3 σ3 H3 x3 rs3 rh3 => h2 ι3 σ3 H3 (y1.trans x3) rs3 rh3
          | rt v l2 =>
            rw [e] at h2
            exact fun ι3 σ3 H3 x3 rs3 rh3 => h2 ι3 σ3 H3 (y1.trans x3) rs3 rh3
          | exc x l1 l2 => rw [e] at h2; exact h2
          | bad => rw [e] at h2; exact h2
      · exact h2.elim
    · have ei : i = xs.length := by omega
      subst ei
      rw [List.drop_length] at h2
      unfold forM at h2
      split at h2
      · rename_i hk
        exact .inl ⟨it.stop ι' lh' H' x1 rh' hk, h2 ι' σ' H' .refl rs1 rh'⟩
      · exact h2.elim⟩
theorem q_while {c : Expr} {t : MB} (n : Nat) (po : PassesOwn (model X.prog X.w) X.A X.env X.xe) (hc : PT X c (tT g LW t)) (hb : PSs X body (tS g LW mb)) : PS X (.While c body [] pos) (tS g LW (whileM t mb n)) := (ps_while po hc hb).wk fun D σ H ⟨ι, lσ, lh, rs, rh, h⟩ => by
  refine ⟨fun m σ' H' => ∃ ι' lσ' lh', RS g LW ι' lσ' σ' H' ∧ RH g ι' lh' H' ∧ finS g LW ι' H' (whileM t mb m lσ' lh') D, ⟨n, ι, lσ, lh, rs, rh, h⟩, ?_⟩
  rintro m σ' H' ⟨ι', lσ', lh', rs1, rh1, h1⟩
  cases m with
  | zero => exact h1.elim
  | succ m =>
    unfold whileM at h1
    refine ⟨ι', lσ', lh', rs1, rh1, fin_st h1 fun ι2 x H2 v lh2 e2 rh2 rv2 h2 => ?_⟩
    cases rv2
    cases x with
    | false =>
      rw [if_neg Bool.false_ne_true] at h2 ⊢
      exact h2 ι2 σ' H2 .refl (rs1.mono e2) rh2
    | true =>
      rw [if_pos rfl] at h2 ⊢
      refine ⟨fun σ3 H3 => ∃ ι' lσ' lh', RS g LW ι' lσ' σ3 H3 ∧ RH g ι' lh' H3 ∧ finS g LW ι' H3 (whileM t mb m lσ' lh') D, fun σ3 H3 q => ⟨m, Nat.lt_succ_self m, q⟩, ⟨ι2, lσ', lh2, rs1.mono e2, rh2, ?_⟩⟩
      cases e : mb lσ' lh2 with
      | nx l1 l2 => rw [e] at h2; exact fun ι3 σ3 H3 x3 rs3 rh3 => ⟨ι3, l1, l2, rs3, rh3, finS.mono x3 h2⟩
      | ct l1 l2 => rw [e] at h2; exact fun ι3 σ3 H3 x3 rs3 rh3 => ⟨ι3, l1, l2, rs3, rh3, finS.mono x3 h2⟩
      | bk l1 l2 => rw [e] at h2; exact h2
      | rt v l2 => rw [e] at h2; exact h2
      | exc x l1 l2 => rw [e] at h2; exact h2
      | bad => rw [e] at h2; exact h2
end

/-! ### comprehensions -/
section
variable {X : Cx} {g : GG} {LW : LWish} {tg iter elt : Expr} {ifs : List Expr} {scope : Scope} {own : List (Str × Nat)} {mi : MI} {gt : TG} {mg : MG} {js : List Nat} {mt : MB} {me : ME} {pos : Pos}
def LWish.no (LW : LWish) : LWish := ⟨fun _ _ _ => False, LW.i, LW.h, LW.ev⟩
theorem RS.no {ι : List Addr} {lσ : LSt} {σ : L2.St} {H : Hp} (h : RS g LW ι lσ σ H) : RS g LW.no ι lσ σ H := ⟨h.ext, h.len, h.at', h.kp⟩
theorem RS.yes {ι : List Addr} {lσ : LSt} {σ : L2.St} {H : Hp} (h : RS g LW.no ι lσ σ H) : RS g LW ι lσ σ H := ⟨h.ext, h.len, h.at', h.kp⟩
theorem tkno {X : Cx} : Takes X (wOf g LW.no) := fun _ _ x => by
  obtain ⟨_, _, _, _, _, _, _, _, _, _, _, _, _, _, _, _, _, _, _, _, _, _, _, z⟩ := x
  exact z.elim
theorem RS.wipe {ι : List Addr} {lσ : LSt} {σ : L2.St} {H : Hp} (h : RS g LW ι lσ σ H) : ∀ vs : List Nat, RS g LW ι (wipeL lσ vs) (L2.wipe σ vs) H
  | [] => h
  | v :: vs => (RS.wipe h vs).none v
theorem wipe_wipe (σ : L2.St) : ∀ (us vs : List Nat), (∀ u ∈ us, u ∈ vs) → wipe (wipe σ us) vs = wipe σ vs
  | [], _, _ => rfl
  | u :: us, vs, h => by
    show wipe ((wipe σ us).set u none) vs = _
    rw [wipe_set (h u List.mem_cons_self)]
    exact wipe_wipe σ us vs fun x hx => h x (List.mem_cons_of_mem _ hx)
theorem finR.nox {α β : Type} {rel : List Addr → Hp → β → α → Prop} {ι : List Addr} {lσ : LSt} {H : Hp} {r : R α} {Q : β → Hp → Prop} (h : finR rel g LW ι lσ H r.nox Q) : finR rel g LW.no ι lσ H r Q := by
  cases r with
  | ok v lh => exact h
  | exc x lh => exact h.elim
  | bad => exact h
def finU (g : GG) (ι : List Addr) (H : Hp) (r : R Unit) (P : Hp → Prop) : Prop := match r with
  | .ok _ lh => ∀ ι' H', Ext ι H ι' H' → RH g ι' lh H' → P H'
  | _ => False
theorem finU.mono {ι ι1 : List Addr} {H H1 : Hp} {r : R Unit} {P : Hp → Prop} (e : Ext ι H ι1 H1) (h : finU g ι H r P) : finU g ι1 H1 r P := by
  cases r with
  | ok _ lh => exact fun ι' H' e1 rh => h ι' H' (e.trans e1) rh
  | exc x lh => exact h
  | bad => exact h
/-- one turn of a comprehension, and all that follow -/
theorem lc_turn {ι1 : List Addr} {H1 : Hp} {lσ : LSt} {σ : L2.St} {lh1 : LH} {xs : List LV} {chk : LH → Bool} {J : It} {Q : VK} {own : List (Str × Nat)} (rs : RS g LW ι1 lσ σ H1) (rh1 : RH g ι1 lh1 H1) (it : ItOk g ι1 H1 J xs chk) (go : GOk g gt mg js) (hj : ∀ j ∈ js, j ∈ own.map (·.2))
    (h : finR (relV g) g LW ι1 lσ H1 ((lcM chk mg mt me (wipeL lσ (own.map (·.2))) lh1.length xs (lh1 ++ [.lst []])).nox.bind fun _ h2 => .ok (.loc lh1.length) h2) Q) :
    ∀ D, H1 D = none → ∃ W : Nat → Nat → Hp → Prop, (∃ m, W 0 m (upd H1 D (.lst []))) ∧ ∀ i m H, W i m H →
      (J.stop i H ∧ Q (.ref D) H) ∨ (J.go i H ∧ ∃ Nx : Hp → Prop, (∀ H', Nx H' → ∃ m', m' < m ∧ W (i + 1) m' H') ∧ ∀ x H', J.yld i H x H' → gt x (wipe σ (own.map (·.2))) H' fun σ2 H2 => wipe σ2 (own.map (·.2)) = wipe σ (own.map (·.2)) ∧ tT g LW.no mt σ2 H2 fun b H3 =>
        if b = true then tE g LW.no me σ2 H3 fun y H4 => ∃ acc, H4 D = some (.lst acc) ∧ acc.length < sizeLine ∧ Nx (upd H4 D (.lst (acc ++ [y]))) else Nx H3) := by
  intro D hD
  have a1 : RH g (ι1 ++ [D]) (lh1 ++ [.lst []]) (upd H1 D (.lst [])) := rh1.alloc hD ⟨[], upd_same, .nil⟩
  have x0 : Ext ι1 H1 (ι1 ++ [D]) (upd H1 D (.lst [])) := Ext.freshI hD
  have hn : (ι1 ++ [D])[lh1.length]? = some D := by rw [← rh1.len]; simp
  let Nw : Nat → Hp → Prop := fun i H' => ∃ ι' lh', Ext (ι1 ++ [D]) (upd H1 D (.lst [])) ι' H' ∧ RH g ι' lh' H' ∧ finU g ι' H' (lcM chk mg mt me (wipeL lσ (own.map (·.2))) lh1.length (xs.drop i) lh') fun H'' => Q (.ref D) H''
  refine ⟨fun i m H' => m = xs.length - i ∧ i ≤ xs.length ∧ Nw i H', ⟨xs.length, by simp, Nat.zero_le _, ι1 ++ [D], lh1 ++ [.lst []], .refl, a1, ?_⟩, ?_⟩
  · rw [List.drop_zero]
    have h' := finR.mono x0 h
    cases e : lcM chk mg mt me (wipeL lσ (own.map (·.2))) lh1.length xs (lh1 ++ [.lst []]) with
    | ok u l => rw [e] at h'; exact fun ι' H' e1 rh' => h' ι' (.ref D) H' e1 rh' (.loc (e1.get hn))
    | exc x l => rw [e] at h'; exact h'.elim
    | bad => rw [e] at h'; exact h'.elim
  · rintro i m H' ⟨rfl, hi, ι', lh', x1, rh', h2⟩
    have xx := x0.trans x1
    by_cases hlt : i < xs.length
    · rw [List.drop_eq_getElem_cons hlt] at h2
      unfold lcM at h2
      split at h2
      · rename_i hk
        refine .inr ⟨it.go ι' lh' H' i xx rh' hk hlt, Nw (i + 1), fun H2 q => ⟨xs.length - (i + 1), by omega, rfl, hlt, q⟩, fun x H'' y => ?_⟩
        obtain ⟨y1, y2, y3⟩ := it.yld ι' lh' H' i x _ H'' xx rh' hk (List.getElem?_eq_getElem hlt) y
        split at h2
        · exact h2.elim
        · rename_i lσ1 eg
          refine go.ok LW ι' _ lσ1 lh' _ H'' x _ _ (((rs.wipe _).mono xx).mono y1) y2 y3 eg fun σ2 rs2 tc => ⟨?_, ⟨ι', lσ1, lh', rs2.no, y2, ?_⟩⟩
          · rw [tc _ hj, wipe_wipe _ _ _ fun u hu => hu]
          · have h3 := finU.mono y1 h2
            have z1 := x1.trans y1
            clear h2
            cases e : mt lσ1 lh' with
            | bad => rw [e] at h3; exact h3.elim
            | exc x l => rw [e] at h3; exact h3.elim
            | ok c l =>
              rw [e] at h3
              simp only [R.nox, R.bind] at h3
              intro ι3 c' H3 e3 rh3 rv3
              cases rv3
              have h4 := finU.mono e3 h3
              have z2 := z1.trans e3
              cases c with
              | false =>
                rw [if_neg Bool.false_ne_true] at h4 ⊢
                exact ⟨ι3, l, z2, rh3, h4⟩
              | true =>
                rw [if_pos rfl] at h4 ⊢
                refine ⟨ι3, lσ1, l, rs2.no.mono e3, rh3, ?_⟩
                cases e4 : me lσ1 l with
                | bad => rw [e4] at h4; exact h4.elim
                | exc x l => rw [e4] at h4; exact h4.elim
                | ok v l2 =>
                  rw [e4] at h4
                  try simp only [R.nox, R.bind] at h4
                  intro ι5 y' H5 e5 rh5 rv5
                  have h5 := finU.mono e5 h4
                  have z3 := z2.trans e5
                  split at h5
                  · rename_i ys q1
                    split at h5
                    · rename_i hz
                      obtain ⟨vs, w1, w2⟩ := rh5.lst q1 (z3.get hn)
                      obtain ⟨p1, p2⟩ := rh5.set_lst (z3.get hn) q1 trivial (w2.append (.cons rv5 .nil))
                      exact ⟨vs, w1, by rw [w2.length]; exact sz' hz, ι5, _, z3.trans p2, p1, finU.mono p2 h5⟩
                    · exact h5.elim
                  · exact h5.elim
      · exact h2.elim
    · have ei : i = xs.length := by omega
      subst ei
      rw [List.drop_length] at h2
      unfold lcM at h2
      split at h2
      · rename_i hk
        exact .inl ⟨it.stop ι' lh' H' xx rh' hk, h2 ι' H' .refl rh'⟩
      · exact h2.elim
theorem q_ptsN : PTs X [] (tT g LW bYes) := ⟨fun pins s σ H Q I h => pts_nil.run pins s σ H Q I (by
  obtain ⟨ι, lσ, lh, rs, rh, h⟩ := h
  exact finR.ok h rh rfl)⟩
theorem q_pts1 {c : Expr} {t : MB} (h : PT X c (tT g LW t)) : PTs X [c] (tT g LW t) := pts_one h
/-- [e for x in it if t] as a value -/
theorem q_lc (hc : X.calm = true) (hN : X.N.Nodup) (hi : PI X tg iter (tI g LW mi)) (ok : BlkOk X.N X.env.scope scope own) (go : GOk g gt mg js) (hj : ∀ j ∈ js, j ∈ own.map (·.2))
    (hg : ∀ (s : Shared) (H : Hp) (C : Addr) (cl : List (Str × Addr)) (fp : List Addr), PG (X.blk s H scope (compEnvC scope cl C X.env) fp) tg gt) (ht : ∀ (s : Shared) (H : Hp) (C : Addr) (cl : List (Str × Addr)) (fp : List Addr), PTs (X.blk s H scope (compEnvC scope cl C X.env) fp) ifs (tT g LW.no mt))
    (he : ∀ (s : Shared) (H : Hp) (C : Addr) (cl : List (Str × Addr)) (fp : List Addr), PE (X.blk s H scope (compEnvC scope cl C X.env) fp) elt (tE g LW.no me)) (hs : ∀ x, foldedSetIterable iter X.env x = pure x := by intro _; rfl) :
    PE X (.ListComp elt [⟨tg, iter, ifs, 0⟩] scope pos) (tE g LW (mLc mi mg mt me (own.map (·.2)))) := (pe_lc hc hN hi ok hg ht he hs).wk fun σ H Q ⟨ι, lσ, lh, rs, rh, h⟩ =>
  ⟨ι, lσ, lh, rs, rh, fin_bind h fun ι1 J H1 w lh1 e1 rh1 it h1 => lc_turn (rs.mono e1) rh1 it go hj h1⟩
/-- name = [..] -/
theorem q_setLc (i : Nat) {y : Str} {py spos : Pos} (hc : X.calm = true) (hN : X.N.Nodup) (hsw : swapsWith (.ListComp elt [⟨tg, iter, ifs, 0⟩] scope pos) (some (.Name y py)) spos.line X.env = pure true) (hi : PI X tg iter (tI g LW mi)) (ok : BlkOk X.N X.env.scope scope own) (go : GOk g gt mg js) (hj : ∀ j ∈ js, j ∈ own.map (·.2))
    (hg : ∀ (s : Shared) (H : Hp) (C : Addr) (cl : List (Str × Addr)) (fp : List Addr), PG (X.blk s H scope (compEnvC scope cl C X.env) fp) tg gt) (ht : ∀ (s : Shared) (H : Hp) (C : Addr) (cl : List (Str × Addr)) (fp : List Addr), PTs (X.blk s H scope (compEnvC scope cl C X.env) fp) ifs (tT g LW.no mt))
    (he : ∀ (s : Shared) (H : Hp) (C : Addr) (cl : List (Str × Addr)) (fp : List Addr), PE (X.blk s H scope (compEnvC scope cl C X.env) fp) elt (tE g LW.no me)) (hs : ∀ x, foldedSetIterable iter X.env x = pure x := by intro _; rfl)
    (hy : X.N[i]? = some y := by rfl) (hyl : X.env.scope.names.lookup y = some .local := by rfl) :
    PS X (.Assign [.Name y py] (.ListComp elt [⟨tg, iter, ifs, 0⟩] scope pos) spos) (tS g LW (sSet i (mLc mi mg mt me (own.map (·.2))))) := (ps_setLc hc hN hy hyl hsw hi ok hg ht he hs).wk fun D σ H ⟨ι, lσ, lh, rs, rh, h⟩ => by
  simp only [sSet, mLc] at h
  refine ⟨ι, lσ, lh, rs, rh, ?_⟩
  cases e : mi lσ lh with
  | bad => rw [e] at h; exact h.elim
  | exc x l => rw [e] at h; exact h
  | ok w lh1 =>
    rw [e] at h
    simp only [R.bind] at h
    intro ι1 J H1 e1 rh1 it
    refine lc_turn (Q := fun x H' => gName i x σ H' D.nx) (rs.mono e1) rh1 it go hj ?_
    have h1 := finS.mono e1 h
    cases e2 : lcM w.2 mg mt me (wipeL lσ (own.map (·.2))) lh1.length w.1 (lh1 ++ [.lst []]) with
    | bad => rw [e2] at h1; exact h1.elim
    | exc x l => rw [e2] at h1; exact h1.elim
    | ok u l2 =>
      rw [e2] at h1
      simp only [R.nox, R.bind, R.st] at h1
      exact fun ι2 x H2 x2 rh2 rv2 => h1 ι2 _ H2 x2 (((rs.mono e1).mono x2).set rv2 i) rh2
end

/-! ### a def keeps its promise -/
mutual
theorem RV.lim {g : GG} {ι : List Addr} {H : Hp} : ∀ {v : V} {x : LV}, RV g ι H v x → x.lim ι.length = true
  | _, _, .non => rfl
  | _, _, .bl b => rfl
  | _, _, .int i => rfl
  | _, _, .str s => rfl
  | _, _, .tup h r => by rw [LV.lim]; exact RVs.lim r
  | _, _, .loc h => by rw [LV.lim]; exact decide_eq_true (List.getElem?_eq_some_iff.mp h).1
  | _, _, .fn i => rfl
theorem RVs.lim {g : GG} {ι : List Addr} {H : Hp} : ∀ {v : List V} {x : List LV}, RVs g ι H v x → LV.lims ι.length x = true
  | _, _, .nil => rfl
  | _, _, .cons a b => by rw [LV.lims, RV.lim a, RVs.lim b]; rfl
end
mutual
theorem RV.cut {g : GG} {ι : List Addr} {H : Hp} {n : Nat} : ∀ {v : V} {x : LV}, RV g ι H v x → x.lim n = true → RV g (ι.take n) H v x
  | _, _, .non, _ => .non
  | _, _, .bl b, _ => .bl b
  | _, _, .int i, _ => .int i
  | _, _, .str s, _ => .str s
  | _, _, .tup h r, l => .tup h (RVs.cut r (by rw [LV.lim] at l; exact l))
  | _, _, .loc h, l => .loc (by rw [LV.lim] at l; rw [List.getElem?_take_of_lt (of_decide_eq_true l)]; exact h)
  | _, _, .fn i, _ => .fn i
theorem RVs.cut {g : GG} {ι : List Addr} {H : Hp} {n : Nat} : ∀ {v : List V} {x : List LV}, RVs g ι H v x → LV.lims n x = true → RVs g (ι.take n) H v x
  | _, _, .nil, _ => .nil
  | _, _, .cons a b, l => by
    rw [LV.lims, Bool.and_eq_true] at l
    exact .cons (RV.cut a l.1) (RVs.cut b l.2)
end
section
variable {g : GG} {ι ι0 : List Addr} {H H0 : Hp} {lh lh0 : LH}
theorem RK.cut {vs : List (L2.Key × V)} {xs : List (LKey × LV)} {n : Nat} (h : RK g ι H vs xs) (l : LV.lims n (xs.map (·.2)) = true) : RK g (ι.take n) H vs xs := by
  induction h with
  | nil => exact .nil
  | cons a b ih =>
    rw [List.map_cons, LV.lims, Bool.and_eq_true] at l
    exact .cons (a.cut l.1) (ih l.2)
theorem RKT.cut {vs : List (List L2.Key × V)} {xs : List (List LKey × LV)} {n : Nat} (h : RKT g ι H vs xs) (l : LV.lims n (xs.map (·.2)) = true) : RKT g (ι.take n) H vs xs := by
  induction h with
  | nil => exact .nil
  | cons a b ih =>
    rw [List.map_cons, LV.lims, Bool.and_eq_true] at l
    exact .cons (a.cut l.1) (ih l.2)
theorem RF.cut {vs : List (Str × V)} {xs : List (List Nat × LV)} {n : Nat} (h : RF g ι H vs xs) (l : LV.lims n (xs.map (·.2)) = true) : RF g (ι.take n) H vs xs := by
  induction h with
  | nil => exact .nil
  | cons a b ih =>
    rw [List.map_cons, LV.lims, Bool.and_eq_true] at l
    exact .cons (a.cut l.1) (ih l.2)
theorem RK.lim {vs : List (L2.Key × V)} {xs : List (LKey × LV)} (h : RK g ι H vs xs) : LV.lims ι.length (xs.map (·.2)) = true := by
  induction h with
  | nil => rfl
  | cons a b ih => rw [List.map_cons, LV.lims, a.lim, ih]; rfl
theorem RKT.lim {vs : List (List L2.Key × V)} {xs : List (List LKey × LV)} (h : RKT g ι H vs xs) : LV.lims ι.length (xs.map (·.2)) = true := by
  induction h with
  | nil => rfl
  | cons a b ih => rw [List.map_cons, LV.lims, a.lim, ih]; rfl
theorem RF.lim {vs : List (Str × V)} {xs : List (List Nat × LV)} (h : RF g ι H vs xs) : LV.lims ι.length (xs.map (·.2)) = true := by
  induction h with
  | nil => rfl
  | cons a b ih => rw [List.map_cons, LV.lims, a.lim, ih]; rfl
theorem RO.lim {a : Addr} {o : LO} (h : RO g ι H a o) : o.lim ι.length = true := by
  cases o with
  | lst xs => obtain ⟨vs, _, r⟩ := h; exact r.lim
  | rol xs => obtain ⟨vs, _, r⟩ := h; exact r.lim
  | dct xs => obtain ⟨vs, _, r⟩ := h; exact r.lim
  | dtt xs => obtain ⟨vs, _, r⟩ := h; exact r.lim
  | ins c fs => obtain ⟨dx, vs, _, r⟩ := h; exact r.lim
  | deq xs => obtain ⟨n, us, vs, _, _, r⟩ := h; exact r.lim
  | exo => rfl
theorem RO.cut {a : Addr} {o : LO} {n : Nat} (h : RO g ι H a o) (l : o.lim n = true) : RO g (ι.take n) H a o := by
  cases o with
  | lst xs => obtain ⟨vs, q, r⟩ := h; exact ⟨vs, q, r.cut l⟩
  | rol xs => obtain ⟨vs, q, r⟩ := h; exact ⟨vs, q, r.cut l⟩
  | dct xs => obtain ⟨vs, q, r⟩ := h; exact ⟨vs, q, r.cut l⟩
  | dtt xs => obtain ⟨vs, q, r⟩ := h; exact ⟨vs, q, r.cut l⟩
  | ins c fs => obtain ⟨dx, vs, q, r⟩ := h; exact ⟨dx, vs, q, r.cut l⟩
  | deq xs => obtain ⟨n, us, vs, q, q2, r⟩ := h; exact ⟨n, us, vs, q, q2, r.cut l⟩
  | exo => trivial
mutual
theorem lim_mono {n m : Nat} (h : n ≤ m) : ∀ x : LV, x.lim n = true → x.lim m = true
  | .loc k, e => by rw [LV.lim] at e ⊢; have := of_decide_eq_true e; exact decide_eq_true (by omega)
  | .tup xs, e => by rw [LV.lim] at e ⊢; exact lims_mono h xs e
  | .non, _ => rfl
  | .bl _, _ => rfl
  | .int _, _ => rfl
  | .str _, _ => rfl
  | .fn _, _ => rfl
theorem lims_mono {n m : Nat} (h : n ≤ m) : ∀ xs : List LV, LV.lims n xs = true → LV.lims m xs = true
  | [], _ => rfl
  | x :: r, e => by
    rw [LV.lims, Bool.and_eq_true] at e ⊢
    exact ⟨lim_mono h x e.1, lims_mono h r e.2⟩
end
theorem limO_mono {n m : Nat} (h : n ≤ m) (o : LO) (e : o.lim n = true) : o.lim m = true := by
  cases o <;> first | exact lims_mono h _ e | rfl
/-- the heap cut at n -/
theorem cut_ok {n : Nat} (x : Ext ι0 H0 ι H) (rh0 : RH g ι0 lh0 H0) (rh : RH g ι lh H) (hn : lh0.length ≤ n) (s : shut n lh0 lh = true) : Ext ι0 H0 (ι.take n) H ∧ RH g (ι.take n) (lh.take n) H := by
  refine ⟨⟨?_, x.stb⟩, ⟨by rw [List.length_take, List.length_take, rh.len], fun m a o e1 e2 => ?_, fun m k a o o' e1 e2 e3 e4 m1 m2 => ?_⟩⟩
  · obtain ⟨l, rfl⟩ := x.pre
    refine ⟨l.take (n - ι0.length), ?_⟩
    rw [List.take_append, List.take_of_length_le (by rw [rh0.len]; exact hn)]
  · have hm : m < n := by
      by_cases hm : m < n
      · exact hm
      · rw [List.getElem?_eq_none (by rw [List.length_take]; omega)] at e2; cases e2
    rw [List.getElem?_take_of_lt hm] at e1 e2
    refine (rh.ob m a o e1 e2).cut ?_
    unfold shut at s
    rw [List.all_eq_true] at s
    have q := s m (List.mem_range.mpr hm)
    rw [e2] at q
    simp only [Bool.or_eq_true, decide_eq_true_eq] at q
    rcases q with q | q
    · exact q
    · obtain ⟨a0, q0⟩ := rh0.addr q
      have l0 := (rh0.ob m a0 o q0 q).lim
      rw [rh0.len] at l0
      exact limO_mono hn o l0
  · have get : ∀ {j : Nat} {p : Addr} {w : LO}, (ι.take n)[j]? = some p → (lh.take n)[j]? = some w → ι[j]? = some p ∧ lh[j]? = some w := fun {j p w} q1 q2 => by
      have hj : j < n := by
        by_cases hj : j < n
        · exact hj
        · rw [List.getElem?_eq_none (by rw [List.length_take]; omega)] at q2; cases q2
      rw [List.getElem?_take_of_lt hj] at q1 q2
      exact ⟨q1, q2⟩
    exact rh.inj m k a o o' (get e1 e3).1 (get e2 e4).1 (get e1 e3).2 (get e2 e4).2 m1 m2
theorem gc_ok (lim : Nat → Bool) (x : Ext ι0 H0 ι H) (rh0 : RH g ι0 lh0 H0) (rh : RH g ι lh H) : ∃ ι', Ext ι0 H0 ι' H ∧ RH g ι' (gc lim lh0 lh) H ∧ (ι' = ι ∨ ∃ n, lim n = true ∧ ι' = ι.take n) := by
  unfold gc
  split
  · rename_i q
    rw [Bool.and_eq_true] at q
    obtain ⟨h1, h2⟩ := cut_ok x rh0 rh (Nat.le_refl _) q.2
    exact ⟨_, h1, h2, .inr ⟨_, q.1, rfl⟩⟩
  · split
    · rename_i q
      rw [Bool.and_eq_true] at q
      obtain ⟨h1, h2⟩ := cut_ok x rh0 rh (Nat.le_succ _) q.2
      exact ⟨_, h1, h2, .inr ⟨_, q.1, rfl⟩⟩
    · exact ⟨ι, x, rh, .inl rfl⟩
theorem start_ok {N : List Str} {vs : List V} {args : List LV} (r : RVs g ι H vs args) : RS g ⟨fun _ _ _ => False, ι, H, none⟩ ι (args.map some ++ List.replicate (N.length - args.length) none) (L2.start N vs) H := by
  refine ⟨.refl, ?_, fun i x e => ?_, fun _ _ _ _ _ q => by cases q⟩
  · unfold L2.start
    simp [r.length]
  · by_cases hi : i < args.length
    · rw [List.getElem?_append_left (by simpa using hi), List.getElem?_map] at e
      cases q : args[i]? with
      | none => rw [q] at e; cases e
      | some y =>
        rw [q] at e; cases e
        obtain ⟨v, k1, k2⟩ := r.get q
        refine ⟨v, ?_, k2⟩
        unfold L2.start
        rw [List.getElem?_append_left (by rw [List.length_map, r.length]; exact hi), List.getElem?_map, k1]
        rfl
    · rw [List.getElem?_append_right (by simpa using hi), List.getElem?_replicate] at e
      split at e <;> cases e
end
section
variable {P : Program} {w : World} {K : PySem.W.Frag} {mg : Str → Option Value} {base : Heap}
theorem fn_ok {g : GG} {x qual : Str} {st : Stmt} {f : Addr} {fd : FuncData} {N ps : List Str} {k np : Nat} {m : MS} (F : Fun K x qual st f fd) (S : FnScope N ps (defScope st)) (hn : np = ps.length)
    (hb : ∀ (cdv : Value) (A : Around) (outer : List Env) (s : Shared) (H : Hp) (E : XK) (LW : LWish), Room k (A.deeper (envOfC qual (defScope st) s.heap.objs.size f cdv)) →
      Takes (cxOf (L2.CX P w) P w K mg base N qual (defScope st) f cdv A outer s H E) (wOf g LW) → PassesOwn (model P w) (A.deeper (envOfC qual (defScope st) s.heap.objs.size f cdv)) (cxOf (L2.CX P w) P w K mg base N qual (defScope st) f cdv A outer s H E).env (cxOf (L2.CX P w) P w K mg base N qual (defScope st) f cdv A outer s H E).xe →
      PSs (cxOf (L2.CX P w) P w K mg base N qual (defScope st) f cdv A outer s H E) (defBody st) (tS g LW m)) :
    FnOk P w K mg base (L2.CX P w) (k + 1) f fd ps (spOf g np (fnRun N.length m)) := by
  refine F.okX S (fun vs H Q E h => by rw [h.1, hn]) fun cdv A outer s H vs Q E hr hsp => ?_
  obtain ⟨hl, ι, lh, args, rh, rv, hq⟩ := hsp
  let LW : LWish := ⟨fun x lσ lh' => ∀ ι' H' cls d, Ext ι H ι' H' → RH g ι' (gc x.lim lh lh') H' → RX g ι' H' cls d x → E cls d H', ι, H, none⟩
  have tk : Takes (cxOf (L2.CX P w) P w K mg base N qual (defScope st) f cdv A outer s H E) (wOf g LW) := by
    refine Takes.imp (takes_of rfl rfl rfl rfl) fun cls d σ H' hw => ?_
    obtain ⟨ι', lσ, lh', x, rs, rh', rx, q⟩ := hw
    obtain ⟨ι2, y1, y2, y3⟩ := gc_ok x.lim rs.ext rh rh'
    refine q ι2 H' cls d y1 y2 ?_
    rcases y3 with rfl | ⟨n, z1, rfl⟩
    · exact rx
    · obtain ⟨r1, r2 | ⟨r0, dd, us, r2, r3, r4⟩⟩ := rx
      · exact ⟨r1, .inl r2⟩
      · exact ⟨r1, .inr ⟨r0, dd, us, r2, r3, r4.cut z1⟩⟩
  refine ⟨_, hb cdv A outer s H E LW hr tk (passes_of rfl), ⟨ι, args.map some ++ List.replicate (N.length - args.length) none, lh, ?_, rh, ?_⟩⟩
  · obtain ⟨q1, q2, q3, q4⟩ := start_ok (N := N) rv
    exact ⟨.refl, q2, q3, fun _ _ _ _ _ q => by cases q⟩
  · unfold fnRun at hq
    cases e : m (args.map some ++ List.replicate (N.length - args.length) none) lh with
    | nx l1 l2 =>
      rw [e] at hq
      intro ι' σ' H' x1 rs1 rh1
      obtain ⟨ι2, y1, y2, y3⟩ := gc_ok (fun _ => true) x1 rh rh1
      exact hq ι2 .non H' y1 y2 .non
    | rt v l2 =>
      rw [e] at hq
      intro ι' x H' x1 rh1 rv1
      obtain ⟨ι2, y1, y2, y3⟩ := gc_ok (fun n => v.lim n) x1 rh rh1
      refine hq ι2 x H' y1 y2 ?_
      rcases y3 with rfl | ⟨n, z1, rfl⟩
      · exact rv1
      · exact rv1.cut z1
    | exc x l1 l2 => rw [e] at hq; exact hq
    | bk l1 l2 => rw [e] at hq; exact hq.elim
    | ct l1 l2 => rw [e] at hq; exact hq.elim
    | bad => rw [e] at hq; exact hq.elim
end
end Mi
namespace Mi
open PySem PySem.Spec PyProof.Rows L2
/-- a def that stands behind the top, and what it promises k calls deep -/
def Df (P : Program) (w : World) (K : PySem.W.Frag) (mg : Str → Option Value) (base : Heap) (g : GG) (k i : Nat) (x : Str) (np : Nat) (C : Or) : Prop :=
  ∃ (f : Addr) (fd : FuncData) (ps : List Str), mg x = some (.ref f) ∧ f = g.fa i ∧ FnOk P w K mg base (L2.CX P w) k f fd ps (spOf g np (C i)) ∧ np = ps.length ∧ PySem.W.keepIn K (.ref f) = true ∧ Binds K fd ps []
theorem Df.zero {P : Program} {w : World} {K : PySem.W.Frag} {mg : Str → Option Value} {base : Heap} {g : GG} {i : Nat} {x qual : Str} {st : Stmt} {fd : FuncData} {np : Nat} {ps : List Str} {C : Or} (m : mg x = some (.ref (g.fa i))) (F : Fun K x qual st (g.fa i) fd) (b : Binds K fd ps []) (hn : np = ps.length) (hC : ∀ vs h, C i vs h = .bad) :
    Df P w K mg base g 0 i x np C := by
  have no : ∀ vs H Q E, ¬ spOf g np (C i) vs H Q E := fun vs H Q E h => by
    obtain ⟨_, ι, lh, args, _, _, h⟩ := h
    rw [hC] at h
    exact h
  exact ⟨_, fd, ps, m, rfl, ⟨fun vs H Q E h => absurd h (no vs H Q E), fun A outer s H args us vs Q E _ _ _ _ h => absurd h (no vs H Q E)⟩, hn, F.kp, b⟩
/-- a constant of the module -/
def Kst (K : PySem.W.Frag) (mg : Str → Option Value) (x : Str) (lv : LV) : Prop := ∃ v u, mg x = some u ∧ RelV v u ∧ ∀ (g : GG), g.K = K → ∀ ι H, RV g ι H v lv
section
variable {X : Cx} {g : GG} {LW : LWish} {a b c : Expr} {ma mb mc : ME} {pos : Pos} {es : List Expr} {ta : MA}
theorem q_callD {k i np : Nat} {x : Str} {p : Pos} {C : Or} (tk : Takes X (wOf g LW)) (d : Df X.prog X.w X.K X.mg X.base g k i x np C) (hr : Room k X.A) (hg : Gl X x)
    (ha : PA X (a :: es) (tA g LW ta)) (hl : (a :: es).length = np) (hal : ∀ lσ lh vs lh1, ta lσ lh = .ok vs lh1 → vs.length = np) (hdb : (x == ("__debug__" : Str)) = false := by decide) (he : starEach (a :: es) X.env = (false, eval a X.env) :: starEach es X.env := by rfl) (hpl : (backTo pos (starEach es X.env)).any (·.1) = false := by rfl) :
    PE X (.Call (.Name x p) (a :: es) [] pos) (tE g LW (mCall C i ta)) := by
  obtain ⟨f, fd, ps, h1, h2, h3, h4, h5, h6⟩ := d
  exact q_call tk h3 h4 hr hg h1 h5 h6 ha hl hal hdb he hpl
theorem q_kst {x : Str} {lv : LV} (h : Kst X.K X.mg x lv) (hg : Gl X x) (hK : X.K = g.K := by rfl) (hd : (x == ("__debug__" : Str)) = false := by decide) : PE X (.Name x pos) (tE g LW (mC lv)) := by
  obtain ⟨v, u, h1, h2, h3⟩ := h
  exact q_glob hg h1 h2 (h3 g hK.symm) hd
theorem q_fn {k i np : Nat} {x : Str} {C : Or} (d : Df X.prog X.w X.K X.mg X.base g k i x np C) (hg : Gl X x) (hd : (x == ("__debug__" : Str)) = false := by decide) : PE X (.Name x pos) (tE g LW (mC (.fn i))) := by
  obtain ⟨f, fd, ps, h1, h2, _⟩ := d
  subst h2
  exact q_glob (v := .ref (g.fa i)) hg h1 rfl (fun ι H => .fn i) hd
/-- tests made of expressions that are no plain comparison of values -/
theorem q_tisN {j : Nat} {p2 : Pos} (ha : PE X a (tE g LW ma)) : PT X (.Compare a [.Is] [.Constant .none j p2] pos) (tT g LW (bE (mUn opIsN ma))) := (pt_cmp (pc_isN ha)).wk fun σ H Q ⟨ι, lσ, lh, rs, rh, h⟩ => by
  simp only [bE, mUn] at h
  cases e : ma lσ lh with
  | bad => rw [e] at h; exact h.elim
  | exc x l => rw [e] at h; exact ⟨ι, lσ, lh, rs, rh, by rw [e]; exact h⟩
  | ok v l =>
    rw [e] at h
    simp only [R.bind, opIsN, tru] at h
    refine ⟨ι, lσ, lh, rs, rh, ?_⟩
    rw [e]
    intro ι1 x H1 x1 rh1 rv1
    rw [isN_of rv1]
    exact ⟨_, rfl, h ι1 _ H1 x1 rh1 rfl⟩
theorem q_tnotN {j : Nat} {p2 : Pos} (ha : PE X a (tE g LW ma)) : PT X (.Compare a [.IsNot] [.Constant .none j p2] pos) (tT g LW (bE (mUn opNotN ma))) := (pt_cmp (pc_notN ha)).wk fun σ H Q ⟨ι, lσ, lh, rs, rh, h⟩ => by
  simp only [bE, mUn] at h
  cases e : ma lσ lh with
  | bad => rw [e] at h; exact h.elim
  | exc x l => rw [e] at h; exact ⟨ι, lσ, lh, rs, rh, by rw [e]; exact h⟩
  | ok v l =>
    rw [e] at h
    simp only [R.bind, opNotN, tru] at h
    refine ⟨ι, lσ, lh, rs, rh, ?_⟩
    rw [e]
    intro ι1 x H1 x1 rh1 rv1
    rw [isN_of rv1]
    exact ⟨_, rfl, h ι1 _ H1 x1 rh1 rfl⟩
end
end Mi
namespace Mi
open PySem PySem.Spec PyProof.Rows L2
/-- what law(script) promises -/
def spLaw (K : PySem.W.Frag) : Sp := fun vs H Q _ => ∃ (a : Addr) (ns : List Int), vs = [.ref a] ∧ ns.length ≤ 63 ∧ Only H ∧ SqL K H a (ns.map V.int) ∧ ∀ H', Q (.bl true) H'
/-- the law's own statement over the logic -/
def Law (run : Nat → Or) (dep i : Nat) : Prop := ∀ ns : List Int, ns.length ≤ 63 → ∃ lh, run dep i [.loc 0] [.rol (ns.map LV.int)] = .ok (.bl true) lh
theorem rvs_ints {g : GG} {ι : List Addr} {H : Hp} : ∀ ns : List Int, RVs g ι H (ns.map V.int) (ns.map LV.int)
  | [] => .nil
  | n :: r => .cons (.int n) (rvs_ints r)
theorem law_sp {run : Nat → Or} {dep i : Nat} {K : PySem.W.Frag} {fa ca : Nat → Addr} (h : Law run dep i) : ∀ vs H Q E, spLaw K vs H Q E → spOf ⟨K, fa, ca⟩ 1 (run dep i) vs H Q E := by
  rintro vs H Q E ⟨a, ns, rfl, hl, hO, hS, k⟩
  obtain ⟨lh, e⟩ := h ns hl
  refine ⟨rfl, [a], [.rol (ns.map LV.int)], [.loc 0], ⟨rfl, fun n b o e1 e2 => ?_, fun n m b o o' e1 e2 e3 e4 m1 m2 => ?_⟩, .cons (.loc rfl) .nil, ?_⟩
  · cases n with
    | zero =>
      simp at e1 e2
      subst e1 e2
      refine ⟨ns.map V.int, ?_, rvs_ints ns⟩
      rcases hS with (h | ⟨o, h⟩) | h
      · rcases hO a with q | ⟨o, xs, q⟩
        · rw [h] at q; cases q
        · rw [h] at q; cases q
      · exact .inl ⟨o, h⟩
      · exact .inr (.inr h)
    | succ n => simp at e1
  · cases n with
    | zero => simp at e3; subst e3; exact m1.elim
    | succ n => simp at e1
  · rw [e]
    intro ι' x H' _ _ rv
    cases rv
    exact k H'
theorem walk_law {l : PySem.W.OpenLaw} {q : Program} {loose : List Str} {XP : (Str → Option Value) → Heap → Prop} {YP : World → Heap → Prop} {d : DefRec} {K : Params → PySem.W.Frag} {dep : Nat} (hr : Room dep callerA) (hn : l.most = some 63) (hdf : d.params.defaults = [])
    (hY : ∀ (w : World) (h : Heap), YP w h → (K w.params).In h)
    (F : ∀ (w : World) (mg : Str → Option Value) (fa : Addr) (h : Heap), (K w.params).In h → h.Ns mainGlobals mg → mg d.name = some (.ref fa) →
      ∃ fd : FuncData, (∀ (s : Shared) (u : Value), BindsTo s fd ⟨[u], []⟩ [("script", u)]) ∧ ∀ base : Heap, (K w.params).In base → base.Ns mainGlobals mg → FnOk l.prog w (K w.params) mg base (L2.CX l.prog w) dep fa fd ["script"] (spLaw (K w.params))) :
    PySem.W.WalkO q loose XP YP l.row.toRowW d [] (fun f vs => PySem.call f vs) :=
  L2.walk_of (n := 63) (k := dep) (x := "script") (CX := fun w => L2.CX l.prog w) (sp := fun w => spLaw (K w.params)) hn (by decide) hdf hr hY F (fun _ _ a ns hl hO hS => ⟨a, ns, rfl, hl, hO, hS, fun _ => rfl⟩) fun _ _ _ _ _ z => by
    obtain ⟨_, _, _, _, _, _, _, _, _, _, _, _, z⟩ := z
    exact z
end Mi
namespace Mi
open PySem PySem.Spec PyProof.Rows L2
/-! Errors: raise, try, isinstance of a held error. -/
/-- an own error class without fields, that comes of ValueError -/
structure XC (K : PySem.W.Frag) (mg : Str → Option Value) (C : Addr) (x : Str) : Prop where
  m : mg x = some (.ref C)
  e : PySem.W.excIn K C [.type "ValueError", .type "Exception", .type "BaseException", .type "object"] "ValueError.__new__" = true
  k : PySem.W.keepIn K (.ref C) = true
  b : PySem.W.subIn K (.ref C) (.type "BaseException") = some true
  t : PySem.W.typeIn K (.ref C) = some (.type "type")
theorem kit_ref {K : PySem.W.Frag} {C D : Addr} {b : Bool} (hdct : PySem.W.hasDictIn K C = true) (ht : PySem.W.typeIn K (.ref C) = some (.type "type")) (self : PySem.W.subIn K (.ref C) (.ref C) = some true) (h4 : PySem.W.subIn K (.ref D) (.ref C) = some b) : PySem.W.kitOne K (.ref D) (.ref C) = some b := by
  unfold PySem.W.kitOne
  by_cases e : D = C
  · subst e
    rw [if_pos (beq_self_eq_true _)]
    exact self.symm.trans h4
  · rw [if_neg (fun q => e (Value.ref.inj (beq_iff_eq.mp q)))]
    obtain ⟨cd, hc, _⟩ := PySem.W.any_some hdct
    have e2 : ((PySem.W.clsIn K C).isSome && PySem.W.typeIn K (.ref C) == some (.type "type")) = true := by rw [hc, ht] <;> rfl
    show (if ((PySem.W.clsIn K C).isSome && PySem.W.typeIn K (.ref C) == some (.type "type")) = true then PySem.W.subIn K (.ref D) (.ref C) else none) = some b
    rw [if_pos e2]
    exact h4
section
variable {X : Cx} {C : Addr} {bmB : List Value} {B newId initId : String}
/-- X() -/
theorem pmk_own0 {x : Str} {p pos : Pos} (F : ExcBaseFacts B newId initId bmB) (q : PySem.W.excIn X.K C bmB newId = true) (gC : X.mg x = some (.ref C)) (kC : PySem.W.keepIn X.K (.ref C) = true) (r : Raises X (.ref C)) (hg : Gl X x)
    (hdb : (x == ("__debug__" : Str)) = false := by decide) : PMk X (.Call (.Name x p) [] [] pos) (fun _ H Q => Q (.ref C) none H) := by
  intro pins s σ H Q I h
  refine wpAny_Call_Name_kw (ld_glob I hg gC ?_ hdb)
  refine PySem.W.callWith_K0 I.kIn kC ?_
  show wpAny _ _ (call (.ref C) []) _ _ _
  obtain ⟨bm, N, nm, qn, bs, hdct, sn, sub, ab, col, dd, k0, k1, k2, k3, k5, mN, hC, hN, hni, T⟩ := exc_obj I.kIn q
  refine wpAny_call_exc_subT F T hC hN hni (fun h' e hm => ?_) (Nat.zero_le _)
  exact mk_of I hm r h (I.hok.gone hm.new)
end
section
variable {X : Cx} {g : GG} {LW : LWish} {ι ι1 : List Addr} {lσ : LSt} {H H1 : Hp} {lh : LH} {σ : L2.St}
theorem q_raise {x : Str} {p pos pos' : Pos} (c : Nat) (hc : X.calm = true) (tk : Takes X (wOf g LW)) (d : XC X.K X.mg (g.ca c) x) (hg : Gl X x) (hdb : (x == ("__debug__" : Str)) = false := by decide) :
    PS X (.Raise (some (.Call (.Name x p) [] [] pos)) none pos') (tS g LW (sRaise c)) :=
  (ps_raise hc tk (pmk_own0 PySem.F.excBase_ValueError d.e d.m d.k (raises_own d.b d.t) hg hdb)).wk fun D σ H ⟨ι, lσ, lh, rs, rh, h⟩ => ⟨ι, lσ, lh, ⟨c, []⟩, rs, rh, ⟨rfl, .inl ⟨rfl, rfl⟩⟩, h⟩
theorem Ext.exo (a : Addr) : Ext ι H (ι ++ [a]) H := ⟨⟨[a], rfl⟩, fun _ _ _ e => e⟩
theorem RH.exo (h : RH g ι lh H) (a : Addr) : RH g (ι ++ [a]) (lh ++ [.exo]) H := by
  have lt : ∀ {n : Nat} {b : Addr} {y : LO}, (ι ++ [a])[n]? = some b → (lh ++ [LO.exo])[n]? = some y → (ι[n]? = some b ∧ lh[n]? = some y) ∨ y = .exo := fun {n b y} e1 e2 => by
    by_cases hn : n < lh.length
    · rw [List.getElem?_append_left (by rw [h.len]; exact hn)] at e1
      rw [List.getElem?_append_left hn] at e2
      exact .inl ⟨e1, e2⟩
    · have h2 : n < lh.length + 1 := by simpa using (List.getElem?_eq_some_iff.mp e2).1
      have e : n = lh.length := by omega
      subst e
      rw [List.getElem?_append_right (Nat.le_refl _)] at e2
      simp at e2
      exact .inr e2.symm
  refine ⟨by simp [h.len], fun n b y e1 e2 => ?_, fun n m b y z e1 e2 e3 e4 m1 m2 => ?_⟩
  · rcases lt e1 e2 with ⟨q1, q2⟩ | rfl
    · exact (h.ob n b y q1 q2).keep (Ext.exo a) fun _ => rfl
    · trivial
  · rcases lt e1 e3 with ⟨q1, q2⟩ | rfl
    · rcases lt e2 e4 with ⟨w1, w2⟩ | rfl
      · exact h.inj n m b y z q1 w1 q2 w2 m1 m2
      · exact m2.elim
    · exact m1.elim
/-- the suite's wish: nothing may leave it -/
abbrev wSu (ι : List Addr) (H : Hp) (m : Nat) (a : Addr) (c : Value) (x : LX) : LWish := ⟨fun _ _ _ => False, ι, H, some (m, a, c, none, x)⟩
theorem tkF {ι : List Addr} {H : Hp} {m : Nat} {a : Addr} {c : Value} {x : LX} : Takes X (wOf g (wSu ι H m a c x)) := fun _ _ x => by
  obtain ⟨_, _, _, _, _, _, _, _, _, _, _, _, _, _, _, _, _, _, _, _, _, _, _, z⟩ := x
  exact z.elim
theorem RS.rewish {LW LW2 : LWish} (h : RS g LW ι lσ σ H) (e : Ext LW2.i LW2.h ι H) (k : ∀ n a c d x, LW2.ev = some (n, a, c, d, x) → ι[n]? = some a ∧ RX g ι H c d x) : RS g LW2 ι lσ σ H := ⟨e, h.len, h.at', k⟩
theorem q_try0 {x n : Str} {i : Nat} {np pos pos' : Pos} {body suite : List Stmt} {b₀ : Stmt} {mb : MS} {ms : Nat → LX → MS} {sub : Nat → Bool} {c : Nat}
    (hs : X.stack = X.env :: X.outer) (hf : X.env.frame = some X.env.locals) (hN : X.N.Nodup) (hi : X.N[i]? = some n) (hln : X.env.kindOf n = some .local) (hc : Names X x (.ref (g.ca c))) (tk : Takes X (wOf g LW))
    (hsub : ∀ m, PySem.W.exmOne X.K (.ref (g.ca m)) (.ref (g.ca c)) = some (sub m))
    (hb : ∀ (LW' : LWish) (pn : List (Addr × Obj)) (xe : Value → Shared → Prop), Takes (X.tr pn xe) (wOf g LW') → PassesOwn (model X.prog X.w) X.A X.env xe → PSs (X.tr pn xe) body (tS g LW' mb))
    (hsu : ∀ (ι0 : List Addr) (H0 : Hp) (a : Addr) (oe : Obj) (m : Nat) (y : LX) (pn : List (Addr × Obj)), Zc (.ref (g.ca y.cls)) none oe → (∃ vs, oe.data = .fields vs) →
      PSs (X.suite a ((a, oe) :: pn)) (b₀ :: suite) (tS g (wSu ι0 H0 m a (.ref (g.ca y.cls)) y) (ms m y))) :
    PS X (.Try body [.ExceptHandler (some (.Name x np)) (some n) (b₀ :: suite) pos'] [] [] pos) (tS g LW (sTry0 sub i mb ms)) := by
  refine (ps_try_as (tb := fun W D σ H => ∃ LW' : LWish, (∀ cls d σ H, wOf g LW' cls d σ H → W cls d σ H) ∧ tS g LW' mb D σ H)
    (ts := fun a cls d D σ H => ∃ (ι0 : List Addr) (H0 : Hp) (m : Nat) (y : LX), cls = .ref (g.ca y.cls) ∧ d = none ∧ tS g (wSu ι0 H0 m a (.ref (g.ca y.cls)) y) (ms m y) D σ H) hs hf hN hi hln hc tk
    (fun W pn xe tkW po => ⟨fun pins s σ H D I ⟨LW', k, q⟩ => (hb LW' pn xe (tkW.imp k) po).run pins s σ H D I q⟩)
    (fun a oe cls d pn hz hf => ⟨fun pins s σ H D I ⟨ι0, H0, m, y, e1, e2, q⟩ => by subst e1 e2; exact (hsu ι0 H0 a oe m y pn hz hf).run pins s σ H D I q⟩)).wk ?_
  rintro D σ H ⟨ι, lσ, lh, rs, rh, h⟩
  refine ⟨⟨fun y l h1 => finS g LW ι H (if sub y.cls then (if y.fs.isEmpty then unslot i (ms h1.length y (l.set i (some (.loc h1.length))) (h1 ++ [.exo])) else .bad) else .exc y l h1) D, ι, H, LW.ev⟩, ?_, ι, lσ, lh, rs.rewish .refl rs.kp, rh, ?_⟩
  · rintro cls d σ1 H1 ⟨ι1, l1, h1, y, rs1, rh1, rx, hw⟩
    have x1 : Ext ι H ι1 H1 := rs1.ext
    obtain ⟨rfl, rx2⟩ := rx
    refine ⟨sub y.cls, hsub _, fun hb a ha => ?_, fun hb => ?_⟩
    · simp only [hb, if_pos] at hw
      rcases rx2 with ⟨hfs, rfl⟩ | ⟨hfs, _⟩
      · have hfe : y.fs.isEmpty = true := by rw [hfs]; rfl
        rw [if_pos hfe] at hw
        have ha2 : (ι1 ++ [a])[h1.length]? = some a := by
          rw [← rh1.len, List.getElem?_append_right (Nat.le_refl _)]; simp
        have rxx : RX g (ι1 ++ [a]) H1 (.ref (g.ca y.cls)) none y := ⟨rfl, .inl ⟨hfs, rfl⟩⟩
        have x2 : Ext ι H (ι1 ++ [a]) H1 := x1.trans (Ext.exo a)
        refine ⟨ι1 ++ [a], H1, h1.length, y, rfl, rfl, ι1 ++ [a], _, _, ((rs1.mono (Ext.exo a)).set (RV.loc ha2) i).rewish .refl ?_, rh1.exo a, ?_⟩
        · intro n' a' c' d' x' q; cases q; exact ⟨ha2, rxx⟩
        · have back : ∀ {ι' : List Addr} {l : LSt} {σ' : L2.St} {H' : Hp}, Ext (ι1 ++ [a]) H1 ι' H' → RS g (wSu (ι1 ++ [a]) H1 h1.length a (.ref (g.ca y.cls)) y) ι' l σ' H' → RS g LW ι' (l.set i none) (σ'.set i none) H' := fun {ι' l σ' H'} e r =>
            (r.none i).rewish (rs.ext.trans (x2.trans e)) fun n' a' c' d' x' q => by
              obtain ⟨p1, p2⟩ := rs.kp n' a' c' d' x' q
              exact ⟨(x2.trans e).get p1, p2.mono (x2.trans e)⟩
          revert hw
          cases ms h1.length y (l1.set i (some (.loc h1.length))) (h1 ++ [.exo]) with
          | nx l2 h2 => intro hw; exact fun ι' σ' H' e r rr => hw ι' _ H' (x2.trans e) (back e r) rr
          | bk l2 h2 => intro hw; exact fun ι' σ' H' e r rr => hw ι' _ H' (x2.trans e) (back e r) rr
          | ct l2 h2 => intro hw; exact fun ι' σ' H' e r rr => hw ι' _ H' (x2.trans e) (back e r) rr
          | rt v h2 => intro hw; exact fun ι' x' H' e r rv => hw ι' _ H' (x2.trans e) r rv
          | exc x2 l2 h2 => intro hw; exact hw
          | bad => intro hw; exact hw
      · have hfe : ¬ y.fs.isEmpty = true := by
          intro q; exact hfs (List.isEmpty_iff.mp q)
        rw [if_neg hfe] at hw
        exact hw.elim
    · simp only [hb, Bool.false_eq_true, if_false] at hw
      exact ⟨ι1, l1, h1, y, rs1.rewish (rs.ext.trans x1) (fun n' a' c' d' x' q => by
        obtain ⟨p1, p2⟩ := rs.kp n' a' c' d' x' q
        exact ⟨x1.get p1, p2.mono x1⟩), rh1, ⟨rfl, rx2⟩, hw⟩
  · have fwd : ∀ {ι' : List Addr} {l : LSt} {σ' : L2.St} {H' : Hp} {w : LX → LSt → LH → Prop}, Ext ι H ι' H' → RS g ⟨w, ι, H, LW.ev⟩ ι' l σ' H' → RS g LW ι' l σ' H' := fun {ι' l σ' H' w} e r =>
      r.rewish (rs.ext.trans e) fun n' a' c' d' x' q => by
        obtain ⟨p1, p2⟩ := rs.kp n' a' c' d' x' q
        exact ⟨e.get p1, p2.mono e⟩
    unfold sTry0 at h
    revert h
    cases mb lσ lh with
    | nx l2 h2 => intro h; exact fun ι' σ' H' e r rr => h ι' _ H' e (fwd e r) rr
    | bk l2 h2 => intro h; exact fun ι' σ' H' e r rr => h ι' _ H' e (fwd e r) rr
    | ct l2 h2 => intro h; exact fun ι' σ' H' e r rr => h ι' _ H' e (fwd e r) rr
    | rt v h2 => intro h; exact fun ι' x' H' e r rv => h ι' _ H' e r rv
    | exc x2 l2 h2 => intro h; exact h
    | bad => intro h; exact h
theorem q_isE {ι0 : List Addr} {H0 : Hp} {m : Nat} {y : LX} {a : Addr} {oe : Obj} {pn : List (Addr × Obj)} {e0 : Expr} {ma : ME} {p p2 pos : Pos} {z : Str} {c : Nat} {b : Bool} (T : ExcC X.K (g.ca y.cls)) (hz : Zc (.ref (g.ca y.cls)) none oe) (hf : ∃ vs, oe.data = .fields vs)
    (hk : PySem.W.kitOne X.K (.ref (g.ca y.cls)) (.ref (g.ca c)) = some b) (hg : Gl X "isinstance") (hm : X.mg "isinstance" = none) (hg2 : Gl X z) (hm2 : X.mg z = some (.ref (g.ca c))) (ha : PE (X.suite a ((a, oe) :: pn)) e0 (tE g (wSu ι0 H0 m a (.ref (g.ca y.cls)) y) ma)) (hd : (z == ("__debug__" : Str)) = false := by decide)
    (hs : starEach [e0, .Name z p2] X.env = (false, eval e0 X.env) :: starEach [.Name z p2] X.env := by rfl) :
    PE (X.suite a ((a, oe) :: pn)) (.Call (.Name "isinstance" p) [e0, .Name z p2] [] pos) (tE g (wSu ι0 H0 m a (.ref (g.ca y.cls)) y) (mIsE m b ma)) :=
  (pe_callB (X := X.suite a ((a, oe) :: pn)) (call_isE T hz hf) hg hm (by decide +kernel) (pa_cons ha (pa_cons (pe_glob (v := .ref (g.ca c)) hg2 hm2 rfl hd) pa_nil) hs) (by decide) (by decide) hs).wk fun σ H Q ⟨ι, lσ, lh, rs, rh, h⟩ =>
    ⟨ι, lσ, lh, rs, rh, fin_bind h fun ι1 x H1 v lh1 e1 rh1 rv1 h1 => by
      cases v with
      | loc k =>
        simp only at h1
        split at h1
        · rename_i e
          subst e
          cases rv1 with
          | loc q =>
            obtain ⟨k1, _⟩ := (rs.mono e1).kp _ _ _ _ _ rfl
            rw [k1] at q; cases q
            exact ⟨.ref (g.ca c), .ref (g.ca c), b, rfl, fun u hu => hu, hk, h1.ok rh1 (.bl b)⟩
        · exact h1.elim
      | _ => exact h1.elim⟩
/-- a < b < c as a test -/
theorem chain_bl {f f' : LV → LV → LH → R LV} {ma mb mc : ME} (hB : ∀ v w lh, (∃ k, f' v w lh = .ok (.bl k) lh) ∨ f' v w lh = .bad) {lσ : LSt} {lh : LH} {v : LV} {l : LH} (e : mChain f f' ma mb mc lσ lh = .ok v l) : ∃ k, v = .bl k := by
  unfold mChain at e
  cases h1 : ma lσ lh with
  | bad => rw [h1] at e; cases e
  | exc x l => rw [h1] at e; cases e
  | ok x l1 =>
    rw [h1] at e
    simp only [R.bind] at e
    cases h2 : mb lσ l1 with
    | bad => rw [h2] at e; cases e
    | exc x l => rw [h2] at e; cases e
    | ok y l2 =>
      rw [h2] at e
      simp only at e
      cases h3 : f x y l2 with
      | bad => rw [h3] at e; cases e
      | exc x l => rw [h3] at e; cases e
      | ok z l3 =>
        rw [h3] at e
        simp only at e
        split at e
        · cases h4 : mc lσ l3 with
          | bad => rw [h4] at e; cases e
          | exc x l => rw [h4] at e; cases e
          | ok w l4 =>
            rw [h4] at e
            simp only at e
            rcases hB y w l4 with ⟨k, q⟩ | q
            · rw [q] at e; cases e; exact ⟨k, rfl⟩
            · rw [q] at e; cases e
        · cases e; exact ⟨false, rfl⟩
        · cases e
theorem q_tchain {a b c : Expr} {ma mb mc : ME} {pos : Pos} {op op' : CmpOp} {f f' : LV → LV → LH → R LV} {r r' : R2} (ho : OpR X (compareOp op) r) (hs : OpS g f r) (ho' : OpR X (compareOp op') r') (hs' : OpS g f' r') (ha : PE X a (tE g LW ma)) (hb : PE X b (tE g LW mb)) (hc : PE X c (tE g LW mc))
    (hB : ∀ v w lh, (∃ k, f' v w lh = .ok (.bl k) lh) ∨ f' v w lh = .bad) (hm : lastMarks [op, op'] [b, c] = false := by with_unfolding_all rfl) : PT X (.Compare a [op, op'] [b, c] pos) (tT g LW (bE (mChain f f' ma mb mc))) :=
  (pt_chain ho ho' ha hb hc hm).wk fun σ H Q ⟨ι, lσ, lh, rs, rh, h0⟩ => by
    have h : finR (relV g) g LW ι lσ H (mChain f f' ma mb mc lσ lh) (fun z H1 => ∃ k, z = .bl k ∧ Q k H1) := by
      simp only [bE] at h0
      cases e : mChain f f' ma mb mc lσ lh with
      | bad => rw [e] at h0; exact h0.elim
      | exc x l => rw [e] at h0; exact h0
      | ok v l =>
        rw [e] at h0
        obtain ⟨k, rfl⟩ := chain_bl hB e
        exact fun ι' x H' x1 rh1 rv1 => by cases rv1; exact ⟨k, rfl, h0 ι' k H' x1 rh1 rfl⟩
    exact ⟨ι, lσ, lh, rs, rh, fin_bind h fun ι1 x H1 v lh1 e1 rh1 rv1 h1 => ⟨ι1, lσ, lh1, rs.mono e1, rh1, fin_bind h1 fun ι2 y H2 w lh2 e2 rh2 rv2 h2 =>
      hs LW ι2 lσ lh2 H2 x y v w _ rh2 (rv1.mono e2) rv2 (fin_bind (rel1 := relV g) h2 fun ι3 z H3 k lh3 e3 rh3 rv3 h3 => by
        split at h3
        · cases rv3
          exact ⟨true, rfl, by rw [if_pos rfl]; exact ⟨ι3, lσ, lh3, (rs.mono e1).mono (e2.trans e3), rh3, fin_bind h3 fun ι4 w' H4 w2 lh4 e4 rh4 rv4 h4 => hs' LW ι4 lσ lh4 H4 y w' w w2 _ rh4 (rv2.mono (e3.trans e4)) rv4 h4⟩⟩
        · cases rv3
          exact ⟨false, rfl, by rw [if_neg Bool.false_ne_true]; exact finR.ok h3 rh3 (.bl _)⟩
        · exact h3.elim)⟩⟩
end
end Mi
namespace PySem
open Sem (wp)
/-! enumerate over a tuple -/
theorem mi_enum_new {val : Value} {ob : Obj} {Hx : Heap → Prop} (Bg : Begins val ob Hx) :
    Meets (Builtin.«enumerate.__new__» ⟨[.type "enumerate", val], []⟩) (fun _ R st => Hx st.heap ∧
      R (.ok (.ret (.ref (st.heap.push ob).objs.size))) { st with heap := (st.heap.push ob).push { cls := .type "enumerate", data := .fields #[.none, .bool false, .ref st.heap.objs.size, rawInt 0, .none, .none] } }) := .of_wp fun prg wo Ar R st hyp => by
    obtain ⟨hea, gg, dd, tok, oss⟩ := st; obtain ⟨hx1, hyp⟩ := hyp
    have hsub1 := sub_enumerate
    have step1 : ∀ {A2 : Around} {Ex : Value → Shared → Prop} {Qx : Value → Shared → Prop}, Qx (.ref hea.objs.size) ⟨hea.push ob, gg, dd, tok, oss⟩ → wpAny (model prg wo) A2 (pyIter val) Qx Ex ⟨hea, gg, dd, tok, oss⟩ := fun q => Bg.iter prg wo _ _ ⟨hea, gg, dd, tok, oss⟩ _ hx1 q
    wp_walk using step1
    refine wpAny_stack_any fun stk => wpAny_pure ?_
    split
    · rename_i cc _ _ _ _ _
      cases (cc == Value.type "enumerate")
      · wp_walk using step1
        exact ⟨_, rfl, hyp⟩
      · wp_walk using step1
        exact ⟨_, rfl, hyp⟩
    · wp_walk using step1
      exact ⟨_, rfl, hyp⟩
theorem mi_call_enum {prg : Program} {wo : World} {Ar : Around} {Ex : Value → Shared → Prop} {st : Shared} {val : Value} {ob : Obj} {Hx : Heap → Prop} {Qx : Value → Shared → Prop} (Bg : Begins val ob Hx) (hx1 : Hx st.heap)
    (hq : ∀ h2, IsEnum h2 (st.heap.objs.size + 1) st.heap.objs.size 0 .none → h2.get? st.heap.objs.size = some ob → h2.objs.size = st.heap.objs.size + 2 →
      (∀ b o, st.heap.get? b = some o → h2.get? b = some o) → Qx (.ref (st.heap.objs.size + 1)) { st with heap := h2 }) : wpAny (model prg wo) Ar (call (.type "enumerate") [val]) Qx Ex st := by
  refine callType_new F.called_enumerate (by decide) (F.typeCall_enumerate_1 _) (F.newCall_enumerate_1 _) (fun oo => F.args_object_init_2 oo _) F.entry_enumerate_new (mi_enum_new Bg) ⟨hx1, ?_⟩
  have hsz1 : (st.heap.push ob).objs.size = st.heap.objs.size + 1 := Heap.size_push ..
  show _ ∧ _
  rw [hsz1]
  have hen : IsEnum ((st.heap.push ob).push { cls := .type "enumerate", data := .fields #[.none, .bool false, .ref st.heap.objs.size, rawInt 0, .none, .none] }) (st.heap.objs.size + 1) st.heap.objs.size 0 .none := by
    have hen0 := Heap.get?_push_size (st.heap.push ob) (o := { cls := .type "enumerate", data := .fields #[.none, .bool false, .ref st.heap.objs.size, rawInt 0, .none, .none] }) rfl
    rw [hsz1] at hen0; exact hen0
  refine ⟨⟨_, hen, rfl⟩, hq _ hen (Heap.get?_push_of_some _ (Heap.get?_push_size _ Bg.free)) (by rw [Heap.size_push, hsz1]) fun b2 o2 x2 => Heap.get?_push_of_some _ (Heap.get?_push_of_some _ x2)⟩
end PySem
namespace L2
open PySem PySem.Spec PyProof.Rows
/-- the tuple at a, each item in a new pair -/
def IteT (K : PySem.W.Frag) (a : Addr) : It :=
  ⟨fun i H => ∃ (xs : List V) (x : V), SqT K H a xs ∧ xs[i]? = some x, fun i H v H' => ∃ T x, v = .ref T ∧ H T = none ∧ H' = upd H T (.tup [.int (i : Nat), x]) ∧ ∀ xs, SqT K H a xs → xs[i]? = some x, fun i H => ∃ xs : List V, SqT K H a xs ∧ xs.length ≤ i⟩
theorem isTuple_of {h : Heap} {a : Addr} {its : Array Value} (x : IsTup h a its) : h.IsTuple a its := by
  obtain ⟨o, h1, h2, n, h3⟩ := x
  exact ⟨o, h1, h2, n, h3⟩
theorem turn_enumT {P : Program} {w : World} {K : PySem.W.Frag} {elts : List Expr} {kk : Nat} {tpos : Pos} (a e it : Addr) (hai : a ≠ it) (hae : a ≠ e) :
    Turn P w K (.Tuple elts kk tpos) (IteT K a) [e, it] e (fun i h => (∃ old, IsEnum h e it ((i : Nat) : Int) old) ∧ h.IsTupleIter it a i ∧ e ≠ it) where
  mem := by simp
  obj := fun i h st b hb => by
    obtain ⟨⟨old, he⟩, ⟨o, ho, hc, hd⟩, _⟩ := st
    have eb : b = e ∨ b = it := by simpa using hb
    rcases eb with rfl | rfl
    · exact ⟨_, he, fun v q => nomatch q⟩
    · exact ⟨o, ho, fun v q => by rw [hd] at q; cases q⟩
  keep := fun i h h' st k => let ⟨⟨old, he⟩, hi, hne⟩ := st; ⟨⟨old, k e (by simp) _ he⟩, hi.at fun o q => k it (by simp) o q, hne⟩
  item := by
    intro X hP hw hK hc i pins s σ H E I hf st hg
    subst hP hw hK
    obtain ⟨⟨old, he⟩, hit, hne⟩ := st
    obtain ⟨xs, x, hq, hx⟩ := hg
    obtain ⟨its, rv, p, hz⟩ := I.tuple hq
    obtain ⟨u, hu, ru⟩ := rv.get hx
    have hel : e < s.heap.objs.size := Heap.lt_size he
    have hil : it < s.heap.objs.size := by obtain ⟨_, q, _⟩ := hit; exact Heap.lt_size q
    have hlt : i < its.toArray.size := by
      have := (List.getElem?_eq_some_iff.mp hu).1
      simpa using this
    have D := Draws.tuple (prog := X.prog) (w := X.w) (A := X.A.in1) (by rw [show X.A.in1.handled = X.A.handled from rfl]; exact I.ok.hd hc) it a hai its.toArray
    refine wpAny_pyNext_enum_itemD D he ⟨hit, isTuple_of p⟩ hlt hne (by simp [hne, Ne.symm hae]) fun x2 h2 tk hx2 ho hst2 hT hsz hk => ?_
    have hux : x2 = u := by
      have e1 : its.toArray[i]? = some x2 := hx2
      have e2 : its.toArray[i]? = some u := by simpa using hu
      rw [e1] at e2; exact Option.some.inj e2
    subst hux
    refine ⟨_, rfl, wpAny_letOwnedTupleGo_enum (s := { s with heap := h2, toks := tk + 1 }) ho fun h3 he3 sb => ?_⟩
    have hT3 : h3.get? s.heap.objs.size = some { cls := .type "tuple", data := .seq #[.int i tk, x2] } := (sb.2 _ (Nat.ne_of_gt hel)).trans hT
    have new : ObjOk X.prog X.w (upd H s.heap.objs.size (.tup [.int (i : Nat), x])) h3 s.heap.objs.size (.tup [.int (i : Nat), x]) :=
      ⟨by show 2 ≤ sizeLine; decide, [.int i tk, x2], .cons ⟨_, rfl⟩ (.cons ru .nil), ⟨_, hT3, rfl, _, rfl⟩⟩
    have I1 : Inv X pins σ (upd H s.heap.objs.size (.tup [.int (i : Nat), x])) { s with heap := h3, toks := tk + 1 } :=
      I.turnedNew (ch := [e, it]) (fun b ob hb q => (sb.2 b (fun z => hb (by simp [z]))).trans (hk b ob (fun z => hb (by simp [z])) (fun z => hb (by simp [z])) q)) hf (Nat.le_refl _) new
    refine ⟨.ref s.heap.objs.size, _, I1, rfl, ⟨_, x, rfl, I.hok.fresh (Nat.le_refl _), rfl, fun ys hy => by rw [I.tuple_inj hy hq]; exact hx⟩, ⟨⟨x2, ?_⟩, hst2.1.at fun o q => (sb.2 it (Ne.symm hne)).trans q, hne⟩, fun b hb => ?_⟩
    · have e1 : ((i + 1 : Nat) : Int) = (i : Int) + 1 := by omega
      rw [e1]; exact he3
    · have hb2 : b < s.heap.objs.size := by
        have eb : b = e ∨ b = it := by simpa using hb
        rcases eb with rfl | rfl
        · exact hel
        · exact hil
      rw [upd_ne (Nat.ne_of_lt hb2)]
      exact (hf b hb).1
  done := by
    intro X hP hw hK hc i pins s σ H E I hf st hg
    subst hP hw hK
    obtain ⟨⟨old, he⟩, hit, hne⟩ := st
    obtain ⟨xs, hq, hx⟩ := hg
    obtain ⟨its, rv, p, hz⟩ := I.tuple hq
    obtain ⟨f0, f1, f2, f3, f4, f5⟩ := hf it (by simp)
    have hl := rv.length
    have hno : its.toArray[i]? = none := by simp; omega
    have D : Draws X.prog X.w X.A.in1 it [it, a] i (fun _ _ => True) (fun j h => j = i ∧ h.IsTupleIter it a i ∧ h.IsTuple a its.toArray) := {
      live := fun _ _ st => let ⟨o, ho, _⟩ := st.2.1; ⟨o, ho⟩
      frame := fun _ _ _ st hk => ⟨st.1, st.2.1.at fun o e => hk it (by simp) o e, st.2.2.at fun o e => hk a (by simp) o e⟩
      item := fun j s Q E hj st hQ => absurd st.1 (Nat.ne_of_lt hj)
      done := fun s Q E st hE => wpAny_nextOf_tuple_end (by rw [show X.A.in1.handled = X.A.handled from rfl]; exact I.ok.hd hc) st.2.1 st.2.2 hno hE }
    exact wpAny_pyNext_enum_endD D he ⟨rfl, hit, isTuple_of p⟩ fun h2 eb => ⟨rfl, I.turned (t' := s.toks) (fun b o hb q => eb b o hb q) f0 f1 f3 f4 f5⟩
  self := fun A i s Q E st h => let ⟨⟨_, he⟩, _⟩ := st; wpAny_pyIter_enum he h
def iEnumT (K : PySem.W.Frag) (ta : TA) : TI := fun σ H R => ta σ H fun vs H1 => ∃ a xs, vs = [.ref a] ∧ SqT K H1 a xs ∧ R (IteT K a) H1
theorem pi_enumT {X : Cx} {e : Expr} {ta : TA} {p pos tpos : Pos} {elts : List Expr} {kk : Nat} (hg : Gl X "enumerate") (hm : X.mg "enumerate" = none) (ha : PA X [e] ta) (hst : starEach [e] X.env = [(false, eval e X.env)] := by rfl) :
    PI X (.Tuple elts kk tpos) (.Call (.Name "enumerate" p) [e] [] pos) (iEnumT X.K ta) := by
  refine ⟨fun pins s σ H R I h => Call_ (ld_blt I hg hm boot_enumerate (PyProof.Rows.callWith_type1 (thn (ha.run pos pins s σ H _ I h) fun us s2 ⟨vs, H2, I2, r2, q2⟩ => ?_) hst rfl))⟩
  obtain ⟨a, xs, ex, hq, q⟩ := q2
  subst ex
  cases r2 with
  | cons r rr =>
    cases rr
    cases r
    obtain ⟨its, rv, p2, hz⟩ := I2.tuple hq
    have hT := isTuple_of p2
    have hal : a < s2.heap.objs.size := by obtain ⟨_, q, _⟩ := p2; exact Heap.lt_size q
    refine mi_call_enum (begins_tuple a its.toArray) hT fun h2 he hit hsz hk => wpAny_pyIter_enum he ?_
    have I3 : Inv X pins σ H2 { s2 with heap := h2 } := I2.kept (t' := s2.toks) hk
    refine ⟨s2.heap.objs.size + 1, [s2.heap.objs.size + 1, s2.heap.objs.size], _, _, H2, rfl, I3, turn_enumT a (s2.heap.objs.size + 1) s2.heap.objs.size (Nat.ne_of_lt hal) (Nat.ne_of_lt (Nat.lt_succ_of_lt hal)), ⟨⟨.none, he⟩, ⟨_, hit, rfl, rfl⟩, Nat.succ_ne_self _⟩, fun b hb => ?_, q⟩
    have eb : b = s2.heap.objs.size + 1 ∨ b = s2.heap.objs.size := by simpa using hb
    have hle : s2.heap.objs.size ≤ b := by
      rcases eb with rfl | rfl
      · exact Nat.le_add_right _ _
      · exact Nat.le_refl _
    exact I2.fpOk hle (I2.hok.fresh hle)
end L2
namespace Mi
open PySem PySem.Spec PyProof.Rows L2
/-! enumerate, tuple targets, in, constants -/
theorem enumL_get : ∀ (xs : List LV) (i j : Nat), (enumL i xs)[j]? = xs[j]?.map fun x => .tup [.int ((i + j : Nat) : Int), x]
  | [], i, j => by simp [enumL]
  | x :: r, i, 0 => by simp [enumL]
  | x :: r, i, j + 1 => by
    have := enumL_get r (i + 1) j
    simp only [enumL, List.getElem?_cons_succ, this]
    rw [show i + 1 + j = i + (j + 1) by omega]
theorem enumL_len : ∀ (xs : List LV) (i : Nat), (enumL i xs).length = xs.length
  | [], i => rfl
  | x :: r, i => by simp [enumL, enumL_len r (i + 1)]
section
variable {X : Cx} {g : GG} {LW : LWish} {ι ι1 : List Addr} {lσ : LSt} {H H1 : Hp} {lh : LH} {σ : L2.St} {a b c tg : Expr} {ma mb mc : ME} {pos : Pos}
theorem itok_enum {p : Addr} {vs : List V} {xs : List LV} (h : SqT g.K H p vs) (r : RVs g ι H vs xs) : ItOk g ι H (IteT g.K p) (enumL 0 xs) always := by
  refine ⟨fun ι' lh H' i e rh _ hi => ?_, fun ι' lh H' i x lx H'' e rh _ hx y => ?_, fun ι' lh H' e rh _ => ?_⟩
  · have hi' : i < vs.length := by rw [r.length]; rw [enumL_len] at hi; exact hi
    exact ⟨vs, vs[i], e.sqT h, List.getElem?_eq_getElem hi'⟩
  · obtain ⟨T, x0, rfl, hT, rfl, y⟩ := y
    rw [enumL_get] at hx
    cases hxi : xs[i]? with
    | none => rw [hxi] at hx; cases hx
    | some z =>
      rw [hxi] at hx
      cases hx
      obtain ⟨v, q1, q2⟩ := r.get hxi
      have q3 := y vs (e.sqT h)
      rw [q1] at q3; cases q3
      have e2 : Ext ι' H' ι' (upd H' T (.tup [.int (i : Nat), x0])) := Ext.fresh hT
      refine ⟨e2, rh.fresh hT, .tup (.inl (.inl upd_same)) (.cons ?_ (.cons (q2.mono (e.trans e2)) .nil))⟩
      rw [Nat.zero_add]
      exact .int _
  · exact ⟨vs, e.sqT h, by rw [r.length, enumL_len]; exact Nat.le_refl _⟩
theorem q_iEnum {p tpos : Pos} {elts : List Expr} {kk : Nat} (hg : Gl X "enumerate") (hm : X.mg "enumerate" = none) (ha : PE X a (tE g LW ma)) (hs : starEach [a] X.env = [(false, eval a X.env)] := by rfl) (hK : X.K = g.K := by rfl) :
    PI X (.Tuple elts kk tpos) (.Call (.Name "enumerate" p) [a] [] pos) (tI g LW (iEnumL ma)) :=
  (pi_enumT hg hm (pa_cons ha pa_nil hs) hs).wk fun σ H Q ⟨ι, lσ, lh, rs, rh, h⟩ =>
    ⟨ι, lσ, lh, rs, rh, fin_bind h fun ι1 x H1 v lh1 e1 rh1 rv1 h1 => by
      cases v with
      | tup xs =>
        cases rv1 with
        | @tup p vs _ k1 k2 => exact ⟨p, vs, rfl, by rw [hK]; exact k1, by rw [hK]; exact h1 ι1 _ H1 .refl rh1 (itok_enum k1 k2)⟩
      | _ => exact h1.elim⟩
/-- targets in a row -/
structure GsOk (g : GG) (t : TGs) (js : List Nat) : Prop where
  ok : ∀ (LW : LWish) ι lσ lh σ H vs xs (Q : L2.St → Hp → Prop), RS g LW ι lσ σ H → RH g ι lh H → RVs g ι H vs xs → xs.length = js.length → (∀ σ', RS g LW ι (setS js xs lσ) σ' H → Touch js σ σ' → Q σ' H) → t vs σ H Q
theorem gs_nil : GsOk g gNil [] := ⟨fun LW ι lσ lh σ H vs xs Q rs rh rv hl k => by
  cases xs with
  | nil => cases rv; exact ⟨rfl, k σ rs fun _ _ => rfl⟩
  | cons x r => cases hl⟩
theorem gs_cons {i : Nat} {u : TGs} {js : List Nat} (h : GsOk g u js) : GsOk g (gCons (gName i) u) (i :: js) := ⟨fun LW ι lσ lh σ H vs xs Q rs rh rv hl k => by
  cases xs with
  | nil => cases hl
  | cons x r =>
    cases rv with
    | @cons v _ vr _ rv1 rv2 =>
      refine ⟨v, vr, rfl, ?_⟩
      refine h.ok LW ι (lσ.set i (some x)) lh (σ.set i (some v)) H vr r Q (rs.set rv1 i) rh rv2 (by simpa using hl) fun σ' r1 t1 => k σ' r1 fun us hu => ?_
      rw [t1 us fun j hj => hu j (List.mem_cons_of_mem _ hj)]
      exact wipe_set (hu i List.mem_cons_self)⟩
theorem g_tp {t : TGs} {js : List Nat} {n : Nat} (h : GsOk g t js) (hn : n = js.length) : GOk g (gTup g.K n t) (gTp js) js := ⟨fun LW ι lσ lσ' lh σ H v x Q rs rh rv e k => by
  unfold gTp at e
  split at e
  · rename_i xs
    split at e
    · rename_i hl
      cases e
      cases rv with
      | @tup p vs _ k1 k2 => exact ⟨p, vs, rfl, k1, by rw [k2.length, hl, hn], h.ok LW ι lσ lh σ H vs xs Q rs rh k2 hl k⟩
    · cases e
  · cases e⟩
end
end Mi
namespace Mi
open PySem PySem.Spec PyProof.Rows L2
section
variable {X : Cx} {g : GG} {LW : LWish} {ι ι1 : List Addr} {lσ : LSt} {H H1 : Hp} {lh : LH} {σ : L2.St} {a b c tg : Expr} {ma mb mc : ME} {pos : Pos}
theorem strs_of {xs : List LV} {ws : List (List Nat)} {vs : List V} (e : strsL xs = some ws) (r : RVs g ι H vs xs) : vs = ws.map fun w => V.str ⟨w.toArray⟩ := by
  induction xs generalizing ws vs with
  | nil => simp [strsL] at e; subst e; cases r; rfl
  | cons x xs ih =>
    cases x with
    | str s =>
      simp only [strsL, Option.map_eq_some_iff] at e
      obtain ⟨w, e1, rfl⟩ := e
      cases r with
      | cons r1 r2 => cases r1; rw [ih e1 r2]; rfl
    | _ => simp [strsL] at e
theorem ints_of {xs : List LV} {ws : List Int} {vs : List V} (e : intsL xs = some ws) (r : RVs g ι H vs xs) : vs = ws.map V.int := by
  induction xs generalizing ws vs with
  | nil => simp [intsL] at e; subst e; cases r; rfl
  | cons x xs ih =>
    cases x with
    | int s =>
      simp only [intsL, Option.map_eq_some_iff] at e
      obtain ⟨w, e1, rfl⟩ := e
      cases r with
      | cons r1 r2 => cases r1; rw [ih e1 r2]; rfl
    | _ => simp [intsL] at e
/-! ### in -/
theorem inV_strs (s : List Nat) (ws : List (List Nat)) : inV (.str ⟨s.toArray⟩) (ws.map fun w => V.str ⟨w.toArray⟩) = decide (s ∈ ws) := by
  induction ws with
  | nil => rfl
  | cons w r ih =>
    simp only [List.map_cons, inV, List.any_cons] at ih ⊢
    rw [ih]
    simp only [eqV]
    by_cases e : w = s
    · subst e; simp
    · have h1 : ((⟨w.toArray⟩ : Str) == (⟨s.toArray⟩ : Str)) = false := by
        rw [beq_eq_false_iff_ne]
        intro q
        apply e
        have := congrArg (fun z : Str => z.cps.toList) q
        simpa using this
      rw [h1, Bool.false_or]
      have : (s ∈ w :: r) ↔ s ∈ r := ⟨fun h => by
        rcases List.mem_cons.mp h with h | h
        · exact absurd h.symm e
        · exact h, fun h => List.mem_cons_of_mem _ h⟩
      exact (decide_eq_decide.mpr this).symm
theorem flat_strs (ws : List (List Nat)) : (ws.map fun w => V.str ⟨w.toArray⟩).all flatV = true := by simp [flatV]
abbrev rSign (neg : Bool) : R2 := fun x y H Q => ∃ (c : Nat) (z : Str), x = .str ⟨#[c]⟩ ∧ y = .str z ∧ Q (.bl (if neg then !decide (c ∈ z.cps.toList) else decide (c ∈ z.cps.toList))) H
theorem in_of {x y : V} {v w : LV} {k neg : Bool} {Q : VK} (rh : RH g ι lh H) (rx : RV g ι H x v) (ry : RV g ι H y w) (e : inB v w lh = some k) (q : Q (.bl (if neg then !k else k)) H) : rIn g.K neg x y H Q ∨ rSign neg x y H Q := by
  have mem : ∀ {xs : List LV} {p : Addr} {vs : List V}, (SqL g.K H p vs ∨ SqT g.K H p vs) → RVs g ι H vs xs → memL v xs = some k → y = .ref p → rIn g.K neg x y H Q := by
    intro xs p vs hq hr hm hy
    unfold memL at hm
    split at hm
    · rename_i s ws hs
      cases hm
      cases rx
      have ev := strs_of hs hr
      subst ev
      exact ⟨p, _, hy, hq, rfl, flat_strs ws, by rw [inV_strs]; exact q⟩
    · cases hm
  unfold inB at e
  split at e
  · rename_i xs
    cases ry with
    | @tup p vs _ k1 k2 => exact .inl (mem (.inr k1) k2 e rfl)
  · rename_i n
    cases ry with
    | @loc n p k1 =>
      cases hr : rdL n lh with
      | none => rw [hr] at e; cases e
      | some xs =>
        rw [hr] at e
        obtain ⟨vs, q1, q2⟩ := rh.rdL hr k1
        exact .inl (mem (.inl q1) q2 e rfl)
  · split at e
    · cases e
      cases rx
      cases ry
      exact .inr ⟨_, _, rfl, rfl, q⟩
    · cases e
  · cases e
theorem os_in : OpS g opIn (fun x y H Q => rIn g.K false x y H Q ∨ rSign false x y H Q) := by
  intro LW ι lσ lh H x y v w Q rh rx ry h
  unfold opIn at h
  split at h
  · rename_i k e
    exact in_of (neg := false) rh rx ry e (h.ok rh (.bl k))
  · exact h.elim
theorem os_notIn : OpS g opNotIn (fun x y H Q => rIn g.K true x y H Q ∨ rSign true x y H Q) := by
  intro LW ι lσ lh H x y v w Q rh rx ry h
  unfold opNotIn at h
  split at h
  · rename_i k e
    exact in_of (neg := true) rh rx ry e (h.ok rh (.bl (!k)))
  · exact h.elim
theorem or_in (hK : X.K = g.K) : OpR X (compareOp .In) (fun x y H Q => rIn g.K false x y H Q ∨ rSign false x y H Q) := by
  rw [← hK]; exact op_in_seq.or op_in_sign
theorem or_notIn (hK : X.K = g.K) : OpR X (compareOp .NotIn) (fun x y H Q => rIn g.K true x y H Q ∨ rSign true x y H Q) := by
  rw [← hK]; exact op_notIn_seq.or op_notIn_sign
theorem b_in (v w : LV) (lh : LH) : (∃ k, opIn v w lh = .ok (.bl k) lh) ∨ opIn v w lh = .bad := by
  unfold opIn; split
  · exact .inl ⟨_, rfl⟩
  · exact .inr rfl
theorem b_notIn (v w : LV) (lh : LH) : (∃ k, opNotIn v w lh = .ok (.bl k) lh) ∨ opNotIn v w lh = .bad := by
  unfold opNotIn; split
  · exact .inl ⟨_, rfl⟩
  · exact .inr rfl
theorem q_tin (ha : PE X a (tE g LW ma)) (hb : PE X b (tE g LW mb)) (hK : X.K = g.K := by rfl) (hm : behindInMarks .In b = false := by rfl) : PT X (.Compare a [.In] [b] pos) (tT g LW (bE (mOp opIn ma mb))) := q_tcmp (or_in hK) os_in ha hb hm b_in
theorem q_tnotIn (ha : PE X a (tE g LW ma)) (hb : PE X b (tE g LW mb)) (hK : X.K = g.K := by rfl) (hm : behindInMarks .NotIn b = false := by rfl) : PT X (.Compare a [.NotIn] [b] pos) (tT g LW (bE (mOp opNotIn ma mb))) := q_tcmp (or_notIn hK) os_notIn ha hb hm b_notIn
theorem q_in (ha : PE X a (tE g LW ma)) (hb : PE X b (tE g LW mb)) (hK : X.K = g.K := by rfl) (hm : behindInMarks .In b = false := by rfl) : PE X (.Compare a [.In] [b] pos) (tE g LW (mOp opIn ma mb)) := q_cmpR (or_in hK) os_in ha hb hm
theorem q_notIn (ha : PE X a (tE g LW ma)) (hb : PE X b (tE g LW mb)) (hK : X.K = g.K := by rfl) (hm : behindInMarks .NotIn b = false := by rfl) : PE X (.Compare a [.NotIn] [b] pos) (tE g LW (mOp opNotIn ma mb)) := q_cmpR (or_notIn hK) os_notIn ha hb hm
/-! ### max -/
theorem reads_ints {h : Heap} : ∀ {ns : List Int} {us : List Value}, Vals (ns.map V.int) us → ReadsAll h us (ns.map PyData.int) []
  | [], us, r => by cases r; exact .nil
  | n :: ns, us, r => by
    cases r with
    | cons r1 r2 =>
      obtain ⟨t, rfl⟩ := r1
      exact .cons (as := []) (.int n t) (reads_ints r2)
theorem depth_ints : ∀ ns : List Int, PyData.depthAll (ns.map PyData.int) ≤ 1
  | [] => by simp [PyData.depthAll]
  | n :: ns => by
    have := depth_ints ns
    simp only [List.map_cons, PyData.depthAll, PyData.depth]
    omega
def rMaxT (K : PySem.W.Frag) : List V → Hp → VK → Prop := fun vs H Q => ∃ (p : Addr) (n : Int) (ns : List Int), vs = [.ref p] ∧ SqT K H p ((n :: ns).map V.int) ∧ Q (.int (ns.foldl max n)) H
theorem cr_maxT {k : Nat} (hr : Room k X.A) : CallR X (.builtin "max") (rMaxT X.K) := by
  intro pins s σ H xs us Q I r h
  obtain ⟨p, n, ns, rfl, hq, q⟩ := h
  obtain ⟨its, rv, ht, hz⟩ := I.tuple hq
  rw [Vals.ref1 r]
  have hT := isTuple_of ht
  have hre : ReadsAll s.heap its.toArray.toList ((n :: ns).map PyData.int) [] := reads_ints rv
  have hu := hr.un
  have hd := depth_ints (n :: ns)
  refine PySem.W.max_tuple_data hr.hd hT (x := .int n) (xs := ns.map PyData.int) hre ⟨?_, ?_⟩ ?_ ?_
  · intro x hx y hy
    have e1 : ∃ i, x = .int i := by simpa [eq_comm] using (show x ∈ (n :: ns).map PyData.int from hx) |> List.mem_map.mp |>.imp fun a h => h.2
    have e2 : ∃ i, y = .int i := by simpa [eq_comm] using (show y ∈ (n :: ns).map PyData.int from hy) |> List.mem_map.mp |>.imp fun a h => h.2
    obtain ⟨i, rfl⟩ := e1
    obtain ⟨j, rfl⟩ := e2
    rfl
  · intro x hx
    obtain ⟨i, _, rfl⟩ := List.mem_map.mp (show x ∈ (n :: ns).map PyData.int from hx)
    simp
  · have : PyData.depthAll (.int n :: ns.map PyData.int) ≤ 1 := hd
    omega
  · intro i v h' tk bs hv hR hk
    rw [PySem.W.maxD_ints] at hR
    cases hR with
    | int _ t => exact ⟨.int _, H, I.kept hk, ⟨_, rfl⟩, q⟩
theorem foldl_max_ge : ∀ (ns : List Int) (n y : Int), y ≤ n ∨ y ∈ ns → y ≤ ns.foldl max n
  | [], n, y, h => by
    rcases h with h | h
    · exact h
    · cases h
  | a :: r, n, y, h => by
    rw [List.foldl_cons]
    apply foldl_max_ge
    rcases h with h | h
    · left; omega
    · rcases List.mem_cons.mp h with h | h
      · left; subst h; omega
      · right; exact h
theorem foldl_max_mem : ∀ (ns : List Int) (n : Int), ns.foldl max n = n ∨ ns.foldl max n ∈ ns
  | [], n => .inl rfl
  | a :: r, n => by
    rw [List.foldl_cons]
    rcases foldl_max_mem r (max n a) with h | h
    · rw [h]
      by_cases e : n ≤ a
      · right; rw [Int.max_eq_right e]; exact List.mem_cons_self
      · left; exact Int.max_eq_left (by omega)
    · exact .inr (List.mem_cons_of_mem _ h)
theorem max_unique {n : Int} {ns : List Int} {m : Int} (h1 : m ∈ n :: ns) (h2 : ∀ y, y ∈ n :: ns → y ≤ m) : m = ns.foldl max n := by
  have a : ns.foldl max n ≤ m := by
    rcases foldl_max_mem ns n with h | h
    · rw [h]; exact h2 _ List.mem_cons_self
    · exact h2 _ (List.mem_cons_of_mem _ h)
  have b : m ≤ ns.foldl max n := by
    apply foldl_max_ge
    rcases List.mem_cons.mp h1 with h | h
    · left; omega
    · exact .inr h
  omega
theorem call_max1 {k : Nat} (hc : X.calm = true) (hr : Room k X.A) : CallR X (.builtin "max") (fun vs H Q => rMaxT X.K vs H Q ∨ rMax X.K vs H Q) := fun pins s σ H xs us Q I r h => by
  rcases h with h | h
  · exact cr_maxT hr pins s σ H xs us Q I r h
  · exact cr_max hc pins s σ H xs us Q I r h
theorem q_max1 {k : Nat} {p : Pos} (hc : X.calm = true) (hr : Room k X.A) (hg : Gl X "max") (hm : X.mg "max" = none) (ha : PE X a (tE g LW ma)) (hs : starEach [a] X.env = [(false, eval a X.env)] := by rfl) (hK : X.K = g.K := by rfl) :
    PE X (.Call (.Name "max" p) [a] [] pos) (tE g LW (mB fMax1 (aCons ma aNil))) :=
  (pe_callB (call_max1 hc hr) hg hm (by decide +kernel) (pa_cons ha pa_nil hs) (by decide) (by decide) hs).wk fun σ H Q ⟨ι, lσ, lh, rs, rh, h⟩ => by
    refine ⟨ι, lσ, lh, rs, rh, ?_⟩
    have h' : finR (relV g) g LW ι lσ H ((ma lσ lh).bind fun x h1 => fMax1 [x] h1) Q := by
      cases e : ma lσ lh with
      | ok v l => simpa [mB, aCons, aNil, e, R.bind] using h
      | exc x l => simpa [mB, aCons, aNil, e, R.bind] using h
      | bad => simpa [mB, aCons, aNil, e, R.bind] using h
    refine fin_bind h' fun ι1 x H1 v lh1 e1 rh1 rv1 h1 => ?_
    have key : ∀ {ns : List Int} {m : Int}, maxI ns = some m → ∃ n r, ns = n :: r ∧ m = r.foldl max n := by
      intro ns m e
      cases ns with
      | nil => cases e
      | cons n r => cases e; exact ⟨n, r, rfl, rfl⟩
    cases v with
    | tup xs =>
      simp only [fMax1] at h1
      split at h1
      · rename_i m e
        cases hi : intsL xs with
        | none => rw [hi] at e; cases e
        | some ns =>
          rw [hi] at e
          obtain ⟨n, r, rfl, rfl⟩ := key e
          cases rv1 with
          | @tup p vs _ k1 k2 =>
            have ev := ints_of hi k2
            subst ev
            exact .inl ⟨p, n, r, rfl, by rw [hK]; exact k1, h1.ok rh1 (.int _)⟩
      · exact h1.elim
    | loc q =>
      simp only [fMax1] at h1
      split at h1
      · rename_i m e
        cases hl : rdL q lh1 with
        | none => rw [hl] at e; cases e
        | some xs =>
          rw [hl] at e
          cases hi : intsL xs with
          | none => simp [hi] at e
          | some ns =>
            simp only [Option.bind_some, hi] at e
            obtain ⟨n, r, rfl, rfl⟩ := key e
            cases rv1 with
            | @loc _ p k1 =>
              obtain ⟨vs, q1, q2⟩ := rh1.rdL hl k1
              have ev := ints_of hi q2
              subst ev
              refine .inr ⟨p, n :: r, rfl, by rw [hK]; exact q1, by simp, fun m hm hle => ?_⟩
              rw [max_unique hm hle]
              exact h1.ok rh1 (.int _)
      · exact h1.elim
    | _ => exact h1.elim
theorem two_of {f : List LV → LH → R LV} {Q : VK} (h : finR (relV g) g LW ι lσ H (mB f (aCons ma (aCons mb aNil)) lσ lh) Q) : finR (relV g) g LW ι lσ H ((ma lσ lh).bind fun x h1 => (mb lσ h1).bind fun y h2 => f [x, y] h2) Q := by
  simp only [mB, aCons, aNil] at h
  cases e : ma lσ lh with
  | bad => rw [e] at h; exact h
  | exc x l => rw [e] at h; exact h
  | ok v l =>
    rw [e] at h
    simp only [R.bind] at h ⊢
    cases e2 : mb lσ l with
    | bad => rw [e2] at h; exact h
    | exc x l => rw [e2] at h; exact h
    | ok w l2 => rw [e2] at h; exact h
theorem q_max2 {p : Pos} (hc : X.calm = true) (hg : Gl X "max") (hm : X.mg "max" = none) (ha : PE X a (tE g LW ma)) (hb : PE X b (tE g LW mb)) (hs : starEach [a, b] X.env = (false, eval a X.env) :: starEach [b] X.env := by rfl) (hs2 : starEach [b] X.env = [(false, eval b X.env)] := by rfl) :
    PE X (.Call (.Name "max" p) [a, b] [] pos) (tE g LW (mB fMax2 (aCons ma (aCons mb aNil)))) :=
  (pe_callB (call_max2 hc) hg hm (by decide +kernel) (pa_cons ha (pa_cons hb pa_nil hs2) hs) (by decide) (by decide) hs (by rw [hs2]; rfl)).wk fun σ H Q ⟨ι, lσ, lh, rs, rh, h⟩ =>
    ⟨ι, lσ, lh, rs, rh, fin_bind (two_of h) fun ι1 x H1 v lh1 e1 rh1 rv1 h1 => ⟨ι1, lσ, lh1, rs.mono e1, rh1, fin_bind h1 fun ι2 y H2 w lh2 e2 rh2 rv2 h2 => by
      unfold fMax2 at h2
      split at h2
      · rename_i i j heq
        cases heq
        cases rv1; cases rv2
        exact ⟨_, _, rfl, h2.ok rh2 (.int _)⟩
      · exact h2.elim⟩⟩
theorem q_min2 {p : Pos} (hc : X.calm = true) (hg : Gl X "min") (hm : X.mg "min" = none) (ha : PE X a (tE g LW ma)) (hb : PE X b (tE g LW mb)) (hs : starEach [a, b] X.env = (false, eval a X.env) :: starEach [b] X.env := by rfl) (hs2 : starEach [b] X.env = [(false, eval b X.env)] := by rfl) :
    PE X (.Call (.Name "min" p) [a, b] [] pos) (tE g LW (mB fMin2 (aCons ma (aCons mb aNil)))) :=
  (pe_callB (call_min2 hc) hg hm (by decide +kernel) (pa_cons ha (pa_cons hb pa_nil hs2) hs) (by decide) (by decide) hs (by rw [hs2]; rfl)).wk fun σ H Q ⟨ι, lσ, lh, rs, rh, h⟩ =>
    ⟨ι, lσ, lh, rs, rh, fin_bind (two_of h) fun ι1 x H1 v lh1 e1 rh1 rv1 h1 => ⟨ι1, lσ, lh1, rs.mono e1, rh1, fin_bind h1 fun ι2 y H2 w lh2 e2 rh2 rv2 h2 => by
      unfold fMin2 at h2
      split at h2
      · rename_i i j heq
        cases heq
        cases rv1; cases rv2
        exact ⟨_, _, rfl, h2.ok rh2 (.int _)⟩
      · exact h2.elim⟩⟩
/-! ### join -/
theorem join_str (s : List Nat) : ∀ ws : List (List Nat), Str.join ⟨s.toArray⟩ (ws.map fun w => (⟨w.toArray⟩ : Str)) = ⟨(joinS s ws).toArray⟩
  | [] => rfl
  | [w] => rfl
  | w :: v :: r => by
    show (⟨w.toArray⟩ : Str) ++ (⟨s.toArray⟩ : Str) ++ Str.join ⟨s.toArray⟩ ((v :: r).map fun w => (⟨w.toArray⟩ : Str)) = _
    rw [join_str s (v :: r), str_app, str_app, List.append_assoc]
    rfl
theorem txt_join (s : Str) (ys : List Str) : Txt.join s ys = Str.join s ys := by
  unfold Txt.join; exact StrLaws.glued_eq_join s ys
theorem q_join {apos : Pos} (ha : PE X a (tE g LW ma)) (hb : PE X b (tE g LW mb)) (hst : ∀ lσ lh v l, ma lσ lh = .ok v l → ∃ s, v = .str s) (hs : starEach [b] X.env = [(false, eval b X.env)] := by rfl) (hbase : attributeBase a "join" X.env (eval a X.env) = eval a X.env := by rfl) (hline : (apos.endLine == pos.line) = true := by rfl) (hK : X.K = g.K := by rfl) :
    PE X (.Call (.Attribute a "join" apos) [b] [] pos) (tE g LW (mOp opJoin ma mb)) :=
  (pe_join ha hb hs hbase hline).wk fun σ H Q ⟨ι, lσ, lh, rs, rh, h⟩ => by
    refine ⟨ι, lσ, lh, rs, rh, ?_⟩
    simp only [mOp] at h
    cases e0 : ma lσ lh with
    | bad => rw [e0] at h; exact h.elim
    | exc y l => rw [e0] at h; exact h
    | ok v0 l0 =>
    obtain ⟨s0, rfl⟩ := hst _ _ _ _ e0
    rw [e0] at h
    intro ι1 x H1 e1 rh1 rv1
    have h1 : finR (relV g) g LW ι1 lσ H1 ((mb lσ l0).bind fun y h2 => opJoin (.str s0) y h2) Q := finR.mono e1 h
    cases rv1
    refine ⟨⟨_, rfl⟩, ι1, lσ, l0, rs.mono e1, rh1, fin_bind h1 fun ι2 y H2 w lh2 e2 rh2 rv2 h2 => ?_⟩
    · unfold opJoin at h2
      split at h2
      · rename_i s ws hs0 hw
        cases hs0
        split at h2
        · rename_i hz
          have hz2 : ((ws.map fun w => (⟨w.toArray⟩ : Str)).map (·.length)).sum + (ws.map fun w => (⟨w.toArray⟩ : Str)).length * (⟨s0.toArray⟩ : Str).length ≤ 16777216 := by
            simp only [List.map_map, List.length_map, str_len]
            have : (List.map ((fun x : Str => x.length) ∘ fun w : List Nat => (⟨w.toArray⟩ : Str)) ws) = ws.map (·.length) := by
              apply List.map_congr_left; intro a _; exact str_len a
            rw [this]; exact hz
          have fin : Q (.str (Txt.join ⟨s0.toArray⟩ (ws.map fun w => (⟨w.toArray⟩ : Str)))) H2 := by
            rw [txt_join, join_str]; exact h2.ok rh2 (.str _)
          split at hw
          · cases rv2 with
            | @tup p vs _ k1 k2 =>
              have ev := strs_of hw k2
              subst ev
              exact ⟨_, p, ws.map fun w => (⟨w.toArray⟩ : Str), rfl, rfl, .inr (by rw [hK, List.map_map]; exact k1), hz2, fin⟩
          · rename_i n
            cases hr : rdL n lh2 with
            | none => rw [hr] at hw; cases hw
            | some xs =>
              rw [hr] at hw
              cases rv2 with
              | @loc _ p k1 =>
                obtain ⟨vs, q1, q2⟩ := rh2.rdL hr k1
                have ev := strs_of hw q2
                subst ev
                exact ⟨_, p, ws.map fun w => (⟨w.toArray⟩ : Str), rfl, rfl, .inl (by rw [hK, List.map_map]; exact q1), hz2, fin⟩
          · cases hw
        · exact h2.elim
      · exact h2.elim
/-! ### a call of a def that a name holds -/
theorem pe_callLS {CX : CXT} {k i : Nat} {f : Addr} {fd : FuncData} {ps : List Str} {sp : Sp} {E : L2.St → XK} {x : Str} {p : Pos} {e : Expr} {es : List Expr} {t : TA} (F : FnOk X.prog X.w X.K X.mg X.base CX k f fd ps sp) (hr : Room k X.A) (hN : X.N[i]? = some x) (hv : Vis X.env.scope x) (hk : PySem.W.keepIn X.K (.ref f) = true) (hb : Binds X.K fd ps [])
    (hx : ∀ σ, PassesAt CX X σ (E σ)) (ha : PA X (e :: es) t) (hdb : (x == ("__debug__" : Str)) = false := by decide) (hcd : (x == ("__classdict__" : Str)) = false := by decide)
    (he : starEach (e :: es) X.env = (false, eval e X.env) :: starEach es X.env := by rfl) (hpl : (backTo pos (starEach es X.env)).any (·.1) = false := by rfl) :
    PE X (.Call (.Name x p) (e :: es) [] pos) (fun σ H Q => σ[i]? = some (some (.ref f)) ∧ t σ H fun vs H1 => sp vs H1 Q (E σ)) := ⟨fun pins s σ H Q I ⟨hst, ht⟩ => by
  refine wpAny_Call_Name_kw (thn ((pe_var (pos := p) hN hv hdb hcd).run pins s σ H (fun v H1 => v = .ref f ∧ H1 = H) I ⟨.ref f, hst, rfl, rfl⟩) fun u s2 ⟨v, H2, I2, r2, q2⟩ => ?_)
  obtain ⟨rfl, rfl⟩ := q2
  cases r2
  exact PySem.W.callWith_K (h₀ := X.base) I2.ok.mod.kin hk (thn (ha.run pos pins s2 σ _ _ I2 ht) fun us s3 ⟨vs, H3, I3, r, q⟩ => ⟨I3.kIn, run_fnS F hr hb (hx σ) I3 r q⟩) he hpl⟩
theorem q_callV {k np : Nat} {x : Str} {p : Pos} {C : Or} {is : List Nat} {es : List Expr} {ta : MA} (i : Nat) (tk : Takes X (wOf g LW)) (hall : ∀ j ∈ is, ∃ y, Df X.prog X.w X.K X.mg X.base g k j y np C) (hr : Room k X.A)
    (ha : PA X (a :: es) (tA g LW ta)) (hal : ∀ lσ lh vs lh1, ta lσ lh = .ok vs lh1 → vs.length = np) (hN : X.N[i]? = some x := by rfl) (hv : Vis X.env.scope x := by first | exact Or.inl rfl | exact Or.inr (Or.inl rfl) | exact Or.inr (Or.inr rfl)) (hdb : (x == ("__debug__" : Str)) = false := by decide) (hcd : (x == ("__classdict__" : Str)) = false := by decide)
    (he : starEach (a :: es) X.env = (false, eval a X.env) :: starEach es X.env := by rfl) (hpl : (backTo pos (starEach es X.env)).any (·.1) = false := by rfl) :
    PE X (.Call (.Name x p) (a :: es) [] pos) (tE g LW (mCallV C is (mVar i) ta)) := ⟨fun pins s σ H Q I ⟨ι, lσ, lh, rs, rh, h⟩ => by
  simp only [mCallV, mVar] at h
  cases e0 : lσ[i]? with
  | none => rw [e0] at h; exact h.elim
  | some o =>
    cases o with
    | none => rw [e0] at h; exact h.elim
    | some v =>
      rw [e0] at h
      simp only [R.bind] at h
      cases v with
      | fn j =>
        simp only at h
        split at h
        · rename_i hj
          obtain ⟨v, s1, s2⟩ := rs.at' i _ e0
          cases s2
          obtain ⟨y, f, fd, ps, m1, rfl, F, hn, hk, hb⟩ := hall j hj
          refine (pe_callLS F hr hN hv hk hb (fun σ => passAt tk σ) ha hdb hcd he hpl).run pins s σ H Q I ⟨s1, ι, lσ, lh, rs, rh, ?_⟩
          cases e : ta lσ lh with
          | bad => rw [e] at h; exact h.elim
          | exc y l => rw [e] at h; exact h
          | ok vs l =>
            rw [e] at h
            simp only [R.bind] at h
            intro ι1 xs H1 x1 rh1 rv1
            have h1 := finR.mono x1 h
            refine ⟨by rw [rv1.length]; exact hal _ _ _ _ e, ι1, l, vs, rh1, rv1, ?_⟩
            cases e2 : C j vs l with
            | bad => rw [e2] at h1; exact h1.elim
            | ok v l2 => rw [e2] at h1; exact h1
            | exc y l2 =>
              rw [e2] at h1
              exact fun ι' H' cls d x2 rh2 rx => ⟨ι', lσ, l2, y, (rs.mono x1).mono x2, rh2, rx, h1⟩
        · exact h.elim
      | _ => exact h.elim⟩
theorem str_lit {x y : Str} {t : Tok} (h : x = y) : Value.str x t = Value.str y t := by rw [h]
end
end Mi
namespace Mi
open PySem PySem.Spec PyProof.Rows L2
section
variable {X : Cx} {g : GG} {LW : LWish} {a b c : Expr} {ma mb mc : ME} {pos : Pos}
theorem cs_sum : CaS g fSum (rSum g.K) := by
  intro LW ι lσ lh H xs vs Q rh r h
  unfold fSum at h
  split at h
  · cases r with
    | cons r1 r2 =>
    cases r2
    cases r1 with
    | @loc n a e =>
    split at h
    · rename_i ns e1
      obtain ⟨zs, q1, q2⟩ := Option.bind_eq_some_iff.mp e1
      obtain ⟨vs, k1, k2⟩ := rh.rdL q1 e
      rw [ints_of q2 k2] at k1
      exact ⟨a, ns, rfl, k1, h.ok rh (.int _)⟩
    · exact h.elim
  · exact h.elim
theorem q_sum {p : Pos} (hc : X.calm = true) (hg : Gl X "sum") (hm : X.mg "sum" = none) (ha : PE X a (tE g LW ma)) (hK : X.K = g.K := by rfl) (hs : starEach [a] X.env = (false, eval a X.env) :: starEach [] X.env := by rfl) : PE X (.Call (.Name "sum" p) [a] [] pos) (tE g LW (mB fSum (aCons ma aNil))) :=
  q_cB (cr_sum hc) (by rw [hK]; exact cs_sum) hg hm (by decide +kernel) (q_cons ha q_nil hs) (by decide) (by decide) hs
theorem kit_ve {K : PySem.W.Frag} {D : Addr} {b : Bool} (h : PySem.W.subIn K (.ref D) (.type "ValueError") = some b) : PySem.W.kitOne K (.ref D) (.type "ValueError") = some b := by
  unfold PySem.W.kitOne
  rw [if_neg (by intro q; cases beq_iff_eq.mp q)]
  show (if PySem.W.kitMeta "ValueError" = true then PySem.W.subIn K (.ref D) (.type "ValueError") else none) = some b
  rw [if_pos (by decide +kernel)]
  exact h
/-- isinstance(e, ValueError), e the error that is held -/
theorem q_isEV {ι0 : List Addr} {H0 : Hp} {m : Nat} {y : LX} {a : Addr} {oe : Obj} {pn : List (Addr × Obj)} {e0 : Expr} {ma : ME} {p p2 pos : Pos} (T : ExcC X.K (g.ca y.cls)) (hz : Zc (.ref (g.ca y.cls)) none oe) (hf : ∃ vs, oe.data = .fields vs)
    (hk : PySem.W.kitOne X.K (.ref (g.ca y.cls)) (.type "ValueError") = some true) (hg : Gl X "isinstance") (hm : X.mg "isinstance" = none) (hg2 : Gl X "ValueError") (hm2 : X.mg "ValueError" = none) (ha : PE (X.suite a ((a, oe) :: pn)) e0 (tE g (wSu ι0 H0 m a (.ref (g.ca y.cls)) y) ma))
    (hs : starEach [e0, .Name "ValueError" p2] X.env = (false, eval e0 X.env) :: starEach [.Name "ValueError" p2] X.env := by rfl) :
    PE (X.suite a ((a, oe) :: pn)) (.Call (.Name "isinstance" p) [e0, .Name "ValueError" p2] [] pos) (tE g (wSu ι0 H0 m a (.ref (g.ca y.cls)) y) (mIsE m true ma)) :=
  (pe_callB (X := X.suite a ((a, oe) :: pn)) (call_isE T hz hf) hg hm (by decide +kernel) (pa_cons ha (pa_cons (pe_bltn (v := .ty "ValueError") hg2 hm2 (by decide +kernel) rfl) pa_nil) hs) (by decide) (by decide) hs).wk fun σ H Q ⟨ι, lσ, lh, rs, rh, h⟩ =>
    ⟨ι, lσ, lh, rs, rh, fin_bind h fun ι1 x H1 v lh1 e1 rh1 rv1 h1 => by
      cases v with
      | loc k =>
        simp only at h1
        split at h1
        · rename_i e
          subst e
          cases rv1 with
          | loc q =>
            obtain ⟨k1, _⟩ := (rs.mono e1).kp _ _ _ _ _ rfl
            rw [k1] at q; cases q
            exact ⟨.ty "ValueError", .type "ValueError", true, rfl, fun u hu => hu, hk, h1.ok rh1 (.bl true)⟩
        · exact h1.elim
      | _ => exact h1.elim⟩
end
end Mi
namespace Mi
open PySem PySem.Spec PyProof.Rows L2
/-! ### instances of own classes -/
section
variable {g : GG} {ι : List Addr} {H : Hp}
theorem RF.look {vs : List (Str × V)} {fs : List (List Nat × LV)} (h : RF g ι H vs fs) {f : List Nat} : (∀ x, fs.lookup f = some x → ∃ v, vs.lookup (⟨f.toArray⟩ : Str) = some v ∧ RV g ι H v x) ∧ (fs.lookup f = none → vs.lookup (⟨f.toArray⟩ : Str) = none) := by
  induction h with
  | nil => exact ⟨fun x e => (by cases e), fun _ => rfl⟩
  | @cons k v x r s a _ ih =>
    simp only [List.lookup, strb_eq]
    cases e : (f == k) with
    | true => exact ⟨fun y q => (by cases q; exact ⟨v, rfl, a⟩), fun q => (by cases q)⟩
    | false => exact ih
theorem RF.put {vs : List (Str × V)} {fs : List (List Nat × LV)} (h : RF g ι H vs fs) {f : List Nat} {v : V} {x : LV} (r : RV g ι H v x) : RF g ι H (putF (⟨f.toArray⟩ : Str) v vs) (fput f x fs) := by
  induction h with
  | nil => exact .cons r .nil
  | @cons k w y q s a b ih =>
    unfold putF fput
    by_cases e : k = f
    · subst e
      rw [if_pos rfl, if_pos rfl]
      exact .cons r b
    · rw [if_neg (fun z => e (str_inj.mp z)), if_neg e]
      exact .cons a ih
theorem RF.length {vs : List (Str × V)} {fs : List (List Nat × LV)} (h : RF g ι H vs fs) : vs.length = fs.length := by
  induction h with
  | nil => rfl
  | cons _ _ ih => simp [ih]
theorem RH.ins {lh : LH} (h : RH g ι lh H) {n c : Nat} {fs : List (List Nat × LV)} {p : Addr} (e : lh[n]? = some (.ins c fs)) (ep : ι[n]? = some p) : ∃ dx vs, H p = some (.ins (g.ca c) dx vs) ∧ RF g ι H vs fs := h.ob n p _ ep e
end
/-- the classes cs, as far as the attribute f goes -/
def OwnA (K : PySem.W.Frag) (ca : Nat → Addr) (cs : List Nat) (f : Str) : Prop := ∀ c ∈ cs, Cls K (ca c) ∧ NoAttr K (ca c) f
section
variable {X : Cx} {g : GG} {LW : LWish} {a b c o : Expr} {ma mb mc mo : ME} {pos : Pos} {es : List Expr} {ta : MA}
theorem fld_of {LW : LWish} {ι : List Addr} {lσ : LSt} {H : Hp} {lh : LH} {x : V} {v : LV} {cs f : List Nat} {Q : VK} (own : OwnA g.K g.ca cs ⟨f.toArray⟩) (rh : RH g ι lh H) (r : RV g ι H x v) (h : finR (relV g) g LW ι lσ H (opFld cs f v lh) Q) :
    ∃ p C dx fs w, x = .ref p ∧ H p = some (.ins C dx fs) ∧ Cls g.K C ∧ NoAttr g.K C ⟨f.toArray⟩ ∧ fs.lookup (⟨f.toArray⟩ : Str) = some w ∧ Q w H := by
  unfold opFld at h
  split at h
  · split at h
    · rename_i n cc fs e1
      split at h
      · rename_i hc
        split at h
        · rename_i y e2
          cases r with
          | @loc _ p e3 =>
            obtain ⟨dx, vs, k1, k2⟩ := rh.ins e1 e3
            obtain ⟨w, q1, q2⟩ := k2.look.1 _ e2
            exact ⟨p, _, dx, vs, w, rfl, k1, (own _ hc).1, (own _ hc).2, q1, h.ok rh q2⟩
        · exact h.elim
      · exact h.elim
    · exact h.elim
  · exact h.elim
theorem q_fld {f : Str} {fl : List Nat} {cs : List Nat} (hf : f = ⟨fl.toArray⟩) (own : OwnA X.K g.ca cs f) (ha : PE X a (tE g LW ma)) (hK : X.K = g.K := by rfl) (hb : attributeBase a f X.env (eval a X.env) = eval a X.env := by rfl) : PE X (.Attribute a f pos) (tE g LW (mUn (opFld cs fl) ma)) :=
  (pe_fld ha hb).wk fun σ H Q ⟨ι, lσ, lh, rs, rh, h⟩ =>
    ⟨ι, lσ, lh, rs, rh, fin_bind h fun ι1 x H1 v lh1 e1 rh1 rv1 h1 => by
      subst hf
      rw [hK] at own
      obtain ⟨p, C, dx, fs, w, k1, k2, k3, k4, k5, k6⟩ := fld_of own rh1 rv1 h1
      exact ⟨p, C, dx, fs, w, k1, k2, by rw [hK]; exact k3, by rw [hK]; exact k4, k5, k6⟩⟩
theorem st_of {LW : LWish} {ι : List Addr} {lσ : LSt} {H : Hp} {lh : LH} {x y : V} {v w : LV} {cs f : List Nat} {σ : L2.St} {Q : L2.St → Hp → Prop} (own : OwnA g.K g.ca cs ⟨f.toArray⟩) (rh : RH g ι lh H) (rs : RS g LW ι lσ σ H) (r : RV g ι H x v) (ry : RV g ι H y w)
    (k : ∀ ι' σ' H' lh', Ext ι H ι' H' → RS g LW ι' lσ σ' H' → RH g ι' lh' H' → stFld cs f v w lh = .ok () lh' → Q σ' H') (hb : ∃ lh', stFld cs f v w lh = .ok () lh') :
    ∃ p C dx fs, x = .ref p ∧ H p = some (.ins C dx fs) ∧ Cls g.K C ∧ NoAttr g.K C ⟨f.toArray⟩ ∧ fs.length < 1000 ∧ Q σ (upd H p (.ins C dx (putF ⟨f.toArray⟩ y fs))) := by
  obtain ⟨lh', hb⟩ := hb
  have hb0 := hb
  unfold stFld at hb
  split at hb
  · split at hb
    · rename_i cc fs e1
      split at hb
      · rename_i hc
        cases r with
        | @loc n p e3 =>
          obtain ⟨dx, vs, k1, k2⟩ := rh.ins e1 e3
          obtain ⟨u, hu, mu⟩ := (rh.ob _ p _ e3 e1).tracked trivial
          have x1 : Ext ι H ι (upd H p (.ins (g.ca cc) dx (putF ⟨f.toArray⟩ y vs))) := Ext.write (by rw [hu]; exact mu)
          refine ⟨p, _, dx, vs, rfl, k1, (own _ hc.1).1, (own _ hc.1).2, by rw [k2.length]; exact hc.2, ?_⟩
          cases hb
          exact k ι _ _ _ x1 (rs.mono x1) (rh.write (y := .ins cc (fput f w fs)) e3 e1 trivial trivial ⟨dx, _, upd_same, (k2.put ry).mono x1⟩) hb0
      · cases hb
    · cases hb
  · cases hb
theorem q_sfld {f : Str} {fl : List Nat} {cs : List Nat} {p2 : Pos} (hf : f = ⟨fl.toArray⟩) (own : OwnA X.K g.ca cs f) (ho : PE X o (tE g LW mo)) (ha : PE X a (tE g LW ma)) (hK : X.K = g.K := by rfl) (hs : swapsWith a (some (.Attribute o f p2)) pos.line X.env = pure false := by rfl) :
    PS X (.Assign [.Attribute o f p2] a pos) (tS g LW (Mi.sFld cs fl mo ma)) :=
  (ps_fld ho ha hs).wk fun D σ H ⟨ι, lσ, lh, rs, rh, h⟩ => by
    refine ⟨ι, lσ, lh, rs, rh, fin_st h fun ι1 y H1 w lh1 e1 rh1 rv1 h1 => ⟨ι1, lσ, lh1, rs.mono e1, rh1, fin_st h1 fun ι2 x H2 v lh2 e2 rh2 rv2 h2 => ?_⟩⟩
    subst hf
    rw [hK] at own
    have key : ∃ lh', stFld cs fl v w lh2 = .ok () lh' := by
      cases e : stFld cs fl v w lh2 with
      | ok u l => exact ⟨l, rfl⟩
      | exc y l =>
        unfold stFld at e
        split at e
        · split at e
          · split at e <;> cases e
          · cases e
        · cases e
      | bad => rw [e] at h2; exact h2.elim
    obtain ⟨p, C, dx, fs, k1, k2, k3, k4, k5, k6⟩ := st_of (Q := D.nx) own rh2 ((rs.mono e1).mono e2) rv2 (rv1.mono e2) (fun ι' σ' H' lh' x3 r3 rr3 e3 => by
      rw [e3] at h2
      exact h2 ι' σ' H' x3 r3 rr3) key
    exact ⟨p, C, dx, fs, k1, k2, by rw [hK]; exact k3, by rw [hK]; exact k4, k5, k6⟩
theorem stf_bad {cs fl : List Nat} {v w : LV} {lh : LH} {P : Prop} (h : (stFld cs fl v w lh = .bad → P) ) (k : ∀ l, stFld cs fl v w lh = .ok () l → P) : P := by
  cases e : stFld cs fl v w lh with
  | ok u l => exact k l e
  | exc y l =>
    unfold stFld at e
    split at e
    · split at e
      · split at e <;> cases e
      · cases e
    · cases e
  | bad => exact h e
theorem cls_of {g : GG} {ι : List Addr} {H : Hp} {lh : LH} {n : Nat} {p C dx : Addr} {fs : List (Str × V)} (rh : RH g ι lh H) (hn : ι[n]? = some p) (e : H p = some (.ins C dx fs)) {k : Nat} (hc : clsAt (.loc n) lh = some k) : C = g.ca k := by
  unfold clsAt at hc
  simp only at hc
  split at hc
  · rename_i c fs' e1
    cases hc
    obtain ⟨dx', vs, k1, _⟩ := rh.ins e1 hn
    rw [e] at k1; cases k1; rfl
  · cases hc
theorem fld_cls {LW : LWish} {ι : List Addr} {lσ : LSt} {H : Hp} {lh : LH} {v : LV} {cs f : List Nat} {g : GG} {Q : VK} (h : finR (relV g) g LW ι lσ H (opFld cs f v lh) Q) : ∃ n k, v = .loc n ∧ clsAt v lh = some k := by
  unfold opFld at h
  split at h
  · split at h
    · rename_i e1
      exact ⟨_, _, rfl, by simp only [clsAt, e1]; rfl⟩
    · exact h.elim
  · exact h.elim
/-- o.f op= a -/
theorem q_fldaug {f : Str} {fl : List Nat} {cs : List Nat} {p2 : Pos} {op : Operator} {gf : LV → LV → LH → R LV} {rd : V → V → Hp → VK → Prop} (hop : InOp X op rd) (hsf : OpS g gf rd) (hf : f = ⟨fl.toArray⟩) (own : OwnA X.K g.ca cs f) (ho : PE X o (tE g LW mo)) (ha : PE X a (tE g LW ma)) (hK : X.K = g.K := by rfl) :
    PS X (.AugAssign (.Attribute o f p2) op a pos) (tS g LW (Mi.sFldAug cs fl gf mo ma)) :=
  (ps_fldaug ho ha hop).wk fun D σ H ⟨ι, lσ, lh, rs, rh, h⟩ => by
    refine ⟨ι, lσ, lh, rs, rh, fin_st h fun ι1 x H1 v lh1 e1 rh1 rv1 h1 => ?_⟩
    subst hf
    rw [hK] at own
    have h1' : finR (relV g) g LW ι1 lσ H1 (opFld cs fl v lh1) (fun y H' => ∃ ι' w' lh', Ext ι1 H1 ι' H' ∧ RH g ι' lh' H' ∧ RV g ι' H' y w' ∧ finS g LW ι' H' ((ma lσ lh').st lσ fun w h3 => (gf w' w h3).st lσ fun z h4 => if clsAt v lh1 = clsAt v h4 then (stFld cs fl v z h4).st lσ fun _ h5 => .nx lσ h5 else .bad) D) :=
      fin_st (rel1 := relV g) h1 fun ι2 y H2 w lh2 e2 rh2 rv2 h2 => ⟨ι2, w, lh2, e2, rh2, rv2, h2⟩
    obtain ⟨n, k, rfl, hk⟩ := fld_cls h1'
    obtain ⟨p, C, dx, fs, w, k1, k2, k3, k4, k5, ι2, w', lh2, e2, rh2, rv2, h2⟩ := fld_of own rh1 rv1 h1'
    have hn1 : ι1[n]? = some p := by
      subst k1
      cases rv1 with
      | loc q => exact q
    have hCk : C = g.ca k := cls_of rh1 hn1 k2 hk
    refine ⟨p, C, dx, fs, w, k1, k2, by rw [hK]; exact k3, by rw [hK]; exact k4, k5, ι2, lσ, lh2, (rs.mono e1).mono e2, rh2, fin_st h2 fun ι3 y H3 u lh3 e3 rh3 rv3 h3 => ?_⟩
    refine hsf LW ι3 lσ lh3 H3 w y w' u _ rh3 (rv2.mono e3) rv3 (fin_st (rel1 := relV g) h3 fun ι4 z H4 q lh4 e4 rh4 rv4 h4 => ?_)
    have rvo : RV g ι4 H4 x (.loc n) := rv1.mono (e2.trans (e3.trans e4))
    split at h4
    · rename_i hcl
      refine stf_bad (P := ∃ dx' fs', H4 p = some (.ins C dx' fs') ∧ fs'.length < 1000 ∧ D.nx σ (upd H4 p (.ins C dx' (putF ⟨fl.toArray⟩ z fs')))) (fun e => by rw [e] at h4; exact h4.elim) fun l el => ?_
      obtain ⟨p', C', dx', fs', q1, q2, q3, q4, q5, q6⟩ := st_of (Q := D.nx) (y := z) own rh4 (((rs.mono e1).mono e2).mono (e3.trans e4)) rvo rv4 (fun ι' σ' H' lh' x3 r3 rr3 e5 => by
        rw [e5] at h4
        exact h4 ι' σ' H' x3 r3 rr3) ⟨l, el⟩
      rw [k1] at q1; cases q1
      have hn4 : ι4[n]? = some p := (e2.trans (e3.trans e4)).get hn1
      have hC' : C' = g.ca k := cls_of rh4 hn4 q2 (hcl.symm.trans hk)
      rw [hC', ← hCk] at q2 q6
      exact ⟨dx', fs', q2, q5, q6⟩
    · exact h4.elim
/-! ### calls -/
/-- a method that stands, and what it promises k calls deep -/
def Dm (P : Program) (w : World) (K : PySem.W.Frag) (mg : Str → Option Value) (base : Heap) (g : GG) (k i np : Nat) (C : Or) : Prop :=
  ∃ (f : Addr) (fd : FuncData) (ps : List Str), f = g.fa i ∧ FnOk P w K mg base (L2.CX P w) k f fd ps (spOf g np (C i)) ∧ np = ps.length ∧ PySem.W.keepIn K (.ref f) = true ∧ Binds K fd ps []
/-- the classes of a method's table -/
def OwnM (K : PySem.W.Frag) (g : GG) (m : Str) (tbl : List (Nat × Nat)) : Prop := ∀ c i, tbl.lookup c = some i → Cls K (g.ca c) ∧ Meth K (g.ca c) m (g.fa i)
theorem mth_of {m : List Nat} {tbl : List (Nat × Nat)} {x : LV} {h : LH} {i : Nat} (e : mth m tbl x h = some i) : ∃ n c fs, x = .loc n ∧ h[n]? = some (.ins c fs) ∧ fs.lookup m = none ∧ tbl.lookup c = some i := by
  unfold mth at e
  split at e
  · split at e
    · rename_i e1
      split at e
      · rename_i e2
        exact ⟨_, _, _, rfl, e1, by simpa using e2, e⟩
      · cases e
    · cases e
  · cases e
theorem q_meth {k np : Nat} {f : Str} {fl : List Nat} {tbl : List (Nat × Nat)} {C : Or} {pl : Sem Bool} {apos : Pos} (hf : f = ⟨fl.toArray⟩) (tk : Takes X (wOf g LW)) (hd : ∀ c i, tbl.lookup c = some i → Dm X.prog X.w X.K X.mg X.base g k i np C) (own : OwnM X.K g f tbl) (hr : Room k X.A)
    (ho : PE X o (tE g LW mo)) (ha : PA X (a :: es) (tA g LW ta)) (hal : ∀ lσ lh vs lh1, ta lσ lh = .ok vs lh1 → vs.length + 1 = np) (hK : X.K = g.K := by rfl)
    (hst : starEach (a :: es) X.env = (false, eval a X.env) :: starEach es X.env := by rfl) (hpl : (backTo pos (starEach es X.env)).any (·.1) = false := by rfl)
    (ht : eval (.Call (.Attribute o f apos) (a :: es) [] pos) X.env = (do
      let ov ← eval o X.env
      standAt apos.atName
      let (f, first) ← holding [ov] (getMethod ov f pl)
      callWith pos f first (backTo pos (starEach (a :: es) X.env)) (backToKw pos (keywordEach [] X.env))) := by rfl) :
    PE X (.Call (.Attribute o f apos) (a :: es) [] pos) (tE g LW (mMeth C fl tbl mo ta)) := ⟨fun pins s σ H Q I ⟨ι, lσ, lh, rs, rh, h⟩ => by
  refine PySem.W.methodCall_KW (pl := pl) (thn (ho.run pins s σ H (fun x H1 => ∃ ι1 v lh1, Ext ι H ι1 H1 ∧ RH g ι1 lh1 H1 ∧ RV g ι1 H1 x v ∧ finR (relV g) g LW ι1 lσ H1 (match mth fl tbl v lh1 with
    | some i => (ta lσ lh1).bind fun xs h2 => C i (v :: xs) h2
    | none => .bad) Q) I ⟨ι, lσ, lh, rs, rh, fin_bind h fun ι1 x H1 v lh1 e1 rh1 rv1 h1 => ⟨ι1, v, lh1, e1, rh1, rv1, h1⟩⟩) fun u s1 ⟨x, H1, I1, rx, ι1, v, lh1, e1, rh1, rv1, h1⟩ => ?_) ht
  subst hf
  cases em : mth fl tbl v lh1 with
  | none => rw [em] at h1; exact h1.elim
  | some i =>
    rw [em] at h1
    obtain ⟨n, c, fs, rfl, q1, q2, q3⟩ := mth_of em
    cases rv1 with
    | @loc _ p hn =>
      obtain ⟨dx, vs, k1, k2⟩ := rh1.ins q1 hn
      obtain ⟨hc, hm⟩ := own c i q3
      obtain ⟨f, fd, ps, rfl, F, hnp, hk, hb⟩ := hd c i q3
      obtain rfl : u = Value.ref p := rx
      refine getmeth_ok I1 k1 hc hm (k2.look.2 q2) ?_
      refine PySem.W.callWith_K (first := [.ref p]) (h₀ := X.base) I.ok.mod.kin hm.kp (thn (ha.run pos pins s1 σ H1 (fun xs H2 => ∃ ι2 vs2 lh2, Ext ι1 H1 ι2 H2 ∧ RH g ι2 lh2 H2 ∧ RVs g ι2 H2 xs vs2 ∧ ta lσ lh1 = .ok vs2 lh2 ∧ finR (relV g) g LW ι2 lσ H2 (C i (.loc n :: vs2) lh2) Q) I1 ⟨ι1, lσ, lh1, rs.mono e1, rh1, ?_⟩)
        fun us s2 ⟨vs', H2, I2, r, ι2, vs2, lh2, e2, rh2, rv2, ea, h2⟩ => ⟨I2.kIn, ?_⟩) hst hpl
      · cases e : ta lσ lh1 with
        | bad => rw [e] at h1; exact h1.elim
        | exc y l => rw [e] at h1; exact h1
        | ok vs2 l => rw [e] at h1; exact fun ι2 xs H2 x2 rh2 rv2 => ⟨ι2, vs2, l, x2, rh2, rv2, rfl, finR.mono (r := C i (.loc n :: vs2) l) x2 h1⟩
      · refine run_fnS (us := .ref p :: us) (vs := .ref p :: vs') F hr hb (passAt tk σ) I2 (.cons rfl r) ⟨?_, ι2, lh2, .loc n :: vs2, rh2, .cons (.loc (e2.get hn)) rv2, ?_⟩
        · rw [List.length_cons, rv2.length]; exact hal _ _ _ _ ea
        · cases e3 : C i (.loc n :: vs2) lh2 with
          | bad => rw [e3] at h2; exact h2.elim
          | ok v l2 => rw [e3] at h2; exact h2
          | exc y l2 =>
            rw [e3] at h2
            exact fun ι' H' cls d x3 rh3 rx3 => ⟨ι', lσ, l2, y, ((rs.mono e1).mono e2).mono x3, rh3, rx3, h2⟩⟩
theorem q_meth0 {k : Nat} {f : Str} {fl : List Nat} {tbl : List (Nat × Nat)} {C : Or} {pl : Sem Bool} {apos : Pos} (hf : f = ⟨fl.toArray⟩) (tk : Takes X (wOf g LW)) (hd : ∀ c i, tbl.lookup c = some i → Dm X.prog X.w X.K X.mg X.base g k i 1 C) (own : OwnM X.K g f tbl) (hr : Room k X.A)
    (ho : PE X o (tE g LW mo)) (hK : X.K = g.K := by rfl)
    (ht : eval (.Call (.Attribute o f apos) [] [] pos) X.env = (do
      let ov ← eval o X.env
      standAt apos.atName
      let (f, first) ← holding [ov] (getMethod ov f pl)
      callWith pos f first (backTo pos (starEach [] X.env)) (backToKw pos (keywordEach [] X.env))) := by rfl) :
    PE X (.Call (.Attribute o f apos) [] [] pos) (tE g LW (mMeth C fl tbl mo aNil)) := ⟨fun pins s σ H Q I ⟨ι, lσ, lh, rs, rh, h⟩ => by
  refine PySem.W.methodCall_KW (pl := pl) (thn (ho.run pins s σ H (fun x H1 => ∃ ι1 v lh1, Ext ι H ι1 H1 ∧ RH g ι1 lh1 H1 ∧ RV g ι1 H1 x v ∧ finR (relV g) g LW ι1 lσ H1 (match mth fl tbl v lh1 with
    | some i => (aNil lσ lh1).bind fun xs h2 => C i (v :: xs) h2
    | none => .bad) Q) I ⟨ι, lσ, lh, rs, rh, fin_bind h fun ι1 x H1 v lh1 e1 rh1 rv1 h1 => ⟨ι1, v, lh1, e1, rh1, rv1, h1⟩⟩) fun u s1 ⟨x, H1, I1, rx, ι1, v, lh1, e1, rh1, rv1, h1⟩ => ?_) ht
  subst hf
  cases em : mth fl tbl v lh1 with
  | none => rw [em] at h1; exact h1.elim
  | some i =>
    rw [em] at h1
    obtain ⟨n, c, fs, rfl, q1, q2, q3⟩ := mth_of em
    cases rv1 with
    | @loc _ p hn =>
      obtain ⟨dx, vs, k1, k2⟩ := rh1.ins q1 hn
      obtain ⟨hc, hm⟩ := own c i q3
      obtain ⟨f, fd, ps, rfl, F, hnp, hk, hb⟩ := hd c i q3
      obtain rfl : u = Value.ref p := rx
      refine getmeth_ok I1 k1 hc hm (k2.look.2 q2) ?_
      have h1 : finR (relV g) g LW ι1 lσ H1 (C i [.loc n] lh1) Q := h1
      refine PySem.W.callWith_K0 (first := [.ref p]) I1.kIn hm.kp (run_fnS (us := [.ref p]) (vs := [.ref p]) F hr hb (passAt tk σ) I1 (.cons rfl .nil) ⟨rfl, ι1, lh1, [.loc n], rh1, .cons (.loc hn) .nil, ?_⟩)
      cases e3 : C i [.loc n] lh1 with
      | bad => rw [e3] at h1; exact h1.elim
      | ok v l2 => rw [e3] at h1; exact h1
      | exc y l2 =>
        rw [e3] at h1
        exact fun ι' H' cls d x3 rh3 rx3 => ⟨ι', lσ, l2, y, (rs.mono e1).mono x3, rh3, rx3, h1⟩⟩
/-! ### a new instance -/
theorem run_makeS {k : Nat} {Cc f : Addr} {fd : FuncData} {ps : List Str} {sp : Sp} {pins : List (Addr × Obj)} {σ : L2.St} {H : Hp} {s : Shared} {Q : VK} {us : List Value} {vs : List V} {E : L2.St → XK} (M : Mk X.K Cc f) (F : FnOk X.prog X.w X.K X.mg X.base (L2.CX X.prog X.w) k f fd ps sp) (hr : Room (k + 1) X.A) (hb : Binds X.K fd ps [])
    (hx : PassesAt (L2.CX X.prog X.w) X σ (E σ)) (I : Inv X pins σ H s) (r : Vals vs us)
    (h : ∀ x dx, H x = none → H dx = none → dx ≠ x → sp (.ref x :: vs) (L2.upd (L2.upd H dx (.own x)) x (.ins Cc dx [])) (fun v H2 => v = .non ∧ Q (.ref x) H2) (E σ)) :
    wpAny (model X.prog X.w) X.A (call (.ref Cc) us) (EP X pins σ Q) X.xe s := by
  have hq := h (s.heap.objs.size + 1) s.heap.objs.size (I.hok.fresh (Nat.le_succ _)) (I.hok.fresh (Nat.le_refl _)) (Nat.ne_of_lt (Nat.lt_succ_self _))
  have I2 := Inv.made (C := Cc) I
  have r2 : Vals (V.ref (s.heap.objs.size + 1) :: vs) (Value.ref (s.heap.objs.size + 1) :: us) := .cons rfl r
  have hl : (Value.ref (s.heap.objs.size + 1) :: us ++ ([] : List Value)).length = ps.length := by
    have e := r2.length
    rw [F.len _ _ _ _ hq] at e
    rw [List.append_nil]
    exact e.symm
  have hbb := hb _ (Value.ref (s.heap.objs.size + 1) :: us) I2.kIn hl
  rw [List.append_nil] at hbb
  refine wpAny_call (make_map (f := f) I.kIn M.makes M.init (beq_iff_eq.mp M.fn) (codeAny_mono (F.run _ X.stack _ _ ⟨Value.ref (s.heap.objs.size + 1) :: us, []⟩ (Value.ref (s.heap.objs.size + 1) :: us) _ _ (E σ) (hr.make Cc us [])
    (I2.env0.make Cc us []) hbb r2 hq) fun r s' hq' => ?_))
  cases r with
  | error e => exact hx pins _ _ e s' I2 hq'
  | ok fl =>
    cases fl with
    | ret u =>
      obtain ⟨v, H', I3, rv, ev, q3⟩ := I2.after hq'
      subst ev
      exact ⟨rv, ⟨V.ref (s.heap.objs.size + 1), H', I3, rfl, q3⟩⟩
    | next => exact False.elim hq'
    | brk => exact False.elim hq'
    | cont => exact False.elim hq'
theorem make_of {LW : LWish} {ι : List Addr} {lσ : LSt} {H : Hp} {lh : LH} {σ : L2.St} {C : Or} {c i np : Nat} {vs : List V} {xs : List LV} {Q : VK} (rs : RS g LW ι lσ σ H) (rh : RH g ι lh H) (rv : RVs g ι H vs xs) (hn : xs.length + 1 = np)
    (h : finR (relV g) g LW ι lσ H ((C i (.loc lh.length :: xs) (lh ++ [.ins c []])).bind fun v h2 => match v with
      | .non => .ok (.loc lh.length) h2
      | _ => .bad) Q) (x dx : Addr) (hx : H x = none) (hdx : H dx = none) (hne : dx ≠ x) :
    spOf g np (C i) (.ref x :: vs) (L2.upd (L2.upd H dx (.own x)) x (.ins (g.ca c) dx [])) (fun v H2 => v = .non ∧ Q (.ref x) H2) (WE (wOf g LW) σ) := by
  have hx2 : (L2.upd H dx (.own x)) x = none := by rw [upd_ne (Ne.symm hne)]; exact hx
  have rh1 : RH g ι lh (L2.upd H dx (.own x)) := rh.fresh hdx
  have x1 : Ext ι H ι (L2.upd H dx (.own x)) := Ext.fresh hdx
  have x2 : Ext ι (L2.upd H dx (.own x)) (ι ++ [x]) (L2.upd (L2.upd H dx (.own x)) x (.ins (g.ca c) dx [])) := Ext.freshI hx2
  have rh2 : RH g (ι ++ [x]) (lh ++ [.ins c []]) (L2.upd (L2.upd H dx (.own x)) x (.ins (g.ca c) dx [])) := rh1.alloc hx2 ⟨dx, [], upd_same, .nil⟩
  have xx := x1.trans x2
  have hxx : (ι ++ [x])[lh.length]? = some x := by rw [← rh.len]; simp
  refine ⟨by rw [List.length_cons, rv.length]; exact hn, ι ++ [x], lh ++ [.ins c []], .loc lh.length :: xs, rh2, .cons (.loc hxx) (rv.mono xx), ?_⟩
  have h := finR.mono xx h
  cases e : C i (.loc lh.length :: xs) (lh ++ [.ins c []]) with
  | bad => rw [e] at h; exact h.elim
  | exc y l =>
    rw [e] at h
    exact fun ι' H' cls d x3 rh3 rx3 => ⟨ι', lσ, l, y, (rs.mono xx).mono x3, rh3, rx3, h⟩
  | ok v l =>
    rw [e] at h
    intro ι' y H' x3 rh3 rv3
    cases v with
    | non =>
      cases rv3
      exact ⟨rfl, h ι' _ H' x3 rh3 (.loc (x3.get hxx))⟩
    | _ => exact h.elim
theorem q_make {k np c i : Nat} {x : Str} {p : Pos} {C : Or} (tk : Takes X (wOf g LW)) (d : Dm X.prog X.w X.K X.mg X.base g k i np C) (M : Mk X.K (g.ca c) (g.fa i)) (hr : Room (k + 1) X.A) (hg : Gl X x) (hm : X.mg x = some (.ref (g.ca c)))
    (ha : PA X (a :: es) (tA g LW ta)) (hal : ∀ lσ lh vs lh1, ta lσ lh = .ok vs lh1 → vs.length + 1 = np) (hdb : (x == ("__debug__" : Str)) = false := by decide) (he : starEach (a :: es) X.env = (false, eval a X.env) :: starEach es X.env := by rfl) (hpl : (backTo pos (starEach es X.env)).any (·.1) = false := by rfl) :
    PE X (.Call (.Name x p) (a :: es) [] pos) (tE g LW (mMake C c i ta)) := ⟨fun pins s σ H Q I ⟨ι, lσ, lh, rs, rh, h⟩ => by
  obtain ⟨f, fd, ps, rfl, F, hnp, hk, hb⟩ := d
  refine wpAny_Call_Name_kw (ld_glob I hg hm ?_ hdb)
  refine PySem.W.callWith_K (h₀ := X.base) I.ok.mod.kin M.kp (thn (ha.run pos pins s σ H (fun xs H1 => ∃ ι1 vs lh1, Ext ι H ι1 H1 ∧ RH g ι1 lh1 H1 ∧ RVs g ι1 H1 xs vs ∧ ta lσ lh = .ok vs lh1 ∧ finR (relV g) g LW ι1 lσ H1 ((C i (.loc lh1.length :: vs) (lh1 ++ [.ins c []])).bind fun v h2 => match v with
      | .non => .ok (.loc lh1.length) h2
      | _ => .bad) Q) I ⟨ι, lσ, lh, rs, rh, ?_⟩) fun us s1 ⟨vs, H1, I1, r, ι1, xs, lh1, e1, rh1, rv1, ea, h1⟩ => ⟨I1.kIn, ?_⟩) he hpl
  · simp only [mMake] at h
    cases e : ta lσ lh with
    | bad => rw [e] at h; exact h.elim
    | exc y l => rw [e] at h; exact h
    | ok vs l => rw [e] at h; exact fun ι1 xs H1 x1 rh1 rv1 => ⟨ι1, vs, l, x1, rh1, rv1, rfl, finR.mono x1 h⟩
  · exact run_makeS M F hr hb (passAt tk σ) I1 r fun x dx hx hdx hne => make_of (rs.mono e1) rh1 rv1 (hal _ _ _ _ ea) h1 x dx hx hdx hne⟩
theorem q_make0 {k c i : Nat} {x : Str} {p : Pos} {C : Or} (tk : Takes X (wOf g LW)) (d : Dm X.prog X.w X.K X.mg X.base g k i 1 C) (M : Mk X.K (g.ca c) (g.fa i)) (hr : Room (k + 1) X.A) (hg : Gl X x) (hm : X.mg x = some (.ref (g.ca c)))
    (hdb : (x == ("__debug__" : Str)) = false := by decide) :
    PE X (.Call (.Name x p) [] [] pos) (tE g LW (mMake C c i aNil)) := ⟨fun pins s σ H Q I ⟨ι, lσ, lh, rs, rh, h⟩ => by
  obtain ⟨f, fd, ps, rfl, F, hnp, hk, hb⟩ := d
  refine wpAny_Call_Name_kw (ld_glob I hg hm ?_ hdb)
  exact PySem.W.callWith_K0 I.kIn M.kp (run_makeS (us := []) M F hr hb (passAt tk σ) I .nil fun x dx hx hdx hne => make_of rs rh .nil rfl h x dx hx hdx hne)⟩
/-! ### a, b = e; what is never come to -/
theorem q_unp {tg : Expr} {gt : TG} {mg : MG} {js : List Nat} (ha : PE X a (tE g LW ma)) (hg : PG X tg gt) (go : GOk g gt mg js) (hs : swapsWithSole [tg] a pos.line X.env = pure false := by rfl) (hw : swappedStores [tg] a X.env = pure none := by rfl)
    (h1 : (assignEach [tg] X.env).map (·.2) = [assign tg X.env] := by rfl) : PS X (.Assign [tg] a pos) (tS g LW (sUnp mg ma)) :=
  (ps_asg ha hg hs hw h1).wk fun D σ H ⟨ι, lσ, lh, rs, rh, h⟩ => ⟨ι, lσ, lh, rs, rh, fin_st h fun ι1 x H1 v lh1 e1 rh1 rv1 h1 => by
    cases e : mg v lσ with
    | none => rw [e] at h1; exact h1.elim
    | some σ1 =>
      rw [e] at h1
      exact go.ok LW ι1 lσ σ1 lh1 σ H1 x v D.nx (rs.mono e1) rh1 rv1 e fun σ' r _ => h1 ι1 σ' H1 .refl r rh1⟩
theorem q_never {st : Stmt} : PS X st (tS g LW sNever) := ps_never.wk fun D σ H ⟨ι, lσ, lh, rs, rh, h⟩ => h.elim
end
end Mi
namespace Mi
open PySem PySem.Spec PyProof.Rows L2
/-! ### dicts whose keys are tuples -/
section
variable {g : GG} {ι : List Addr} {H : Hp}
theorem RH.dtt {lh : LH} (h : RH g ι lh H) {n : Nat} {xs : List (List LKey × LV)} {p : Addr} (e : lh[n]? = some (.dtt xs)) (ep : ι[n]? = some p) : ∃ vs, H p = some (.dT vs) ∧ RKT g ι H vs xs := h.ob n p _ ep e
theorem keyRs_inj {a b : List LKey} : a.map keyR = b.map keyR ↔ a = b := by
  constructor
  · intro h
    induction a generalizing b with
    | nil => cases b with
      | nil => rfl
      | cons _ _ => cases h
    | cons x r ih => cases b with
      | nil => cases h
      | cons y s =>
        simp only [List.map_cons, List.cons.injEq] at h
        rw [keyR_inj.mp h.1, ih h.2]
  · intro h; rw [h]
theorem RKT.find {vs : List (List L2.Key × V)} {xs : List (List LKey × LV)} (h : RKT g ι H vs xs) (k : List LKey) :
    (∃ v x, valV vs (k.map keyR) = some v ∧ tget xs k = some x ∧ RV g ι H v x) ∨ (valV vs (k.map keyR) = none ∧ tget xs k = none) := by
  induction h with
  | nil => exact .inr ⟨rfl, rfl⟩
  | @cons j v x r s a b ih =>
    by_cases e : j = k
    · subst e
      exact .inl ⟨v, x, by simp [valV], by simp [tget], a⟩
    · have e' : ¬ j.map keyR = k.map keyR := fun z => e (keyRs_inj.mp z)
      have q1 : valV ((j.map keyR, v) :: r) (k.map keyR) = valV r (k.map keyR) := by simp [valV, List.find?_cons, e']
      have q2 : tget ((j, x) :: s) k = tget s k := by simp [tget, List.find?_cons, e]
      rw [q1, q2]
      exact ih
theorem tkeys_of : ∀ {vs : List V} {xs : List LV} {ks : List LKey}, RVs g ι H vs xs → tkeys xs = some ks → vs = (ks.map keyR).map kV
  | _, [], _, r, e => by cases r; simp [tkeys] at e; subst e; rfl
  | _, x :: xs, _, r, e => by
    cases r with
    | cons r1 r2 =>
      unfold tkeys at e
      split at e
      · rename_i k ks e1 e2
        cases e
        rw [keyOf_of r1 e1, tkeys_of r2 e2]; rfl
      · cases e
end
section
variable {X : Cx} {g : GG} {LW : LWish} {a b c d : Expr} {ma mb mc md mv : ME} {pos : Pos} {es : List Expr} {ta : MA}
theorem tIn_of {σ : L2.St} {H : Hp} {Q : VK} (h : tE g LW (mInT ta md) σ H Q) : tDIn (tTup (tA g LW ta)) (tE g LW md) σ H Q := by
  obtain ⟨ι, lσ, lh, rs, rh, h⟩ := h
  refine ⟨ι, lσ, lh, rs, rh, fin_bind h fun ι1 xs H1 vs lh1 e1 rh1 rv1 h1 => ?_⟩
  split at h1
  · rename_i hz
    refine ⟨by rw [rv1.length]; exact sz hz, fun p hp => ?_⟩
    have x1 : Ext ι1 H1 ι1 (L2.upd H1 p (.tup xs)) := Ext.fresh hp
    refine ⟨ι1, lσ, lh1, (rs.mono e1).mono x1, rh1.fresh hp, fin_bind (finR.mono x1 h1) fun ι2 y H2 w lh2 e2 rh2 rv2 h2 => ?_⟩
    unfold inT at h2
    split at h2
    · rename_i ks n e3
      split at h2
      · rename_i kvs e4
        cases rv2 with
        | @loc _ q hq =>
          obtain ⟨ws, k1, k2⟩ := rh2.dtt e4 hq
          have ep : H2 p = some (.tup xs) := e2.stb _ _ trivial upd_same
          have ev := tkeys_of rv1 e3
          rw [ev] at ep
          refine ⟨q, _, rfl, DGet.t k1 ep, ?_⟩
          rcases k2.find ks with ⟨v, x, q1, q2, q3⟩ | ⟨q1, q2⟩
          · rw [q1]; rw [q2] at h2; exact h2.ok rh2 (.bl _)
          · rw [q1]; rw [q2] at h2; exact h2.ok rh2 (.bl _)
      · exact h2.elim
    · exact h2.elim
  · exact h1.elim
theorem q_inT {n : Nat} {p2 : Pos} (hu : X.A.units + 1 < cLine) (ha : PA X es (tA g LW ta)) (hd : PE X d (tE g LW md)) (h1 : behindInMarks .In d = false := by first | exact nobehind _ (by decide) (by decide) | rfl) : PE X (.Compare (.Tuple es n p2) [.In] [d] pos) (tE g LW (mInT ta md)) :=
  (pe_cmp (pc_din hu (pe_tup ha) hd) h1).wk fun σ H Q h => tIn_of h
theorem q_tinT {n : Nat} {p2 : Pos} (hu : X.A.units + 1 < cLine) (ha : PA X es (tA g LW ta)) (hd : PE X d (tE g LW md)) (h1 : behindInMarks .In d = false := by first | exact nobehind _ (by decide) (by decide) | rfl) : PT X (.Compare (.Tuple es n p2) [.In] [d] pos) (tT g LW (bE (mInT ta md))) :=
  (pt_cmp (pc_din hu (pe_tup ha) hd) h1).wk fun σ H Q ⟨ι, lσ, lh, rs, rh, h⟩ => by
    refine tIn_of (LW := LW) (ta := ta) (md := md) ⟨ι, lσ, lh, rs, rh, ?_⟩
    simp only [bE] at h
    cases e : mInT ta md lσ lh with
    | bad => rw [e] at h; exact h.elim
    | exc x l => rw [e] at h; exact h
    | ok v l =>
      rw [e] at h
      have hb : ∃ k, v = .bl k := by
        unfold mInT at e
        cases e1 : ta lσ lh with
        | bad => rw [e1] at e; cases e
        | exc x l => rw [e1] at e; cases e
        | ok xs l1 =>
          rw [e1] at e
          simp only [R.bind] at e
          split at e
          · cases e2 : md lσ l1 with
            | bad => rw [e2] at e; cases e
            | exc x l => rw [e2] at e; cases e
            | ok w l2 =>
              rw [e2] at e
              simp only [inT] at e
              split at e
              · split at e
                · cases e; exact ⟨_, rfl⟩
                · cases e
              · cases e
          · cases e
      obtain ⟨k, rfl⟩ := hb
      exact fun ι' x H' x1 rh1 rv1 => by cases rv1; exact ⟨k, rfl, h ι' k H' x1 rh1 rfl⟩
theorem q_ixT {n : Nat} {p2 : Pos} (hu : X.A.units + 1 < cLine) (hd : PE X d (tE g LW md)) (ha : PA X es (tA g LW ta)) (hs : NoSl (.Tuple es n p2) := by exact fun _ _ => rfl) : PE X (.Subscript d (.Tuple es n p2) pos) (tE g LW (mIxT md ta)) :=
  (pe_dget hu hd (pe_tup ha) hs).wk fun σ H Q ⟨ι, lσ, lh, rs, rh, h⟩ => by
    refine ⟨ι, lσ, lh, rs, rh, fin_bind h fun ι1 y H1 w lh1 e1 rh1 rv1 h1 => ⟨ι1, lσ, lh1, rs.mono e1, rh1, fin_bind h1 fun ι2 xs H2 vs lh2 e2 rh2 rv2 h2 => ?_⟩⟩
    split at h2
    · rename_i hz
      refine ⟨by rw [rv2.length]; exact sz hz, fun p hp => ?_⟩
      have x1 : Ext ι2 H2 ι2 (L2.upd H2 p (.tup xs)) := Ext.fresh hp
      have rh3 := rh2.fresh (o := .tup xs) hp
      have h3 := finR.mono x1 h2
      unfold ixT at h3
      split at h3
      · rename_i ks n e3
        split at h3
        · rename_i kvs e4
          split at h3
          · rename_i v e5
            cases rv1 with
            | @loc _ q hq =>
              obtain ⟨ws, k1, k2⟩ := rh3.dtt e4 (e2.get hq)
              have ev := tkeys_of rv2 e3
              rcases k2.find ks with ⟨v', x, q1, q2, q3⟩ | ⟨q1, q2⟩
              · rw [e5] at q2; cases q2
                refine ⟨q, v', rfl, ?_, h3.ok rh3 q3⟩
                rw [← q1]
                exact DGet.t k1 (by rw [upd_same, ev])
              · rw [e5] at q2; cases q2
          · exact h3.elim
        · exact h3.elim
      · exact h3.elim
    · exact h2.elim
/-- {k: v}, k a written tuple -/
def tDisp1T (tk tv : TE) : TE := fun σ H Q => ∀ p, H p = none → tk σ (L2.upd H p (.dT [])) fun x H1 => tv σ H1 fun y H2 => ∃ (ks : List L2.Key) (b : Addr), x = .ref b ∧ H2 b = some (.tup (ks.map kV)) ∧ H2 p = some (.dT []) ∧ Q (.ref p) (L2.upd H2 p (.dT [(ks, y)]))
theorem pe_disp1T {k v : Expr} {tk tv : TE} (hu : X.A.units + 1 < cLine) (hk : PE X k tk) (hv : PE X v tv) : PE X (.Dict [some k] [v] pos) (tDisp1T tk tv) := by
  refine ⟨fun pins s σ H Q I q => ?_⟩
  have hn := I.hok.fresh (Nat.le_refl s.heap.objs.size)
  have I1 := I.laid (a := s.heap.objs.size) (o := .dT []) (h' := s.heap.push { cls := .type "dict", data := .dict #[] }) (t' := s.toks) (fun _ _ q => Heap.get?_push_of_some _ q) (Nat.le_refl _) (dt_empty s.heap I.big)
  have hz := zip_pairTrees [some k] [v] X.env pos rfl rfl
  rw [arm_eval_Dict, hz, dictDisplay_pairs (pairTrees [some k] [v] X.env pos) (by simp [pairTrees]) (by simp [pairTrees])]
  refine wpAny_bind (wpAny_standAt (wpAny_bind ?_))
  unfold subDict
  refine wpAny_bind (wpAny_alloc ?_)
  refine wpAny_bind (wpAny_holding ?_)
  rw [if_pos (by simp [pairTrees])]
  refine wpAny_bind (thn (pairTrees_cons_walk (Q := fun ws s2 => ∃ u w x y H2, ws = [(u, w)] ∧ RelV x u ∧ RelV y w ∧ Inv X pins σ H2 s2 ∧ ∃ (ks : List L2.Key) (b : Addr), x = .ref b ∧ H2 b = some (.tup (ks.map kV)) ∧ H2 s.heap.objs.size = some (.dT []) ∧ Q (.ref s.heap.objs.size) (L2.upd H2 s.heap.objs.size (.dT [(ks, y)])))
    (thn (hk.run pins _ σ _ _ I1 (q _ hn)) fun u s1 ⟨x, H1, I2, rx, q1⟩ => thn (hv.run pins s1 σ H1 _ I2 q1) fun w2 s2 ⟨y, H2, I3, ry, q2⟩ => pairTrees_nil_walk ⟨u, w2, x, y, H2, rfl, rx, ry, I3, q2⟩)) fun ws s2 ⟨u, w2, x, y, H2, ew, rx, ry, I3, ks, b, ex, eb, ed, q3⟩ => ?_)
  subst ew ex
  obtain rfl : u = Value.ref b := rx
  refine wpAny_holding ?_
  obtain ⟨z, hd, xs, rel, dd⟩ := dt_of I3.hok ed
  cases rel
  refine wpAny_bind ?_
  rw [List.forIn_cons]
  refine wpAny_bind (wpAny_bind (wpAny_dictSet_heap (hsz := Nat.zero_le _) (knd := tupleKind (mixKind X.prog X.w)) (show X.A.units < cLine by omega) (key_of I3.hok eb) dd fun h' dd' hs => wpAny_pure ?_))
  show wpAny _ _ (forIn ([] : List (Value × Value)) PUnit.unit _) _ _ _
  rw [List.forIn_nil]
  refine wpAny_pure (wpAny_pure (wpAny_pure (wpAny_pure ⟨.ref s.heap.objs.size, _, ?_, rfl, q3⟩)))
  obtain ⟨q, es, ep, hq, h2, h3, h4, _, h5⟩ := dd'
  have kt : KT H2 (putK ([] : List (List L2.Key × V)) ks y) (storedH [] ks b w2) := KT.put .nil ks eb ry
  refine d_write I3 (by rw [ed]; exact True.intro) hs ⟨q, hq⟩ ⟨by show 1 ≤ sizeLine; rw [sizeLine_eq]; omega, hd, _, kt.keeps fun c ys ec => ?_, q, es, ep, hq, h2, h3, h4, h5⟩
  rw [upd_ne (ne_of ec ed (fun z => nomatch z))]
  exact ec
theorem q_dspT {v : Expr} {n : Nat} {p2 : Pos} (hu : X.A.units + 1 < cLine) (ha : PA X es (tA g LW ta)) (hv : PE X v (tE g LW mv)) : PE X (.Dict [some (.Tuple es n p2)] [v] pos) (tE g LW (mDspT ta mv)) :=
  (pe_disp1T hu (pe_tup ha) hv).wk fun σ H Q ⟨ι, lσ, lh, rs, rh, h⟩ => by
    intro p hp
    have x0 : Ext ι H (ι ++ [p]) (L2.upd H p (.dT [])) := Ext.freshI hp
    have rh0 : RH g (ι ++ [p]) (lh ++ [.dtt []]) (L2.upd H p (.dT [])) := rh.alloc hp ⟨[], upd_same, .nil⟩
    have hpp : (ι ++ [p])[lh.length]? = some p := by rw [← rh.len]; simp
    refine ⟨ι ++ [p], lσ, lh ++ [.dtt []], rs.mono x0, rh0, fin_bind (finR.mono (r := mDspT ta mv lσ lh) x0 h) fun ι1 xs H1 vs lh1 e1 rh1 rv1 h1 => ?_⟩
    split at h1
    · rename_i hz
      refine ⟨by rw [rv1.length]; exact sz hz, fun q hq => ?_⟩
      have x1 : Ext ι1 H1 ι1 (L2.upd H1 q (.tup xs)) := Ext.fresh hq
      refine ⟨ι1, lσ, lh1, ((rs.mono x0).mono e1).mono x1, rh1.fresh hq, fin_bind (finR.mono x1 h1) fun ι2 y H2 w lh2 e2 rh2 rv2 h2 => ?_⟩
      split at h2
      · rename_i ks e3 e4
        have hp2 : ι2[lh.length]? = some p := e2.get (e1.get hpp)
        obtain ⟨ws, k1, k2⟩ := rh2.dtt e4 hp2
        cases k2
        have eq : H2 q = some (.tup xs) := e2.stb _ _ trivial upd_same
        rw [tkeys_of rv1 e3] at eq
        refine ⟨ks.map keyR, q, rfl, eq, k1, ?_⟩
        have xw : Ext ι2 H2 ι2 (L2.upd H2 p (.dT [(ks.map keyR, y)])) := Ext.write (by rw [k1]; trivial)
        exact h2 ι2 _ _ xw (rh2.write hp2 e4 trivial trivial ⟨_, upd_same, .cons (rv2.mono xw) .nil⟩) (.loc hp2)
      · exact h2.elim
    · exact h1.elim
/-! ### t += u -/
theorem noI_tuple_add : typeLookup (.type "tuple") (dunderI "add") = pure none := by rw [typeLookup_type, builtinLookup_eq_fast]; kernel_rfl
theorem icat_tup0 {prog : Program} {w : World} {A : Around} {E : Value → Shared → Prop} {s : Shared} {t b : Addr} {ws : List Value} {Q : Value → Shared → Prop} (ht : IsTup s.heap t ([] : List Value).toArray) (hb : IsTup s.heap b ws.toArray) (h : Q (.ref b) s) : wpAny (model prog w) A (inplaceOp .Add (.ref t) (.ref b)) Q E s := by
  obtain ⟨⟨cls, dd, data, sl⟩, ho, hc, n, hd⟩ := id ht
  obtain ⟨⟨cls2, dd2, data2, sl2⟩, ho2, hc2, n2, hd2⟩ := id hb
  simp only at hc hd hc2 hd2
  subst hc hd hc2 hd2
  exact wpAny_inplaceOp_concat ⟨_, ho, rfl⟩ ⟨_, ho2, rfl⟩ noI_tuple_add noFill_tuple_add seq_tuple_add (call_meets PySem.F.slot_tuple_add ⟨_, ho, rfl⟩ PySem.F.entry_tuple_add (PySem.F.args_tuple_add_2 _ _)
    (tuple_addW0 t b ([] : List Value).toArray ws.toArray n n2 dd dd2 sl sl2 (by simp)) ⟨ho, ho2, h⟩)
theorem icat_tup {prog : Program} {w : World} {A : Around} {E : Value → Shared → Prop} {s : Shared} {t b : Addr} {vs ws : List Value} {Q : Value → Shared → Prop} (ht : IsTup s.heap t vs.toArray) (hb : IsTup s.heap b ws.toArray) (hv : vs ≠ [])
    (h1 : ws = [] → Q (.ref t) s) (h2 : ws ≠ [] → Q (.ref s.heap.objs.size) { s with heap := s.heap.push { cls := .type "tuple", data := .seq (vs ++ ws).toArray } })
    (hsz : vs.length + ws.length ≤ sizeLine) : wpAny (model prog w) A (inplaceOp .Add (.ref t) (.ref b)) Q E s := by
  obtain ⟨⟨cls, dd, data, sl⟩, ho, hc, n, hd⟩ := id ht
  obtain ⟨⟨cls2, dd2, data2, sl2⟩, ho2, hc2, n2, hd2⟩ := id hb
  simp only at hc hd hc2 hd2
  subst hc hd hc2 hd2
  have e : vs.toArray ++ ws.toArray = (vs ++ ws).toArray := by simp
  by_cases hw : ws = []
  · exact wpAny_inplaceOp_concat ⟨_, ho, rfl⟩ ⟨_, ho2, rfl⟩ noI_tuple_add noFill_tuple_add seq_tuple_add (call_meets PySem.F.slot_tuple_add ⟨_, ho, rfl⟩ PySem.F.entry_tuple_add (PySem.F.args_tuple_add_2 _ _)
      (tuple_addW1 t b vs.toArray ws.toArray n n2 dd dd2 sl sl2 (by simpa using hv) (by simp [hw])) ⟨ho, ho2, h1 hw⟩)
  · refine wpAny_inplaceOp_concat ⟨_, ho, rfl⟩ ⟨_, ho2, rfl⟩ noI_tuple_add noFill_tuple_add seq_tuple_add (call_meets PySem.F.slot_tuple_add ⟨_, ho, rfl⟩ PySem.F.entry_tuple_add (PySem.F.args_tuple_add_2 _ _)
      (tuple_addW2 t b vs.toArray ws.toArray n n2 dd dd2 sl sl2 (by simpa using hv) (by simpa using hw) (by rw [List.size_toArray, List.size_toArray]; exact hsz)) ⟨ho, ho2, ?_⟩)
    rw [e]
    exact h2 hw
theorem iop_catA : OpR X (inplaceOp .Add) (rCatA X.K) := by
  intro pins s σ H x y v u Q I rx ry h
  obtain ⟨a, b, xs, ys, rfl, rfl, ha, hb, hz, q0, q1, q2⟩ := h
  cases rx
  cases ry
  obtain ⟨its, r1, p1, _⟩ := I.tuple ha
  obtain ⟨its2, r2, p2, _⟩ := I.tuple hb
  by_cases hx : xs = []
  · subst hx
    cases r1
    exact icat_tup0 p1 p2 ⟨.ref b, H, I, rfl, q0 rfl⟩
  · refine icat_tup p1 p2 (fun z => hx (r1.nil_iff.mp z)) (fun z => ⟨.ref a, H, I, rfl, q1 hx (r2.nil_iff.mp z)⟩) (fun z => ?_) (by rw [← r1.length, ← r2.length]; exact hz)
    refine ⟨.ref s.heap.objs.size, _, I.laid (t' := s.toks) (o := .tup (xs ++ ys)) (fun b ob q => Heap.get?_push_of_some _ q) (Nat.le_refl _) ?_, rfl, q2 hx (fun w => z (r2.nil_iff.mpr w)) _ (I.hok.fresh (Nat.le_refl _))⟩
    exact ⟨by rw [List.length_append]; exact hz, _, r1.append r2, IsTup.new _ _⟩
abbrev rIAddX (K : PySem.W.Frag) : R2 := fun x y H Q => rI0 (fun i j => .int (i + j)) x y H Q ∨ (∃ i j, x = .str i ∧ y = .str j ∧ i.length + j.length ≤ sizeLine ∧ Q (.str (i ++ j)) H) ∨ rCatA K x y H Q
theorem or_iaddX (hK : X.K = g.K) : OpR X (inplaceOp .Add) (rIAddX g.K) := by rw [← hK]; exact iop_add.or (iop_add_str.or iop_catA)
theorem os_iaddX : OpS g opIAdd (rIAddX g.K) := by
  intro LW ι lσ lh H x y v w Q rh rx ry h
  unfold opIAdd at h
  split at h
  · cases rx; cases ry; exact .inl ⟨_, _, rfl, rfl, h.ok rh (.int _)⟩
  · split at h
    · cases rx; cases ry
      rename_i hz
      exact .inr (.inl ⟨_, _, rfl, rfl, by rw [str_len, str_len]; exact sz hz, by rw [str_app]; exact h.ok rh (.str _)⟩)
    · exact h.elim
  · split at h
    · rename_i as bs _ hz
      cases rx with
      | @tup a vs _ ha ra =>
        cases ry with
        | @tup b ws _ hb rb =>
          refine .inr (.inr ⟨a, b, vs, ws, rfl, rfl, ha, hb, by rw [ra.length, rb.length]; exact sz hz, fun e => ?_, fun _ e => ?_, fun _ _ => ?_⟩)
          · subst e; cases ra; exact h.ok rh (.tup hb rb)
          · subst e; cases rb; exact h.ok rh (.tup ha (by rw [List.append_nil]; exact ra))
          · exact new_tup rh (ra.append rb) h
    · exact h.elim
  · exact h.elim
end
end Mi
namespace Mi
open PySem PySem.Spec PyProof.Rows L2
/-! ### own classes -/
theorem lk_mem : ∀ {tbl : List (Nat × Nat)} {c i : Nat}, tbl.lookup c = some i → (c, i) ∈ tbl
  | [], c, i, h => by cases h
  | (a, b) :: r, c, i, h => by
    rw [List.lookup] at h
    split at h
    · rename_i e
      have := beq_iff_eq.mp e
      cases h; subst this
      exact List.mem_cons_self ..
    · exact List.mem_cons_of_mem _ (lk_mem h)
theorem Dm.zero {P : Program} {w : World} {K : PySem.W.Frag} {mg : Str → Option Value} {base : Heap} {g : GG} {i : Nat} {x qual : Str} {st : Stmt} {fd : FuncData} {np : Nat} {ps : List Str} {C : Or} (F : Fun K x qual st (g.fa i) fd) (b : Binds K fd ps []) (hn : np = ps.length) (hC : ∀ vs h, C i vs h = .bad) :
    Dm P w K mg base g 0 i np C := by
  have no : ∀ vs H Q E, ¬ spOf g np (C i) vs H Q E := fun vs H Q E h => by
    obtain ⟨_, ι, lh, args, _, _, h⟩ := h
    rw [hC] at h
    exact h
  exact ⟨_, fd, ps, rfl, ⟨fun vs H Q E h => absurd h (no vs H Q E), fun A outer s H args us vs Q E _ _ _ _ h => absurd h (no vs H Q E)⟩, hn, F.kp, b⟩
/-- C idx makes instances of class c, its __init__ is def i -/
def Dk (P : Program) (w : World) (K : PySem.W.Frag) (mg : Str → Option Value) (base : Heap) (g : GG) (k idx c i np : Nat) (C : Or) : Prop :=
  (∀ vs h, C idx vs h = .bad) ∨ ∃ k' C', k = k' + 1 ∧ Dm P w K mg base g k' i np C' ∧ ∀ vs h, C idx vs h = mkFn C' c i vs h
section
variable {X : Cx} {g : GG} {LW : LWish} {a b c o : Expr} {ma mb mc mo : ME} {pos : Pos} {es : List Expr} {ta : MA}
theorem q_mk {k np c i idx : Nat} {x : Str} {p : Pos} {C : Or} (tk : Takes X (wOf g LW)) (d : Dk X.prog X.w X.K X.mg X.base g k idx c i np C) (M : Mk X.K (g.ca c) (g.fa i)) (hr : Room k X.A) (hg : Gl X x) (hm : X.mg x = some (.ref (g.ca c)))
    (ha : PA X (a :: es) (tA g LW ta)) (hal : ∀ lσ lh vs lh1, ta lσ lh = .ok vs lh1 → vs.length + 1 = np) (hdb : (x == ("__debug__" : Str)) = false := by decide) (he : starEach (a :: es) X.env = (false, eval a X.env) :: starEach es X.env := by rfl) (hpl : (backTo pos (starEach es X.env)).any (·.1) = false := by rfl) :
    PE X (.Call (.Name x p) (a :: es) [] pos) (tE g LW (mCall C idx ta)) := ⟨fun pins s σ H Q I ⟨ι, lσ, lh, rs, rh, h⟩ => by
  refine wpAny_Call_Name_kw (ld_glob I hg hm ?_ hdb)
  refine PySem.W.callWith_K (h₀ := X.base) I.ok.mod.kin M.kp (thn (ha.run pos pins s σ H (fun xs H1 => ∃ ι1 vs lh1, Ext ι H ι1 H1 ∧ RH g ι1 lh1 H1 ∧ RVs g ι1 H1 xs vs ∧ ta lσ lh = .ok vs lh1 ∧ finR (relV g) g LW ι1 lσ H1 (C idx vs lh1) Q) I ⟨ι, lσ, lh, rs, rh, ?_⟩) fun us s1 ⟨vs, H1, I1, r, ι1, xs, lh1, e1, rh1, rv1, ea, h1⟩ => ⟨I1.kIn, ?_⟩) he hpl
  · simp only [mCall] at h
    cases e : ta lσ lh with
    | bad => rw [e] at h; exact h.elim
    | exc y l => rw [e] at h; exact h
    | ok vs l => rw [e] at h; exact fun ι1 xs H1 x1 rh1 rv1 => ⟨ι1, vs, l, x1, rh1, rv1, rfl, finR.mono x1 h⟩
  · rcases d with d | ⟨k', C', rfl, d, hC⟩
    · rw [d] at h1; exact h1.elim
    · rw [hC] at h1
      obtain ⟨f, fd, ps, rfl, F, hnp, hk, hb⟩ := d
      exact run_makeS M F hr hb (passAt tk σ) I1 r fun x dx hx hdx hne => make_of (rs.mono e1) rh1 rv1 (hal _ _ _ _ ea) h1 x dx hx hdx hne⟩
theorem q_mk0 {k c i idx : Nat} {x : Str} {p : Pos} {C : Or} (tk : Takes X (wOf g LW)) (d : Dk X.prog X.w X.K X.mg X.base g k idx c i 1 C) (M : Mk X.K (g.ca c) (g.fa i)) (hr : Room k X.A) (hg : Gl X x) (hm : X.mg x = some (.ref (g.ca c)))
    (hdb : (x == ("__debug__" : Str)) = false := by decide) :
    PE X (.Call (.Name x p) [] [] pos) (tE g LW (mCall C idx aNil)) := ⟨fun pins s σ H Q I ⟨ι, lσ, lh, rs, rh, h⟩ => by
  have h : finR (relV g) g LW ι lσ H (C idx [] lh) Q := h
  refine wpAny_Call_Name_kw (ld_glob I hg hm ?_ hdb)
  rcases d with d | ⟨k', C', rfl, d, hC⟩
  · rw [d] at h; exact h.elim
  · rw [hC] at h
    obtain ⟨f, fd, ps, rfl, F, hnp, hk, hb⟩ := d
    exact PySem.W.callWith_K0 I.kIn M.kp (run_makeS (us := []) M F hr hb (passAt tk σ) I .nil fun x dx hx hdx hne => make_of rs rh .nil rfl h x dx hx hdx hne)⟩
end
end Mi
namespace Mi
open PySem PySem.Spec PyProof.Rows L2
section
variable {X : Cx} {g : GG} {LW : LWish} {a b c o : Expr} {ma mb mc mo : ME} {pos : Pos} {es : List Expr} {ta : MA}
/-! ### deques -/
theorem RH.deq {ι : List Addr} {H : Hp} {lh : LH} (h : RH g ι lh H) {n : Nat} {xs : List LV} {p : Addr} (e : lh[n]? = some (.deq xs)) (ep : ι[n]? = some p) : ∃ k us vs, H p = some (RecO p "collections.deque" (dqv k us)) ∧ Vals vs us ∧ RVs g ι H vs xs := h.ob n p _ ep e
theorem RH.set_deq {ι : List Addr} {lh : LH} {H : Hp} {n : Nat} {p : Addr} {x : LO} {vs : List V} {ys : List LV} {o : HO} (rh : RH g ι lh H) (e : ι[n]? = some p) (ex : lh[n]? = some x) (mx : LO.mut x) (d : DqAt (upd H p o) p vs) (r : RVs g ι H vs ys) :
    RH g ι (lh.set n (.deq ys)) (upd H p o) ∧ Ext ι H ι (upd H p o) := by
  obtain ⟨u, hu, mu⟩ := (rh.ob n p x e ex).tracked mx
  have x1 : Ext ι H ι (upd H p o) := Ext.write (by rw [hu]; exact mu)
  obtain ⟨k, us, d1, d2⟩ := d
  exact ⟨rh.write e ex mx trivial ⟨k, us, vs, d1, d2, r.mono x1⟩, x1⟩
theorem isDeq_of {x : LV} {h : LH} (e : isDeq x h = true) : ∃ n xs, x = .loc n ∧ h[n]? = some (.deq xs) := by
  unfold isDeq at e
  split at e
  · split at e
    · rename_i q; exact ⟨_, _, rfl, q⟩
    · cases e
  · cases e
theorem ms_appQ : MtSnd g mtAppQ (fun x xs H Q => ∃ a vs y, x = .ref a ∧ xs = [y] ∧ DqAt H a vs ∧ vs.length < sizeLine ∧ ∀ o, (∀ H', H' = upd H a o → DqAt H' a (vs ++ [y]) → Q .non H')) := by
  intro LW ι lσ lh H x v xs vs Q rh rx rv h
  unfold mtAppQ at h
  split at h
  · split at h
    · rename_i e1
      split at h
      · rename_i hz
        cases rx with
        | @loc n p e =>
        cases rv with
        | cons r1 r2 =>
        cases r2
        obtain ⟨k, us, ws, k1, k2, k3⟩ := rh.deq e1 e
        refine ⟨p, ws, _, rfl, rfl, ⟨k, us, k1, k2⟩, by rw [k3.length]; exact sz' hz, fun o H' eH d => ?_⟩
        subst eH
        obtain ⟨q1, q2⟩ := rh.set_deq e e1 trivial d (k3.append (.cons r1 .nil))
        exact h ι _ _ q2 q1 .non
      · exact h.elim
    · exact h.elim
  · exact h.elim
theorem ms_popQ : MtSnd g mtPopQ (fun x xs H Q => ∃ a vs y, x = .ref a ∧ xs = [] ∧ DqAt H a (y :: vs) ∧ vs.length ≤ sizeLine ∧ ∀ o, (∀ H', H' = upd H a o → DqAt H' a vs → Q y H')) := by
  intro LW ι lσ lh H x v xs vs Q rh rx rv h
  unfold mtPopQ at h
  split at h
  · split at h
    · rename_i e1
      split at h
      · rename_i hz
        cases rx with
        | @loc n p e =>
        cases rv
        obtain ⟨k, us, ws, k1, k2, k3⟩ := rh.deq e1 e
        cases k3 with
        | cons r1 r2 =>
        refine ⟨p, _, _, rfl, rfl, ⟨k, us, k1, k2⟩, by rw [r2.length]; exact sz hz, fun o H' eH d => ?_⟩
        subst eH
        obtain ⟨q1, q2⟩ := rh.set_deq e e1 trivial d r2
        exact h ι _ _ q2 q1 (r1.mono q2)
      · exact h.elim
    · exact h.elim
  · exact h.elim
theorem q_appQ {apos cpos : Pos} (ha : PE X a (tE g LW ma)) (hb : PE X b (tE g LW mb))
    (hbase : attributeBase a "append" X.env (eval a X.env) = eval a X.env := by rfl)
    (hfew : ((backTo cpos (starEach [b] X.env)).all (fun x => !x.1) && (backToKw cpos (keywordEach [] X.env)).all (fun x => x.1.isSome)
      && decide ([b].length + ([] : List Keyword).length + (if ([] : List Keyword).isEmpty then 0 else 1) < 30)) = true := by rfl)
    (hline : (apos.endLine == cpos.line) = true := by rfl) (hst : starEach [b] X.env = (false, eval b X.env) :: starEach [] X.env := by rfl) :
    PE X (.Call (.Attribute a "append" apos) [b] [] cpos) (tE g LW (mM isDeq mtAppQ ma (aCons mb aNil))) :=
  (pe_rm dq_pa dq_s_app dq_t_app mt_dqapp ha (q_cons hb q_nil hst) hbase hfew hline hst rfl).wk fun σ H Q ⟨ι, lσ, lh, rs, rh, h⟩ =>
    ⟨ι, lσ, lh, rs, rh, fin_bind h fun ι1 x H1 v lh1 e1 rh1 rv1 h1 => by
      split at h1
      · rename_i e
        obtain ⟨n, xs, rfl, e2⟩ := isDeq_of e
        cases rv1 with
        | @loc _ p e3 =>
        obtain ⟨k, us, vs, k1, k2, k3⟩ := rh1.deq e2 e3
        refine ⟨⟨p, _, rfl, k1⟩, ⟨ι1, lσ, lh1, rs.mono e1, rh1, fin_bind h1 fun ι2 y H2 w lh2 x2 rh2 rv2 h2 => ?_⟩⟩
        exact ms_appQ LW ι2 lσ lh2 H2 _ _ y w Q rh2 (.loc (x2.get e3)) rv2 h2
      · exact h1.elim⟩
theorem q_popQ {apos cpos : Pos} (ha : PE X a (tE g LW ma))
    (hbase : attributeBase a "popleft" X.env (eval a X.env) = eval a X.env := by rfl) (hline : (apos.endLine == cpos.line) = true := by rfl) :
    PE X (.Call (.Attribute a "popleft" apos) [] [] cpos) (tE g LW (mM isDeq mtPopQ ma aNil)) :=
  (pe_rm0 dq_pa dq_s_pop dq_t_pop mt_dqpop ha hbase hline).wk fun σ H Q ⟨ι, lσ, lh, rs, rh, h⟩ =>
    ⟨ι, lσ, lh, rs, rh, fin_bind h fun ι1 x H1 v lh1 e1 rh1 rv1 h1 => by
      split at h1
      · rename_i e
        obtain ⟨n, xs, rfl, e2⟩ := isDeq_of e
        cases rv1 with
        | @loc _ p e3 =>
        obtain ⟨k, us, vs, k1, k2, k3⟩ := rh1.deq e2 e3
        refine ⟨⟨p, _, rfl, k1⟩, ?_⟩
        exact ms_popQ LW ι1 lσ lh1 H1 _ _ [] [] Q rh1 (.loc e3) .nil h1
      · exact h1.elim⟩
theorem cs_lenQ : CaS g fLenQ (fun xs H Q => ∃ a vs, xs = [.ref a] ∧ DqAt H a vs ∧ vs.length ≤ sizeLine ∧ Q (.int vs.length) H) := by
  intro LW ι lσ lh H xs vs Q rh r h
  unfold fLenQ at h
  split at h
  · split at h
    · rename_i e1
      split at h
      · rename_i hz
        cases r with
        | cons r1 r2 =>
        cases r2
        cases r1 with
        | @loc n p e =>
        obtain ⟨k, us, ws, k1, k2, k3⟩ := rh.deq e1 e
        exact ⟨p, ws, rfl, ⟨k, us, k1, k2⟩, by rw [k3.length]; exact sz hz, by rw [k3.length]; exact h.ok rh (.int _)⟩
      · exact h.elim
    · exact h.elim
  · exact h.elim
theorem q_lenQ {p : Pos} (hg : Gl X "len") (hm : X.mg "len" = none) (ha : PE X a (tE g LW ma)) (hs : starEach [a] X.env = (false, eval a X.env) :: starEach [] X.env := by rfl) : PE X (.Call (.Name "len" p) [a] [] pos) (tE g LW (mB fLenQ (aCons ma aNil))) :=
  q_cB call_len_dq cs_lenQ hg hm PySem.boot_len (q_cons ha q_nil hs) (by decide) (by decide) hs
theorem q_newQ {x : Str} {p : Pos} (hg : Gl X x) (hm : X.mg x = some (.type "collections.deque")) (hd : (x == ("__debug__" : Str)) = false := by decide) : PE X (.Call (.Name x p) [] [] pos) (tE g LW mNewQ) :=
  (pe_callGT0 call_deque0 hg hm hd).wk fun σ H Q ⟨ι, lσ, lh, rs, rh, h⟩ => ⟨rfl, fun q hq => by
    refine h (ι ++ [q]) (.ref q) _ (Ext.freshI hq) (rh.alloc hq ⟨0, [], [], ?_, .nil, .nil⟩) (.loc (by rw [← rh.len]; simp))
    rw [upd_same]; rfl⟩
/-! ### a dict written with texts as keys -/
def zipV (ks : List (List Nat)) (ys : List V) : List (V × V) := (ks.zip ys).map fun kv => (V.str ⟨kv.1.toArray⟩, kv.2)
structure SD (g : GG) (LW : LWish) (ks : List (List Nat)) (trs : List (TE × TE)) (ta : MA) : Prop where
  run : ∀ (ι : List Addr) (lσ : LSt) (lh : LH) (σ : L2.St) (H : Hp) (R : List (V × V) → Hp → Prop), RS g LW ι lσ σ H → RH g ι lh H →
    finR (relVs g) g LW ι lσ H (ta lσ lh) (fun ys H' => R (zipV ks ys) H') → tPairs trs σ H R
theorem sd_nil : SD g LW [] [] aNil := ⟨fun ι lσ lh σ H R rs rh h => h ι [] H .refl rh .nil⟩
theorem sd_cons {k : List Nat} {ks : List (List Nat)} {trs : List (TE × TE)} (h : SD g LW ks trs ta) : SD g LW (k :: ks) ((tC (.str ⟨k.toArray⟩), tE g LW ma) :: trs) (aCons ma ta) := ⟨fun ι lσ lh σ H R rs rh q => by
  show tPairs _ σ H R
  exact ⟨ι, lσ, lh, rs, rh, fin_bind q fun ι1 x H1 v lh1 e1 rh1 rv1 h1 => h.run ι1 lσ lh1 σ H1 _ (rs.mono e1) rh1 (fin_bind h1 fun ι2 xs H2 w lh2 e2 rh2 rv2 h2 => finR.ok h2 rh2 (.cons (rv1.mono e2) rv2))⟩⟩
theorem rk_zip {ι : List Addr} {H : Hp} : ∀ (ks : List (List Nat)) {ys : List V} {xs : List LV} {vs : List (L2.Key × V)} {zs : List (LKey × LV)}, RVs g ι H ys xs → RK g ι H vs zs →
    RK g ι H (((ks.zip ys).map fun kv => ((.inr ⟨kv.1.toArray⟩ : L2.Key), kv.2)).foldl (fun acc kv => putK acc kv.1 kv.2) vs) ((ks.zip xs).foldl (fun acc kv => kput acc (.inr kv.1) kv.2) zs)
  | [], _, _, _, _, _, r => r
  | k :: ks, _, _, _, _, .nil, r => r
  | k :: ks, _, _, _, _, .cons a b, r => rk_zip ks b (r.put (.inr k) a)
theorem q_disp {keys : List (Option Expr)} {values : List Expr} {ks : List (List Nat)} {trs : List (TE × TE)} (hp : PPs X pos keys values trs) (sd : SD g LW ks trs ta) (hall : keys.all (fun x => x.isSome) = true := by rfl) (hl : keys.length = values.length := by rfl) (h0 : keys ≠ [] := by simp) (h15 : keys.length ≤ 15 := by decide) :
    PE X (.Dict keys values pos) (tE g LW (mDisp ks ta)) :=
  (pe_disp hp hall hl h0 h15).wk fun σ H Q ⟨ι, lσ, lh, rs, rh, h⟩ => fun p hn => by
    have x0 : Ext ι H (ι ++ [p]) (upd H p (.dK [])) := Ext.freshI hn
    have rh0 : RH g (ι ++ [p]) (lh ++ [.dct []]) (upd H p (.dK [])) := rh.alloc hn ⟨[], upd_same, .nil⟩
    refine sd.run _ lσ _ σ _ _ (rs.mono x0) rh0 (fin_bind (finR.mono x0 h) fun ι1 ys H1 xs lh1 e1 rh1 rv1 h1 => ?_)
    have ep : ι1[lh.length]? = some p := e1.get (by rw [← rh.len]; simp)
    split at h1
    · rename_i e2
      split at h1
      · rename_i hz
        obtain ⟨ws, k1, k2⟩ := rh1.dct e2 ep
        cases k2
        refine ⟨k1, (ks.zip ys).map fun kv => ((.inr ⟨kv.1.toArray⟩ : L2.Key), kv.2), by simp [zipV, kV], by simp; omega, ?_⟩
        obtain ⟨q1, q2⟩ := rh1.set_dct ep e2 trivial (rk_zip ks rv1 .nil)
        exact h1 ι1 _ _ q2 q1 (.loc ep)
      · exact h1.elim
    · exact h1.elim
end
end Mi
namespace Mi
open PySem PySem.Spec PyProof.Rows L2
/-! ### a key in a dict -/
section
variable {X : Cx} {g : GG} {LW : LWish} {a b c d : Expr} {ma mb mc md mv : ME} {pos : Pos} {es : List Expr} {ta : MA}
theorem inDB_of {ι : List Addr} {lh : LH} {H : Hp} {x y : V} {v w : LV} {k : Bool} (rh : RH g ι lh H) (rx : RV g ι H x v) (ry : RV g ι H y w) (e : inDB v w lh = some k) : ∃ a o, y = .ref a ∧ DGet H a x o ∧ o.isSome = k := by
  unfold inDB at e
  split at e
  · split at e
    · rename_i kvs e1
      obtain ⟨j, e2, e3⟩ := Option.map_eq_some_iff.mp e
      cases ry with
      | @loc _ q hq =>
        obtain ⟨ws, k1, k2⟩ := rh.dct e1 hq
        rw [keyOf_of rx e2]
        refine ⟨q, _, rfl, DGet.k k1, ?_⟩
        rcases k2.find j with ⟨v, x, q1, q2, q3⟩ | ⟨q1, q2⟩
        · rw [q1, ← e3, q2]; rfl
        · rw [q1, ← e3, q2]; rfl
    · cases e
  · cases e
theorem tInD_of {σ : L2.St} {H : Hp} {Q : VK} (h : tE g LW (mOp opInD ma mb) σ H Q) : tDIn (tE g LW ma) (tE g LW mb) σ H Q := by
  obtain ⟨ι, lσ, lh, rs, rh, h⟩ := h
  refine ⟨ι, lσ, lh, rs, rh, fin_bind h fun ι1 x H1 v lh1 e1 rh1 rv1 h1 => ⟨ι1, lσ, lh1, rs.mono e1, rh1, fin_bind h1 fun ι2 y H2 w lh2 e2 rh2 rv2 h2 => ?_⟩⟩
  unfold opInD at h2
  split at h2
  · rename_i k e
    obtain ⟨a, o, q1, q2, q3⟩ := inDB_of rh2 (rv1.mono e2) rv2 e
    exact ⟨a, o, q1, q2, by rw [q3]; exact h2.ok rh2 (.bl _)⟩
  · exact h2.elim
theorem q_inD (hu : X.A.units + 1 < cLine) (ha : PE X a (tE g LW ma)) (hb : PE X b (tE g LW mb)) (h1 : behindInMarks .In b = false := by first | exact nobehind _ (by decide) (by decide) | rfl) : PE X (.Compare a [.In] [b] pos) (tE g LW (mOp opInD ma mb)) :=
  (pe_cmp (pc_din hu ha hb) h1).wk fun σ H Q h => tInD_of h
theorem b_inD {lσ : LSt} {lh l : LH} {v : LV} (e : mOp opInD ma mb lσ lh = .ok v l) : ∃ k, v = .bl k := by
  unfold mOp at e
  cases e1 : ma lσ lh with
  | bad => rw [e1] at e; cases e
  | exc x l => rw [e1] at e; cases e
  | ok x l1 =>
    rw [e1] at e
    simp only [R.bind] at e
    cases e2 : mb lσ l1 with
    | bad => rw [e2] at e; cases e
    | exc x l => rw [e2] at e; cases e
    | ok y l2 =>
      rw [e2] at e
      simp only [opInD] at e
      split at e
      · cases e; exact ⟨_, rfl⟩
      · cases e
theorem q_tinD (hu : X.A.units + 1 < cLine) (ha : PE X a (tE g LW ma)) (hb : PE X b (tE g LW mb)) (h1 : behindInMarks .In b = false := by first | exact nobehind _ (by decide) (by decide) | rfl) : PT X (.Compare a [.In] [b] pos) (tT g LW (bE (mOp opInD ma mb))) :=
  (pt_cmp (pc_din hu ha hb) h1).wk fun σ H Q ⟨ι, lσ, lh, rs, rh, h⟩ => by
    refine tInD_of (LW := LW) (ma := ma) (mb := mb) ⟨ι, lσ, lh, rs, rh, ?_⟩
    simp only [bE] at h
    cases e : mOp opInD ma mb lσ lh with
    | bad => rw [e] at h; exact h.elim
    | exc x l => rw [e] at h; exact h
    | ok v l =>
      rw [e] at h
      obtain ⟨k, rfl⟩ := b_inD e
      exact fun ι' x H' x1 rh1 rv1 => by cases rv1; exact ⟨k, rfl, h ι' k H' x1 rh1 rfl⟩
theorem tNotInD_of {σ : L2.St} {H : Hp} {Q : VK} (h : tE g LW (mOp opNotInD ma mb) σ H Q) : tDNotIn (tE g LW ma) (tE g LW mb) σ H Q := by
  obtain ⟨ι, lσ, lh, rs, rh, h⟩ := h
  refine ⟨ι, lσ, lh, rs, rh, fin_bind h fun ι1 x H1 v lh1 e1 rh1 rv1 h1 => ⟨ι1, lσ, lh1, rs.mono e1, rh1, fin_bind h1 fun ι2 y H2 w lh2 e2 rh2 rv2 h2 => ?_⟩⟩
  unfold opNotInD at h2
  split at h2
  · rename_i k e
    obtain ⟨a, o, q1, q2, q3⟩ := inDB_of rh2 (rv1.mono e2) rv2 e
    exact ⟨a, o, q1, q2, by rw [q3]; exact h2.ok rh2 (.bl _)⟩
  · exact h2.elim
theorem q_notInD (hu : X.A.units + 1 < cLine) (ha : PE X a (tE g LW ma)) (hb : PE X b (tE g LW mb)) (h1 : behindInMarks .NotIn b = false := by first | exact nobehind _ (by decide) (by decide) | rfl) : PE X (.Compare a [.NotIn] [b] pos) (tE g LW (mOp opNotInD ma mb)) :=
  (pe_cmp (pc_dnotin hu ha hb) h1).wk fun σ H Q h => tNotInD_of h
theorem b_notInD {lσ : LSt} {lh l : LH} {v : LV} (e : mOp opNotInD ma mb lσ lh = .ok v l) : ∃ k, v = .bl k := by
  unfold mOp at e
  cases e1 : ma lσ lh with
  | bad => rw [e1] at e; cases e
  | exc x l => rw [e1] at e; cases e
  | ok x l1 =>
    rw [e1] at e
    simp only [R.bind] at e
    cases e2 : mb lσ l1 with
    | bad => rw [e2] at e; cases e
    | exc x l => rw [e2] at e; cases e
    | ok y l2 =>
      rw [e2] at e
      simp only [opNotInD] at e
      split at e
      · cases e; exact ⟨_, rfl⟩
      · cases e
theorem q_tnotInD (hu : X.A.units + 1 < cLine) (ha : PE X a (tE g LW ma)) (hb : PE X b (tE g LW mb)) (h1 : behindInMarks .NotIn b = false := by first | exact nobehind _ (by decide) (by decide) | rfl) : PT X (.Compare a [.NotIn] [b] pos) (tT g LW (bE (mOp opNotInD ma mb))) :=
  (pt_cmp (pc_dnotin hu ha hb) h1).wk fun σ H Q ⟨ι, lσ, lh, rs, rh, h⟩ => by
    refine tNotInD_of (LW := LW) (ma := ma) (mb := mb) ⟨ι, lσ, lh, rs, rh, ?_⟩
    simp only [bE] at h
    cases e : mOp opNotInD ma mb lσ lh with
    | bad => rw [e] at h; exact h.elim
    | exc x l => rw [e] at h; exact h
    | ok v l =>
      rw [e] at h
      obtain ⟨k, rfl⟩ := b_notInD e
      exact fun ι' x H' x1 rh1 rv1 => by cases rv1; exact ⟨k, rfl, h ι' k H' x1 rh1 rfl⟩
end
end Mi
namespace Mi
open PySem PySem.Spec PyProof.Rows L2
section
variable {X : Cx} {g : GG} {a b : Expr} {ma mb : ME} {LW : LWish}
theorem idx_no {k : List Nat} : ∀ {ws : List (List Nat)} {j : Nat}, j < ws.idxOf k → ∀ (z' : V), (ws.map fun w => V.str ⟨w.toArray⟩)[j]? = some z' → eqV z' (.str ⟨k.toArray⟩) = false
  | [], j, h, z', e => by simp at e
  | w :: r, 0, h, z', e => by
    simp at e; subst e
    by_cases c : w = k
    · subst c; simp at h
    · simp only [eqV]
      rw [beq_eq_false_iff_ne]
      intro q
      apply c
      have := congrArg (fun z : Str => z.cps.toList) q
      simpa using this
  | w :: r, j + 1, h, z', e => by
    by_cases c : w = k
    · subst c; simp at h
    · have h' : j < r.idxOf k := by
        rw [List.idxOf_cons] at h
        have : (w == k) = false := by simpa using c
        rw [this] at h
        exact Nat.lt_of_succ_lt_succ h
      exact idx_no h' z' (by simpa using e)
theorem ms_index : MtSnd g mtIndex (rIndex g.K) := by
  intro LW ι lσ lh H x v xs vs Q rh rx rv h
  unfold mtIndex at h
  split at h
  · rename_i n k
    split at h
    · rename_i ls e1
      split at h
      · rename_i ws e2
        split at h
        · rename_i hk
          cases rx with
          | @loc _ p e =>
          cases rv with
          | cons r1 r2 =>
          cases r2
          cases r1
          obtain ⟨us, k1, k2⟩ := rh.lst e1 e
          have ev := strs_of e2 k2
          subst ev
          have hj : ws.idxOf k < ws.length := List.idxOf_lt_length_iff.mpr hk
          refine ⟨p, _, _, ws.idxOf k, .str ⟨k.toArray⟩, rfl, rfl, .inl (.inl k1), rfl, flat_strs ws, ?_, by simp [eqV], fun m z' hm hz => idx_no hm z' hz, ?_⟩
          · simp [hj, List.getElem_idxOf]
          · exact h.ok rh (.int _)
        · exact h.elim
      · exact h.elim
    · exact h.elim
  · exact h.elim
theorem q_index {apos cpos : Pos} (ha : PE X a (tE g LW ma)) (hb : PE X b (tE g LW mb)) (hK : X.K = g.K := by rfl)
    (hbase : attributeBase a "index" X.env (eval a X.env) = eval a X.env := by rfl)
    (hfew : ((backTo cpos (starEach [b] X.env)).all (fun x => !x.1) && (backToKw cpos (keywordEach [] X.env)).all (fun x => x.1.isSome)
      && decide ([b].length + ([] : List Keyword).length + (if ([] : List Keyword).isEmpty then 0 else 1) < 30)) = true := by rfl)
    (hline : (apos.endLine == cpos.line) = true := by rfl) (hst : starEach [b] X.env = (false, eval b X.env) :: starEach [] X.env := by rfl) :
    PE X (.Call (.Attribute a "index" apos) [b] [] cpos) (tE g LW (mM isLst mtIndex ma (aCons mb aNil))) :=
  q_mL PySem.F.slot_list_index PySem.F.type_list_index (hK ▸ mt_index) ms_index ha (q_cons hb q_nil hst) hK hbase hfew hline hst rfl
theorem ms_pop : MtSnd g mtPop rPop := by
  intro LW ι lσ lh H x v xs vs Q rh rx rv h
  unfold mtPop at h
  split at h
  · split at h
    · rename_i ls e1
      split at h
      · rename_i y hy
        cases rx with
        | @loc n p e =>
        cases rv
        obtain ⟨ws, k1, k2⟩ := rh.lst e1 e
        obtain ⟨u, hu, ru⟩ := k2.get hy
        obtain ⟨q1, q2⟩ := rh.set_lst e e1 trivial (by
          have := k2.take (ls.length - 1)
          rw [← List.dropLast_eq_take, ← k2.length, ← List.dropLast_eq_take] at this
          exact this)
        exact ⟨p, ws, u, rfl, rfl, k1, by rw [k2.length]; exact hu, h ι _ _ q2 q1 (ru.mono q2)⟩
      · exact h.elim
    · exact h.elim
  · exact h.elim
end
end Mi
namespace Mi
open PySem PySem.Spec PyProof.Rows L2
section
variable {X : Cx} {g : GG} {LW : LWish} {ι ι1 : List Addr} {lσ : LSt} {H H1 : Hp} {lh : LH} {σ : L2.St} {a b c tg : Expr} {ma mb mc : ME} {pos : Pos}
theorem itok_enumL {n : Nat} {p : Addr} {xs : List LV} (hn : ι[n]? = some p) : ItOk g ι H (Ite g.K p) (enumL 0 xs) (keepsL n xs) := by
  refine ⟨fun ι' lh H' i e rh q hi => ?_, fun ι' lh H' i x lx H'' e rh q hx y => ?_, fun ι' lh H' e rh q => ?_⟩
  · obtain ⟨vs, k1, k2⟩ := rh.rdL (of_decide_eq_true q) (e.get hn)
    have hi' : i < vs.length := by rw [k2.length]; rw [enumL_len] at hi; exact hi
    exact ⟨vs, vs[i], k1, List.getElem?_eq_getElem hi'⟩
  · obtain ⟨vs, k1, k2⟩ := rh.rdL (of_decide_eq_true q) (e.get hn)
    obtain ⟨T, x0, rfl, hT, rfl, y⟩ := y
    rw [enumL_get] at hx
    cases hxi : xs[i]? with
    | none => rw [hxi] at hx; cases hx
    | some z =>
      rw [hxi] at hx
      cases hx
      obtain ⟨v, q1, q2⟩ := k2.get hxi
      have q3 := y vs k1
      rw [q1] at q3; cases q3
      have e2 : Ext ι' H' ι' (upd H' T (.tup [.int (i : Nat), x0])) := Ext.fresh hT
      refine ⟨e2, rh.fresh hT, .tup (.inl (.inl upd_same)) (.cons ?_ (.cons (q2.mono e2) .nil))⟩
      rw [Nat.zero_add]
      exact .int _
  · obtain ⟨vs, k1, k2⟩ := rh.rdL (of_decide_eq_true q) (e.get hn)
    exact ⟨vs, k1, by rw [k2.length, enumL_len]; exact Nat.le_refl _⟩
theorem q_iEnumLst {p tpos : Pos} {elts : List Expr} {kk : Nat} (hg : Gl X "enumerate") (hm : X.mg "enumerate" = none) (ha : PE X a (tE g LW ma)) (hs : starEach [a] X.env = [(false, eval a X.env)] := by rfl) (hK : X.K = g.K := by rfl) :
    PI X (.Tuple elts kk tpos) (.Call (.Name "enumerate" p) [a] [] pos) (tI g LW (iEnumLst ma)) :=
  (pi_enum hg hm (pa_cons ha pa_nil hs) hs).wk fun σ H Q ⟨ι, lσ, lh, rs, rh, h⟩ =>
    ⟨ι, lσ, lh, rs, rh, fin_bind h fun ι1 x H1 v lh1 e1 rh1 rv1 h1 => by
      cases v with
      | loc n =>
        simp only at h1
        split at h1
        · rename_i xs q
          cases rv1 with
          | @loc _ p k1 =>
            obtain ⟨vs, w1, w2⟩ := rh1.rdL q k1
            exact ⟨p, vs, rfl, by rw [hK]; exact w1, by rw [hK]; exact h1 ι1 _ H1 .refl rh1 (itok_enumL k1)⟩
        · exact h1.elim
      | _ => exact h1.elim⟩
theorem keys_rv {g : GG} {ι : List Addr} {H : Hp} : ∀ {vs : List (L2.Key × V)} {xs : List (LKey × LV)}, RK g ι H vs xs → RVs g ι H (vs.map fun kv => kV kv.1) (xs.map fun kv => keyL kv.1)
  | _, _, .nil => .nil
  | _, _, .cons (k := k) r1 r2 => by
    refine .cons ?_ (keys_rv r2)
    cases k with
    | inl i => exact .int i
    | inr s => exact .str s
theorem cs_listD : CaS g fListD (fun xs H Q => ∃ (a : Addr) (kvs : List (L2.Key × V)), xs = [.ref a] ∧ Rd H a (.dK kvs) ∧ ∀ p, H p = none → Q (.ref p) (upd H p (.lst (kvs.map fun kv => kV kv.1)))) := by
  intro LW ι lσ lh H xs vs Q rh r h
  unfold fListD at h
  split at h
  · cases r with
    | cons r1 r2 =>
    cases r2
    cases r1 with
    | @loc n a e =>
    split at h
    · rename_i kvs e1
      obtain ⟨vs, k1, k2⟩ := rh.dct e1 e
      exact ⟨a, vs, rfl, .inl k1, new_lst rh (keys_rv k2) h⟩
    · exact h.elim
  · exact h.elim
theorem q_listD {p : Pos} (hc : X.calm = true) (hg : Gl X "list") (hm : X.mg "list" = none) (ha : PE X a (tE g LW ma)) (hs : starEach [a] X.env = (false, eval a X.env) :: starEach [] X.env := by rfl) : PE X (.Call (.Name "list" p) [a] [] pos) (tE g LW (mB fListD (aCons ma aNil))) :=
  q_cTy (call_listD hc) cs_listD hg hm (by decide +kernel) (q_cons ha q_nil hs) (by decide) (by decide) hs
theorem foldl_min_le : ∀ (ns : List Int) (n y : Int), n ≤ y ∨ y ∈ ns → ns.foldl min n ≤ y
  | [], n, y, h => by
    rcases h with h | h
    · exact h
    · cases h
  | a :: r, n, y, h => by
    rw [List.foldl_cons]
    apply foldl_min_le
    rcases h with h | h
    · left; omega
    · rcases List.mem_cons.mp h with h | h
      · left; subst h; omega
      · right; exact h
theorem foldl_min_mem : ∀ (ns : List Int) (n : Int), ns.foldl min n = n ∨ ns.foldl min n ∈ ns
  | [], n => .inl rfl
  | a :: r, n => by
    rw [List.foldl_cons]
    rcases foldl_min_mem r (min n a) with h | h
    · rw [h]
      by_cases e : a ≤ n
      · right; rw [Int.min_eq_right e]; exact List.mem_cons_self
      · left; exact Int.min_eq_left (by omega)
    · exact .inr (List.mem_cons_of_mem _ h)
theorem min_unique {n : Int} {ns : List Int} {m : Int} (h1 : m ∈ n :: ns) (h2 : ∀ y, y ∈ n :: ns → m ≤ y) : m = ns.foldl min n := by
  have a : m ≤ ns.foldl min n := by
    rcases foldl_min_mem ns n with h | h
    · rw [h]; exact h2 _ List.mem_cons_self
    · exact h2 _ (List.mem_cons_of_mem _ h)
  have b : ns.foldl min n ≤ m := by
    apply foldl_min_le
    rcases List.mem_cons.mp h1 with h | h
    · left; omega
    · exact .inr h
  omega
theorem q_min1 {p : Pos} (hc : X.calm = true) (hg : Gl X "min") (hm : X.mg "min" = none) (ha : PE X a (tE g LW ma)) (hs : starEach [a] X.env = [(false, eval a X.env)] := by rfl) (hK : X.K = g.K := by rfl) :
    PE X (.Call (.Name "min" p) [a] [] pos) (tE g LW (mB fMin1 (aCons ma aNil))) :=
  (pe_callB (cr_min hc) hg hm (by decide +kernel) (pa_cons ha pa_nil hs) (by decide) (by decide) hs).wk fun σ H Q ⟨ι, lσ, lh, rs, rh, h⟩ => by
    refine ⟨ι, lσ, lh, rs, rh, ?_⟩
    have h' : finR (relV g) g LW ι lσ H ((ma lσ lh).bind fun x h1 => fMin1 [x] h1) Q := by
      cases e : ma lσ lh with
      | ok v l => simpa [mB, aCons, aNil, e, R.bind] using h
      | exc x l => simpa [mB, aCons, aNil, e, R.bind] using h
      | bad => simpa [mB, aCons, aNil, e, R.bind] using h
    refine fin_bind h' fun ι1 x H1 v lh1 e1 rh1 rv1 h1 => ?_
    have key : ∀ {ns : List Int} {m : Int}, minI ns = some m → ∃ n r, ns = n :: r ∧ m = r.foldl min n := by
      intro ns m e
      cases ns with
      | nil => cases e
      | cons n r => cases e; exact ⟨n, r, rfl, rfl⟩
    cases v with
    | loc q =>
      simp only [fMin1] at h1
      split at h1
      · rename_i m e
        cases hl : rdL q lh1 with
        | none => rw [hl] at e; cases e
        | some xs =>
          rw [hl] at e
          cases hi : intsL xs with
          | none => simp [hi] at e
          | some ns =>
            simp only [Option.bind_some, hi] at e
            obtain ⟨n, r, rfl, rfl⟩ := key e
            cases rv1 with
            | @loc _ p k1 =>
              obtain ⟨vs, q1, q2⟩ := rh1.rdL hl k1
              have ev := ints_of hi q2
              subst ev
              refine ⟨p, n :: r, rfl, by rw [hK]; exact q1, by simp, fun m hm hle => ?_⟩
              rw [min_unique hm hle]
              exact h1.ok rh1 (.int _)
      · exact h1.elim
    | _ => exact h1.elim
theorem q_pop {apos cpos : Pos} (ha : PE X a (tE g LW ma)) (hK : X.K = g.K := by rfl)
    (hbase : attributeBase a "pop" X.env (eval a X.env) = eval a X.env := by rfl) (hline : (apos.endLine == cpos.line) = true := by rfl) :
    PE X (.Call (.Attribute a "pop" apos) [] [] cpos) (tE g LW (mM isLst mtPop ma aNil)) :=
  (pe_bm0 PySem.F.plainAttrs_list PySem.F.slot_list_pop PySem.F.type_list_pop mt_pop ha hbase hline).wk fun σ H Q ⟨ι, lσ, lh, rs, rh, h⟩ =>
    ⟨ι, lσ, lh, rs, rh, fin_bind h fun ι1 x H1 v lh1 e1 rh1 rv1 h1 => by
      split at h1
      · rename_i e
        obtain ⟨n, xs, rfl, e2⟩ := isLst_of e
        cases rv1 with
        | @loc _ p e3 =>
        obtain ⟨vs, k1, k2⟩ := rh1.lst e2 e3
        refine ⟨.inl ⟨rfl, vs, .inl (.inl k1)⟩, ?_⟩
        exact ms_pop LW ι1 lσ lh1 H1 _ _ [] [] Q rh1 (.loc e3) .nil h1
      · exact h1.elim⟩
end
end Mi
namespace Mi
open PySem PySem.Spec PyProof.Rows L2
/-! try in a law with own classes: the error is one of the first classes -/
section
variable {X : Cx} {g : GG} {LW : LWish} {ι ι1 : List Addr} {lσ : LSt} {H H1 : Hp} {lh : LH} {σ : L2.St}
theorem q_tryG {n0 : Nat} {x n : Str} {i : Nat} {np pos pos' : Pos} {body suite : List Stmt} {b₀ : Stmt} {mb : MS} {ms : Nat → LX → MS} {sub : Nat → Bool} {c : Nat}
    (hs : X.stack = X.env :: X.outer) (hf : X.env.frame = some X.env.locals) (hN : X.N.Nodup) (hi : X.N[i]? = some n) (hln : X.env.kindOf n = some .local) (hc : Names X x (.ref (g.ca c))) (tk : Takes X (wOf g LW))
    (hsub : ∀ m, m < n0 → PySem.W.exmOne X.K (.ref (g.ca m)) (.ref (g.ca c)) = some (sub m))
    (hb : ∀ (LW' : LWish) (pn : List (Addr × Obj)) (xe : Value → Shared → Prop), Takes (X.tr pn xe) (wOf g LW') → PassesOwn (model X.prog X.w) X.A X.env xe → PSs (X.tr pn xe) body (tS g LW' mb))
    (hsu : ∀ (ι0 : List Addr) (H0 : Hp) (a : Addr) (oe : Obj) (m : Nat) (y : LX) (pn : List (Addr × Obj)), Zc (.ref (g.ca y.cls)) none oe → (∃ vs, oe.data = .fields vs) → y.cls < n0 →
      PSs (X.suite a ((a, oe) :: pn)) (b₀ :: suite) (tS g (wSu ι0 H0 m a (.ref (g.ca y.cls)) y) (ms m y))) :
    PS X (.Try body [.ExceptHandler (some (.Name x np)) (some n) (b₀ :: suite) pos'] [] [] pos) (tS g LW (sTryG n0 sub i mb ms)) := by
  refine (ps_try_as (tb := fun W D σ H => ∃ LW' : LWish, (∀ cls d σ H, wOf g LW' cls d σ H → W cls d σ H) ∧ tS g LW' mb D σ H)
    (ts := fun a cls d D σ H => ∃ (ι0 : List Addr) (H0 : Hp) (m : Nat) (y : LX), y.cls < n0 ∧ cls = .ref (g.ca y.cls) ∧ d = none ∧ tS g (wSu ι0 H0 m a (.ref (g.ca y.cls)) y) (ms m y) D σ H) hs hf hN hi hln hc tk
    (fun W pn xe tkW po => ⟨fun pins s σ H D I ⟨LW', k, q⟩ => (hb LW' pn xe (tkW.imp k) po).run pins s σ H D I q⟩)
    (fun a oe cls d pn hz hf => ⟨fun pins s σ H D I ⟨ι0, H0, m, y, hlt, e1, e2, q⟩ => by subst e1 e2; exact (hsu ι0 H0 a oe m y pn hz hf hlt).run pins s σ H D I q⟩)).wk ?_
  rintro D σ H ⟨ι, lσ, lh, rs, rh, h⟩
  refine ⟨⟨fun y l h1 => finS g LW ι H (if y.cls < n0 then (if sub y.cls then (if y.fs.isEmpty then unslot i (ms h1.length y (l.set i (some (.loc h1.length))) (h1 ++ [.exo])) else .bad) else .exc y l h1) else .bad) D, ι, H, LW.ev⟩, ?_, ι, lσ, lh, rs.rewish .refl rs.kp, rh, ?_⟩
  · rintro cls d σ1 H1 ⟨ι1, l1, h1, y, rs1, rh1, rx, hw⟩
    have x1 : Ext ι H ι1 H1 := rs1.ext
    obtain ⟨rfl, rx2⟩ := rx
    by_cases hlt : y.cls < n0
    case neg => simp only [if_neg hlt] at hw; exact hw.elim
    simp only [if_pos hlt] at hw
    refine ⟨sub y.cls, hsub _ hlt, fun hb a ha => ?_, fun hb => ?_⟩
    · simp only [hb, if_pos] at hw
      rcases rx2 with ⟨hfs, rfl⟩ | ⟨hfs, _⟩
      · have hfe : y.fs.isEmpty = true := by rw [hfs]; rfl
        rw [if_pos hfe] at hw
        have ha2 : (ι1 ++ [a])[h1.length]? = some a := by
          rw [← rh1.len, List.getElem?_append_right (Nat.le_refl _)]; simp
        have rxx : RX g (ι1 ++ [a]) H1 (.ref (g.ca y.cls)) none y := ⟨rfl, .inl ⟨hfs, rfl⟩⟩
        have x2 : Ext ι H (ι1 ++ [a]) H1 := x1.trans (Ext.exo a)
        refine ⟨ι1 ++ [a], H1, h1.length, y, hlt, rfl, rfl, ι1 ++ [a], _, _, ((rs1.mono (Ext.exo a)).set (RV.loc ha2) i).rewish .refl ?_, rh1.exo a, ?_⟩
        · intro n' a' c' d' x' q; cases q; exact ⟨ha2, rxx⟩
        · have back : ∀ {ι' : List Addr} {l : LSt} {σ' : L2.St} {H' : Hp}, Ext (ι1 ++ [a]) H1 ι' H' → RS g (wSu (ι1 ++ [a]) H1 h1.length a (.ref (g.ca y.cls)) y) ι' l σ' H' → RS g LW ι' (l.set i none) (σ'.set i none) H' := fun {ι' l σ' H'} e r =>
            (r.none i).rewish (rs.ext.trans (x2.trans e)) fun n' a' c' d' x' q => by
              obtain ⟨p1, p2⟩ := rs.kp n' a' c' d' x' q
              exact ⟨(x2.trans e).get p1, p2.mono (x2.trans e)⟩
          revert hw
          cases ms h1.length y (l1.set i (some (.loc h1.length))) (h1 ++ [.exo]) with
          | nx l2 h2 => intro hw; exact fun ι' σ' H' e r rr => hw ι' _ H' (x2.trans e) (back e r) rr
          | bk l2 h2 => intro hw; exact fun ι' σ' H' e r rr => hw ι' _ H' (x2.trans e) (back e r) rr
          | ct l2 h2 => intro hw; exact fun ι' σ' H' e r rr => hw ι' _ H' (x2.trans e) (back e r) rr
          | rt v h2 => intro hw; exact fun ι' x' H' e r rv => hw ι' _ H' (x2.trans e) r rv
          | exc x2 l2 h2 => intro hw; exact hw
          | bad => intro hw; exact hw
      · have hfe : ¬ y.fs.isEmpty = true := by
          intro q; exact hfs (List.isEmpty_iff.mp q)
        rw [if_neg hfe] at hw
        exact hw.elim
    · simp only [hb, Bool.false_eq_true, if_false] at hw
      exact ⟨ι1, l1, h1, y, rs1.rewish (rs.ext.trans x1) (fun n' a' c' d' x' q => by
        obtain ⟨p1, p2⟩ := rs.kp n' a' c' d' x' q
        exact ⟨x1.get p1, p2.mono x1⟩), rh1, ⟨rfl, rx2⟩, hw⟩
  · have fwd : ∀ {ι' : List Addr} {l : LSt} {σ' : L2.St} {H' : Hp} {w : LX → LSt → LH → Prop}, Ext ι H ι' H' → RS g ⟨w, ι, H, LW.ev⟩ ι' l σ' H' → RS g LW ι' l σ' H' := fun {ι' l σ' H' w} e r =>
      r.rewish (rs.ext.trans e) fun n' a' c' d' x' q => by
        obtain ⟨p1, p2⟩ := rs.kp n' a' c' d' x' q
        exact ⟨e.get p1, p2.mono e⟩
    unfold sTryG at h
    revert h
    cases mb lσ lh with
    | nx l2 h2 => intro h; exact fun ι' σ' H' e r rr => h ι' _ H' e (fwd e r) rr
    | bk l2 h2 => intro h; exact fun ι' σ' H' e r rr => h ι' _ H' e (fwd e r) rr
    | ct l2 h2 => intro h; exact fun ι' σ' H' e r rr => h ι' _ H' e (fwd e r) rr
    | rt v h2 => intro h; exact fun ι' x' H' e r rv => h ι' _ H' e r rv
    | exc x2 l2 h2 => intro h; exact h
    | bad => intro h; exact h
end
end Mi
namespace Mi
/-! How the logic's functions run: rules for simp. What follows is looked at only when what comes ahead is known. -/
section
variable {α β : Type}
@[simp] theorem bind_ok (a : α) (h : LH) (f : α → LH → R β) : (R.ok a h).bind f = f a h := (rfl)
@[simp] theorem bind_exc (x : LX) (h : LH) (f : α → LH → R β) : (R.exc x h : R α).bind f = .exc x h := (rfl)
@[simp] theorem bind_bad (f : α → LH → R β) : (R.bad : R α).bind f = .bad := (rfl)
@[simp] theorem nox_ok (a : α) (h : LH) : (R.ok a h).nox = .ok a h := (rfl)
@[simp] theorem nox_bad : (R.bad : R α).nox = .bad := (rfl)
@[simp] theorem st_ok (a : α) (h : LH) (σ : LSt) (k : α → LH → O) : (R.ok a h).st σ k = k a h := (rfl)
@[simp] theorem st_exc (x : LX) (h : LH) (σ : LSt) (k : α → LH → O) : (R.exc x h : R α).st σ k = .exc x σ h := (rfl)
@[simp] theorem st_bad (σ : LSt) (k : α → LH → O) : (R.bad : R α).st σ k = .bad := (rfl)
end
/-- a statement, then the rest -/
def O.seq (o : O) (t : MS) : O := match o with
  | .nx σ1 h1 => t σ1 h1
  | o => o
@[simp] theorem seq_nx (σ : LSt) (h : LH) (t : MS) : (O.nx σ h).seq t = t σ h := (rfl)
@[simp] theorem seq_rt (v : LV) (h : LH) (t : MS) : (O.rt v h).seq t = .rt v h := (rfl)
@[simp] theorem seq_bk (σ : LSt) (h : LH) (t : MS) : (O.bk σ h).seq t = .bk σ h := (rfl)
@[simp] theorem seq_ct (σ : LSt) (h : LH) (t : MS) : (O.ct σ h).seq t = .ct σ h := (rfl)
@[simp] theorem seq_exc (x : LX) (σ : LSt) (h : LH) (t : MS) : (O.exc x σ h).seq t = .exc x σ h := (rfl)
@[simp] theorem seq_bad (t : MS) : O.bad.seq t = .bad := (rfl)
/-- a turn of a loop, then the rest -/
def O.turn (o : O) (t : MS) : O := match o with
  | .nx σ2 h2 => t σ2 h2
  | .ct σ2 h2 => t σ2 h2
  | .bk σ2 h2 => .nx σ2 h2
  | o => o
@[simp] theorem turn_nx (σ : LSt) (h : LH) (t : MS) : (O.nx σ h).turn t = t σ h := (rfl)
@[simp] theorem turn_ct (σ : LSt) (h : LH) (t : MS) : (O.ct σ h).turn t = t σ h := (rfl)
@[simp] theorem turn_bk (σ : LSt) (h : LH) (t : MS) : (O.bk σ h).turn t = .nx σ h := (rfl)
@[simp] theorem turn_rt (v : LV) (h : LH) (t : MS) : (O.rt v h).turn t = .rt v h := (rfl)
@[simp] theorem turn_exc (x : LX) (σ : LSt) (h : LH) (t : MS) : (O.exc x σ h).turn t = .exc x σ h := (rfl)
@[simp] theorem turn_bad (t : MS) : O.bad.turn t = .bad := (rfl)
section
variable (σ : LSt) (h : LH)
/-! ### expressions -/
@[simp] theorem x_var (i : Nat) {v : LV} (e : σ[i]? = some (some v)) : mVar i σ h = .ok v h := by unfold mVar; rw [e]
@[simp] theorem x_v0 (v : LV) (r : LSt) : mVar 0 (some v :: r) h = .ok v h := (rfl)
@[simp] theorem x_v1 (a : Option LV) (v : LV) (r : LSt) : mVar 1 (a :: some v :: r) h = .ok v h := (rfl)
@[simp] theorem x_v2 (a b : Option LV) (v : LV) (r : LSt) : mVar 2 (a :: b :: some v :: r) h = .ok v h := (rfl)
@[simp] theorem x_v3 (a b c : Option LV) (v : LV) (r : LSt) : mVar 3 (a :: b :: c :: some v :: r) h = .ok v h := (rfl)
@[simp] theorem x_v4 (a b c d : Option LV) (v : LV) (r : LSt) : mVar 4 (a :: b :: c :: d :: some v :: r) h = .ok v h := (rfl)
@[simp] theorem x_v5 (a b c d e : Option LV) (v : LV) (r : LSt) : mVar 5 (a :: b :: c :: d :: e :: some v :: r) h = .ok v h := (rfl)
@[simp] theorem x_v6 (a b c d e f : Option LV) (v : LV) (r : LSt) : mVar 6 (a :: b :: c :: d :: e :: f :: some v :: r) h = .ok v h := (rfl)
@[simp] theorem x_v7 (a b c d e f g : Option LV) (v : LV) (r : LSt) : mVar 7 (a :: b :: c :: d :: e :: f :: g :: some v :: r) h = .ok v h := (rfl)
@[simp] theorem x_v8 (a b c d e f g i : Option LV) (v : LV) (r : LSt) : mVar 8 (a :: b :: c :: d :: e :: f :: g :: i :: some v :: r) h = .ok v h := (rfl)
@[simp] theorem x_v9 (a b c d e f g i j : Option LV) (v : LV) (r : LSt) : mVar 9 (a :: b :: c :: d :: e :: f :: g :: i :: j :: some v :: r) h = .ok v h := (rfl)
@[simp] theorem x_c (v : LV) : mC v σ h = .ok v h := (rfl)
def kOp (f : LV → LV → LH → R LV) (b : ME) (σ : LSt) (x : LV) (h1 : LH) : R LV := (b σ h1).bind (f x)
@[simp] theorem k_op (f : LV → LV → LH → R LV) (b : ME) (x : LV) : kOp f b σ x h = (b σ h).bind (f x) := (rfl)
@[simp] theorem x_op (f : LV → LV → LH → R LV) (a b : ME) : mOp f a b σ h = (a σ h).bind (kOp f b σ) := (rfl)
@[simp] theorem x_un (f : LV → LH → R LV) (a : ME) : mUn f a σ h = (a σ h).bind f := (rfl)
@[simp] theorem x_nil : aNil σ h = .ok [] h := (rfl)
def kCons2 (x : LV) (xs : List LV) (h2 : LH) : R (List LV) := .ok (x :: xs) h2
def kCons (r : MA) (σ : LSt) (x : LV) (h1 : LH) : R (List LV) := (r σ h1).bind (kCons2 x)
@[simp] theorem k_cons2 (x : LV) (xs : List LV) : kCons2 x xs h = .ok (x :: xs) h := (rfl)
@[simp] theorem k_cons (r : MA) (x : LV) : kCons r σ x h = (r σ h).bind (kCons2 x) := (rfl)
@[simp] theorem x_cons (a : ME) (r : MA) : aCons a r σ h = (a σ h).bind (kCons r σ) := (rfl)
@[simp] theorem x_b (f : List LV → LH → R LV) (a : MA) : mB f a σ h = (a σ h).bind f := (rfl)
def kTup (xs : List LV) (h1 : LH) : R LV := if xs.length ≤ szL then .ok (.tup xs) h1 else .bad
@[simp] theorem k_tup (xs : List LV) : kTup xs h = if xs.length ≤ szL then .ok (.tup xs) h else .bad := (rfl)
@[simp] theorem x_tup (a : MA) : mTup a σ h = (a σ h).bind kTup := (rfl)
def kLst (xs : List LV) (h1 : LH) : R LV := if xs.length ≤ szL then .ok (.loc h1.length) (h1 ++ [.lst xs]) else .bad
@[simp] theorem k_lst (xs : List LV) : kLst xs h = if xs.length ≤ szL then .ok (.loc h.length) (h ++ [.lst xs]) else .bad := (rfl)
@[simp] theorem x_lst (a : MA) : mLst a σ h = (a σ h).bind kLst := (rfl)
@[simp] theorem x_dct : mDct σ h = .ok (.loc h.length) (h ++ [.dct []]) := (rfl)
@[simp] theorem x_be (a : ME) : bE a σ h = (a σ h).bind tru := (rfl)
def kNotB (c : Bool) (h1 : LH) : R Bool := .ok (!c) h1
@[simp] theorem k_notB (c : Bool) : kNotB c h = .ok (!c) h := (rfl)
@[simp] theorem x_bnot (a : MB) : bNot a σ h = (a σ h).bind kNotB := (rfl)
def kAndB (b : MB) (σ : LSt) (c : Bool) (h1 : LH) : R Bool := if c then b σ h1 else .ok false h1
@[simp] theorem k_andB (b : MB) (c : Bool) : kAndB b σ c h = if c then b σ h else .ok false h := (rfl)
@[simp] theorem x_band (a b : MB) : bAnd a b σ h = (a σ h).bind (kAndB b σ) := (rfl)
def kOrB (b : MB) (σ : LSt) (c : Bool) (h1 : LH) : R Bool := if c then .ok true h1 else b σ h1
@[simp] theorem k_orB (b : MB) (c : Bool) : kOrB b σ c h = if c then .ok true h else b σ h := (rfl)
@[simp] theorem x_bor (a b : MB) : bOr a b σ h = (a σ h).bind (kOrB b σ) := (rfl)
def kAnd2 (b : ME) (σ : LSt) (x : LV) (c : Bool) (h2 : LH) : R LV := if c then b σ h2 else .ok x h2
def kAnd (b : ME) (σ : LSt) (x : LV) (h1 : LH) : R LV := (tru x h1).bind (kAnd2 b σ x)
@[simp] theorem k_and2 (b : ME) (x : LV) (c : Bool) : kAnd2 b σ x c h = if c then b σ h else .ok x h := (rfl)
@[simp] theorem k_and (b : ME) (x : LV) : kAnd b σ x h = (tru x h).bind (kAnd2 b σ x) := (rfl)
@[simp] theorem x_and (a b : ME) : mAnd a b σ h = (a σ h).bind (kAnd b σ) := (rfl)
def kOr2 (b : ME) (σ : LSt) (x : LV) (c : Bool) (h2 : LH) : R LV := if c then .ok x h2 else b σ h2
def kOr (b : ME) (σ : LSt) (x : LV) (h1 : LH) : R LV := (tru x h1).bind (kOr2 b σ x)
@[simp] theorem k_or2 (b : ME) (x : LV) (c : Bool) : kOr2 b σ x c h = if c then .ok x h else b σ h := (rfl)
@[simp] theorem k_or (b : ME) (x : LV) : kOr b σ x h = (tru x h).bind (kOr2 b σ x) := (rfl)
@[simp] theorem x_or (a b : ME) : mOr a b σ h = (a σ h).bind (kOr b σ) := (rfl)
def kNot2 (c : Bool) (h2 : LH) : R LV := .ok (.bl (!c)) h2
def kNot (x : LV) (h1 : LH) : R LV := (tru x h1).bind kNot2
@[simp] theorem k_not2 (c : Bool) : kNot2 c h = .ok (.bl (!c)) h := (rfl)
@[simp] theorem k_not (x : LV) : kNot x h = (tru x h).bind kNot2 := (rfl)
@[simp] theorem x_not (a : ME) : mNot a σ h = (a σ h).bind kNot := (rfl)
def kIf (a b : ME) (σ : LSt) (c : Bool) (h1 : LH) : R LV := if c then a σ h1 else b σ h1
@[simp] theorem k_if (a b : ME) (c : Bool) : kIf a b σ c h = if c then a σ h else b σ h := (rfl)
@[simp] theorem x_if (t : MB) (a b : ME) : mIf t a b σ h = (t σ h).bind (kIf a b σ) := (rfl)
@[simp] theorem x_byes : bYes σ h = .ok true h := (rfl)
@[simp] theorem x_call (C : Or) (i : Nat) (a : MA) : mCall C i a σ h = (a σ h).bind (C i) := (rfl)
def kM (chk : LV → LH → Bool) (f : LV → List LV → LH → R LV) (r : MA) (σ : LSt) (x : LV) (h1 : LH) : R LV := if chk x h1 then (r σ h1).bind (f x) else .bad
@[simp] theorem k_m (chk : LV → LH → Bool) (f : LV → List LV → LH → R LV) (r : MA) (x : LV) : kM chk f r σ x h = if chk x h then (r σ h).bind (f x) else .bad := (rfl)
@[simp] theorem x_m (chk : LV → LH → Bool) (f : LV → List LV → LH → R LV) (a : ME) (r : MA) : mM chk f a r σ h = (a σ h).bind (kM chk f r σ) := (rfl)
@[simp] theorem x_onone : oNone σ h = .ok none h := (rfl)
def kO (x : LV) (h1 : LH) : R (Option Int) := match x with
  | .int i => .ok (some i) h1
  | _ => .bad
@[simp] theorem k_o (i : Int) : kO (.int i) h = .ok (some i) h := (rfl)
@[simp] theorem x_osome (a : ME) : oSome a σ h = (a σ h).bind kO := (rfl)
def kSl2 (hi : MO) (σ : LSt) (x : LV) (i : Option Int) (h2 : LH) : R LV := (hi σ h2).bind (opSl x i)
def kSl (lo hi : MO) (σ : LSt) (x : LV) (h1 : LH) : R LV := (lo σ h1).bind (kSl2 hi σ x)
@[simp] theorem k_sl2 (hi : MO) (x : LV) (i : Option Int) : kSl2 hi σ x i h = (hi σ h).bind (opSl x i) := (rfl)
@[simp] theorem k_sl (lo hi : MO) (x : LV) : kSl lo hi σ x h = (lo σ h).bind (kSl2 hi σ x) := (rfl)
@[simp] theorem x_sl (a : ME) (lo hi : MO) : mSl a lo hi σ h = (a σ h).bind (kSl lo hi σ) := (rfl)
def kCh3 (g : LV → LV → LH → R LV) (c : ME) (σ : LSt) (y z : LV) (h3 : LH) : R LV := match z with
  | .bl true => (c σ h3).bind (g y)
  | .bl false => .ok (.bl false) h3
  | _ => .bad
def kCh2 (f g : LV → LV → LH → R LV) (c : ME) (σ : LSt) (x y : LV) (h2 : LH) : R LV := (f x y h2).bind (kCh3 g c σ y)
def kCh (f g : LV → LV → LH → R LV) (b c : ME) (σ : LSt) (x : LV) (h1 : LH) : R LV := (b σ h1).bind (kCh2 f g c σ x)
@[simp] theorem k_ch3t (g : LV → LV → LH → R LV) (c : ME) (y : LV) : kCh3 g c σ y (.bl true) h = (c σ h).bind (g y) := (rfl)
@[simp] theorem k_ch3f (g : LV → LV → LH → R LV) (c : ME) (y : LV) : kCh3 g c σ y (.bl false) h = .ok (.bl false) h := (rfl)
@[simp] theorem k_ch2 (f g : LV → LV → LH → R LV) (c : ME) (x y : LV) : kCh2 f g c σ x y h = (f x y h).bind (kCh3 g c σ y) := (rfl)
@[simp] theorem k_ch (f g : LV → LV → LH → R LV) (b c : ME) (x : LV) : kCh f g b c σ x h = (b σ h).bind (kCh2 f g c σ x) := (rfl)
@[simp] theorem x_chain (f g : LV → LV → LH → R LV) (a b c : ME) : mChain f g a b c σ h = (a σ h).bind (kCh f g b c σ) := by
  unfold mChain kCh kCh2 kCh3; rfl
/-! ### statements -/
@[simp] theorem x_next : sNext σ h = .nx σ h := (rfl)
@[simp] theorem x_seq (s t : MS) : sSeq s t σ h = (s σ h).seq t := by unfold sSeq O.seq; cases s σ h <;> rfl
def kX {α : Type} (σ : LSt) (_ : α) (h1 : LH) : O := .nx σ h1
@[simp] theorem k_x {α : Type} (a : α) : kX σ a h = .nx σ h := (rfl)
@[simp] theorem x_expr (a : ME) : sExpr a σ h = (a σ h).st σ (kX σ) := (rfl)
@[simp] theorem x_ret (a : ME) : sRet a σ h = (a σ h).st σ O.rt := (rfl)
@[simp] theorem x_retn : sRetN σ h = .rt .non h := (rfl)
@[simp] theorem x_break : sBreak σ h = .bk σ h := (rfl)
@[simp] theorem x_cont : sCont σ h = .ct σ h := (rfl)
def kSI (a b : MS) (σ : LSt) (c : Bool) (h1 : LH) : O := if c then a σ h1 else b σ h1
@[simp] theorem k_si (a b : MS) (c : Bool) : kSI a b σ c h = if c then a σ h else b σ h := (rfl)
@[simp] theorem x_sif (t : MB) (a b : MS) : sIf t a b σ h = (t σ h).st σ (kSI a b σ) := (rfl)
def kSet (i : Nat) (σ : LSt) (x : LV) (h1 : LH) : O := .nx (σ.set i (some x)) h1
@[simp] theorem k_set (i : Nat) (x : LV) : kSet i σ x h = .nx (σ.set i (some x)) h := (rfl)
@[simp] theorem x_set (i : Nat) (a : ME) : sSet i a σ h = (a σ h).st σ (kSet i σ) := (rfl)
def kAug2 (f : LV → LV → LH → R LV) (i : Nat) (σ : LSt) (x y : LV) (h2 : LH) : O := (f x y h2).st σ (kSet i σ)
def kAug (f : LV → LV → LH → R LV) (i : Nat) (a : ME) (σ : LSt) (x : LV) (h1 : LH) : O := (a σ h1).st σ (kAug2 f i σ x)
@[simp] theorem k_aug2 (f : LV → LV → LH → R LV) (i : Nat) (x y : LV) : kAug2 f i σ x y h = (f x y h).st σ (kSet i σ) := (rfl)
@[simp] theorem k_aug (f : LV → LV → LH → R LV) (i : Nat) (a : ME) (x : LV) : kAug f i a σ x h = (a σ h).st σ (kAug2 f i σ x) := (rfl)
@[simp] theorem x_aug (f : LV → LV → LH → R LV) (i : Nat) (a : ME) : sAug f i a σ h = (mVar i σ h).st σ (kAug f i a σ) := (rfl)
def kSub3 (σ : LSt) (v x y : LV) (h3 : LH) : O := (stIx x y v h3).st σ (kX σ)
def kSub2 (k : ME) (σ : LSt) (v x : LV) (h2 : LH) : O := (k σ h2).st σ (kSub3 σ v x)
def kSub (o k : ME) (σ : LSt) (v : LV) (h1 : LH) : O := (o σ h1).st σ (kSub2 k σ v)
@[simp] theorem k_sub3 (v x y : LV) : kSub3 σ v x y h = (stIx x y v h).st σ (kX σ) := (rfl)
@[simp] theorem k_sub2 (k : ME) (v x : LV) : kSub2 k σ v x h = (k σ h).st σ (kSub3 σ v x) := (rfl)
@[simp] theorem k_sub (o k : ME) (v : LV) : kSub o k σ v h = (o σ h).st σ (kSub2 k σ v) := (rfl)
@[simp] theorem x_put (o k a : ME) : sSub o k a σ h = (a σ h).st σ (kSub o k σ) := (rfl)
def kFor (g : MG) (body : MS) (σ : LSt) (w : List LV × (LH → Bool)) (h1 : LH) : O := forM w.2 g body w.1 σ h1
@[simp] theorem k_for (g : MG) (body : MS) (w : List LV × (LH → Bool)) : kFor g body σ w h = forM w.2 g body w.1 σ h := (rfl)
@[simp] theorem x_for (it : MI) (g : MG) (body : MS) : sFor it g body σ h = (it σ h).st σ (kFor g body σ) := (rfl)
theorem x_forN (chk : LH → Bool) (g : MG) (body : MS) : forM chk g body [] σ h = if chk h then .nx σ h else .bad := (rfl)
theorem x_forC (chk : LH → Bool) (g : MG) (body : MS) (x : LV) (xs : List LV) : forM chk g body (x :: xs) σ h = if chk h then match g x σ with
    | none => .bad
    | some σ1 => (body σ1 h).turn (forM chk g body xs) else .bad := by
  rw [forM]
  split
  · cases g x σ with
    | none => rfl
    | some σ1 => simp only; cases body σ1 h <;> rfl
  · rfl
@[simp] theorem x_forN' (g : MG) (body : MS) : forM always g body [] σ h = .nx σ h := (rfl)
theorem x_forC' (g : MG) (body : MS) (x : LV) (xs : List LV) {σ1 : LSt} (e : g x σ = some σ1) : forM always g body (x :: xs) σ h = (body σ1 h).turn (forM always g body xs) := by
  rw [x_forC, e]; rfl
theorem x_forC1 (i : Nat) (body : MS) (x : LV) (xs : List LV) : forM always (gNm i) body (x :: xs) σ h = (body (σ.set i (some x)) h).turn (forM always (gNm i) body xs) := x_forC' _ _ _ _ _ _ rfl
def kWh (t : MB) (body : MS) (n : Nat) (σ : LSt) (c : Bool) (h1 : LH) : O := if c then (body σ h1).turn (whileM t body n) else .nx σ h1
@[simp] theorem k_wh (t : MB) (body : MS) (n : Nat) (c : Bool) : kWh t body n σ c h = if c then (body σ h).turn (whileM t body n) else .nx σ h := (rfl)
theorem x_forTp (js : List Nat) (body : MS) (xs : List LV) (r : List LV) (e : xs.length = js.length) : forM always (gTp js) body (.tup xs :: r) σ h = (body (setS js xs σ) h).turn (forM always (gTp js) body r) := x_forC' _ _ _ _ _ _ (by unfold gTp; simp only; rw [if_pos e])
theorem x_while (t : MB) (body : MS) (n : Nat) : whileM t body (n + 1) σ h = (t σ h).st σ (kWh t body n σ) := by
  rw [whileM]
  cases t σ h with
  | ok c h1 =>
    simp only [R.st, kWh]
    split
    · cases body σ h1 <;> rfl
    · rfl
  | exc x h1 => rfl
  | bad => rfl
def kLc2 (n : Nat) (_ : Unit) (h2 : LH) : R LV := .ok (.loc n) h2
def kLc (g : MG) (t : MB) (e : ME) (vs : List Nat) (σ : LSt) (w : List LV × (LH → Bool)) (h1 : LH) : R LV := (lcM w.2 g t e (wipeL σ vs) h1.length w.1 (h1 ++ [.lst []])).nox.bind (kLc2 h1.length)
@[simp] theorem k_lc2 (n : Nat) (u : Unit) : kLc2 n u h = .ok (.loc n) h := (rfl)
@[simp] theorem k_lc (g : MG) (t : MB) (e : ME) (vs : List Nat) (w : List LV × (LH → Bool)) : kLc g t e vs σ w h = (lcM w.2 g t e (wipeL σ vs) h.length w.1 (h ++ [.lst []])).nox.bind (kLc2 h.length) := (rfl)
@[simp] theorem x_lc (it : MI) (g : MG) (t : MB) (e : ME) (vs : List Nat) : mLc it g t e vs σ h = (it σ h).bind (kLc g t e vs σ) := (rfl)
@[simp] theorem x_gnm (i : Nat) (v : LV) : gNm i v σ = some (σ.set i (some v)) := (rfl)
/-- the outcome of a try's body, then its clause -/
def O.tr (o : O) (sub : Nat → Bool) (i : Nat) (suite : Nat → LX → MS) : O := match o with
  | .exc x σ1 h1 => if sub x.cls then (if x.fs.isEmpty then unslot i (suite h1.length x (σ1.set i (some (.loc h1.length))) (h1 ++ [.exo])) else .bad) else .exc x σ1 h1
  | o => o
@[simp] theorem x_try0 (sub : Nat → Bool) (i : Nat) (b : MS) (su : Nat → LX → MS) : sTry0 sub i b su σ h = (b σ h).tr sub i su := by unfold sTry0 O.tr; cases b σ h <;> rfl
@[simp] theorem tr_nx (sub : Nat → Bool) (i : Nat) (su : Nat → LX → MS) : (O.nx σ h).tr sub i su = .nx σ h := (rfl)
@[simp] theorem tr_rt (v : LV) (sub : Nat → Bool) (i : Nat) (su : Nat → LX → MS) : (O.rt v h).tr sub i su = .rt v h := (rfl)
theorem tr_exc {x : LX} {sub : Nat → Bool} (i : Nat) (su : Nat → LX → MS) (e : sub x.cls = true) (f : x.fs = []) : (O.exc x σ h).tr sub i su = unslot i (su h.length x (σ.set i (some (.loc h.length))) (h ++ [.exo])) := by
  unfold O.tr; simp only [e, f, if_pos, List.isEmpty_nil]
@[simp] theorem u_nx (i : Nat) : unslot i (.nx σ h) = .nx (σ.set i none) h := (rfl)
@[simp] theorem u_rt (i : Nat) (v : LV) : unslot i (.rt v h) = .rt v h := (rfl)
@[simp] theorem x_raise (c : Nat) : sRaise c σ h = .exc ⟨c, []⟩ σ h := (rfl)
def kIsE (n : Nat) (b : Bool) (x : LV) (h1 : LH) : R LV := match x with
  | .loc m => if m = n then .ok (.bl b) h1 else .bad
  | _ => .bad
@[simp] theorem k_isE (n : Nat) (b : Bool) : kIsE n b (.loc n) h = .ok (.bl b) h := by simp [kIsE]
@[simp] theorem x_isE (n : Nat) (b : Bool) (a : ME) : mIsE n b a σ h = (a σ h).bind (kIsE n b) := (rfl)
/-! ### dicts whose keys are tuples -/
@[simp] theorem o_iaddT (a b : List LV) : opIAdd (.tup a) (.tup b) h = if a.length + b.length ≤ szL then .ok (.tup (a ++ b)) h else .bad := (rfl)
def kInT (md : ME) (σ : LSt) (xs : List LV) (h1 : LH) : R LV := if xs.length ≤ szL then (md σ h1).bind (inT xs) else .bad
@[simp] theorem k_inT (md : ME) (xs : List LV) : kInT md σ xs h = if xs.length ≤ szL then (md σ h).bind (inT xs) else .bad := (rfl)
@[simp] theorem x_inT (ta : MA) (md : ME) : mInT ta md σ h = (ta σ h).bind (kInT md σ) := (rfl)
theorem o_inDT {n : Nat} {kvs : List (List LKey × LV)} {xs : List LV} {ks : List LKey} (e : h[n]? = some (.dtt kvs)) (e2 : tkeys xs = some ks) : inT xs (.loc n) h = .ok (.bl (tget kvs ks).isSome) h := by simp only [inT, e, e2]
def kIxT2 (d : LV) (xs : List LV) (h2 : LH) : R LV := if xs.length ≤ szL then ixT d xs h2 else .bad
def kIxT (ta : MA) (σ : LSt) (d : LV) (h1 : LH) : R LV := (ta σ h1).bind (kIxT2 d)
@[simp] theorem k_ixT2 (d : LV) (xs : List LV) : kIxT2 d xs h = if xs.length ≤ szL then ixT d xs h else .bad := (rfl)
@[simp] theorem k_ixT (ta : MA) (d : LV) : kIxT ta σ d h = (ta σ h).bind (kIxT2 d) := (rfl)
@[simp] theorem x_ixT (md : ME) (ta : MA) : mIxT md ta σ h = (md σ h).bind (kIxT ta σ) := (rfl)
theorem o_ixDT {n : Nat} {kvs : List (List LKey × LV)} {xs : List LV} {ks : List LKey} {v : LV} (e : h[n]? = some (.dtt kvs)) (e2 : tkeys xs = some ks) (e3 : tget kvs ks = some v) : ixT (.loc n) xs h = .ok v h := by simp only [ixT, e, e2, e3]
def kDsT2 (n : Nat) (xs : List LV) (v : LV) (h2 : LH) : R LV := match tkeys xs, h2[n]? with
  | some ks, some (.dtt []) => .ok (.loc n) (h2.set n (.dtt [(ks, v)]))
  | _, _ => .bad
def kDsT (mv : ME) (σ : LSt) (n : Nat) (xs : List LV) (h1 : LH) : R LV := if xs.length ≤ szL then (mv σ h1).bind (kDsT2 n xs) else .bad
@[simp] theorem k_dsT (mv : ME) (n : Nat) (xs : List LV) : kDsT mv σ n xs h = if xs.length ≤ szL then (mv σ h).bind (kDsT2 n xs) else .bad := (rfl)
@[simp] theorem x_dspT (ta : MA) (mv : ME) : mDspT ta mv σ h = (ta σ (h ++ [.dtt []])).bind (kDsT mv σ h.length) := (rfl)
theorem o_dspT {n : Nat} {xs : List LV} {ks : List LKey} {v : LV} (e : h[n]? = some (.dtt [])) (e2 : tkeys xs = some ks) : kDsT2 n xs v h = .ok (.loc n) (h.set n (.dtt [(ks, v)])) := by simp only [kDsT2, e, e2]
/-! ### instances -/
theorem o_fld {cs f : List Nat} {n c : Nat} {fs : List (List Nat × LV)} {v : LV} (e : h[n]? = some (.ins c fs)) (hc : c ∈ cs) (hv : fs.lookup f = some v) : opFld cs f (.loc n) h = .ok v h := by
  simp only [opFld, e, hv]; rw [if_pos hc]
theorem st_fld {cs f : List Nat} {n c : Nat} {fs : List (List Nat × LV)} {v : LV} (e : h[n]? = some (.ins c fs)) (hc : c ∈ cs) (hl : fs.length < 1000) : stFld cs f (.loc n) v h = .ok () (h.set n (.ins c (fput f v fs))) := by
  simp only [stFld, e]; rw [if_pos ⟨hc, hl⟩]
def kFld3 (σ : LSt) (_ : Unit) (h3 : LH) : O := .nx σ h3
def kFld2 (cs f : List Nat) (σ : LSt) (v x : LV) (h2 : LH) : O := (stFld cs f x v h2).st σ (kFld3 σ)
def kFld (cs f : List Nat) (o : ME) (σ : LSt) (v : LV) (h1 : LH) : O := (o σ h1).st σ (kFld2 cs f σ v)
@[simp] theorem k_fld3 (u : Unit) : kFld3 σ u h = .nx σ h := (rfl)
@[simp] theorem k_fld2 (cs f : List Nat) (v x : LV) : kFld2 cs f σ v x h = (stFld cs f x v h).st σ (kFld3 σ) := (rfl)
@[simp] theorem k_fld (cs f : List Nat) (o : ME) (v : LV) : kFld cs f o σ v h = (o σ h).st σ (kFld2 cs f σ v) := (rfl)
@[simp] theorem x_fld (cs f : List Nat) (o a : ME) : sFld cs f o a σ h = (a σ h).st σ (kFld cs f o σ) := (rfl)
theorem cls_at {n c : Nat} {fs : List (List Nat × LV)} (e : h[n]? = some (.ins c fs)) : clsAt (.loc n) h = some c := by simp only [clsAt, e]
def kFa4 (cs f : List Nat) (σ : LSt) (x : LV) (k : Option Nat) (z : LV) (h4 : LH) : O := if k = clsAt x h4 then (stFld cs f x z h4).st σ (kFld3 σ) else .bad
def kFa3 (cs f : List Nat) (g : LV → LV → LH → R LV) (σ : LSt) (x : LV) (k : Option Nat) (v w : LV) (h3 : LH) : O := (g v w h3).st σ (kFa4 cs f σ x k)
def kFa2 (cs f : List Nat) (g : LV → LV → LH → R LV) (a : ME) (σ : LSt) (x : LV) (k : Option Nat) (v : LV) (h2 : LH) : O := (a σ h2).st σ (kFa3 cs f g σ x k v)
def kFa (cs f : List Nat) (g : LV → LV → LH → R LV) (a : ME) (σ : LSt) (x : LV) (h1 : LH) : O := (opFld cs f x h1).st σ (kFa2 cs f g a σ x (clsAt x h1))
@[simp] theorem k_fa4 (cs f : List Nat) (x z : LV) (k : Option Nat) : kFa4 cs f σ x k z h = if k = clsAt x h then (stFld cs f x z h).st σ (kFld3 σ) else .bad := (rfl)
@[simp] theorem k_fa3 (cs f : List Nat) (g : LV → LV → LH → R LV) (x v w : LV) (k : Option Nat) : kFa3 cs f g σ x k v w h = (g v w h).st σ (kFa4 cs f σ x k) := (rfl)
@[simp] theorem k_fa2 (cs f : List Nat) (g : LV → LV → LH → R LV) (a : ME) (x v : LV) (k : Option Nat) : kFa2 cs f g a σ x k v h = (a σ h).st σ (kFa3 cs f g σ x k v) := (rfl)
@[simp] theorem k_fa (cs f : List Nat) (g : LV → LV → LH → R LV) (a : ME) (x : LV) : kFa cs f g a σ x h = (opFld cs f x h).st σ (kFa2 cs f g a σ x (clsAt x h)) := (rfl)
@[simp] theorem x_fldaug (cs f : List Nat) (g : LV → LV → LH → R LV) (o a : ME) : sFldAug cs f g o a σ h = (o σ h).st σ (kFa cs f g a σ) := (rfl)
theorem mth_ok {m : List Nat} {tbl : List (Nat × Nat)} {n c i : Nat} {fs : List (List Nat × LV)} (e : h[n]? = some (.ins c fs)) (hm : fs.lookup m = none) (ht : tbl.lookup c = some i) : mth m tbl (.loc n) h = some i := by
  simp only [mth, e, hm, Option.isNone_none, if_true, ht]
def kMe2 (C : Or) (i : Nat) (x : LV) (xs : List LV) (h2 : LH) : R LV := C i (x :: xs) h2
@[simp] theorem k_me2 (C : Or) (i : Nat) (x : LV) (xs : List LV) : kMe2 C i x xs h = C i (x :: xs) h := (rfl)
def kMe (C : Or) (m : List Nat) (tbl : List (Nat × Nat)) (r : MA) (σ : LSt) (x : LV) (h1 : LH) : R LV := match mth m tbl x h1 with
  | some i => (r σ h1).bind (kMe2 C i x)
  | none => .bad
theorem k_me {C : Or} {m : List Nat} {tbl : List (Nat × Nat)} {r : MA} {x : LV} {i : Nat} (e : mth m tbl x h = some i) : kMe C m tbl r σ x h = (r σ h).bind (kMe2 C i x) := by simp only [kMe, e]
@[simp] theorem x_meth (C : Or) (m : List Nat) (tbl : List (Nat × Nat)) (a : ME) (r : MA) : mMeth C m tbl a r σ h = (a σ h).bind (kMe C m tbl r σ) := (rfl)
def kMk2 (n : Nat) (v : LV) (h2 : LH) : R LV := match v with
  | .non => .ok (.loc n) h2
  | _ => .bad
@[simp] theorem k_mk2 (n : Nat) : kMk2 n .non h = .ok (.loc n) h := (rfl)
def kMk (C : Or) (c i : Nat) (xs : List LV) (h1 : LH) : R LV := (C i (.loc h1.length :: xs) (h1 ++ [.ins c []])).bind (kMk2 h1.length)
@[simp] theorem k_mk (C : Or) (c i : Nat) (xs : List LV) : kMk C c i xs h = (C i (.loc h.length :: xs) (h ++ [.ins c []])).bind (kMk2 h.length) := (rfl)
@[simp] theorem x_make (C : Or) (c i : Nat) (r : MA) : mMake C c i r σ h = (r σ h).bind (kMk C c i) := (rfl)
def kUnp (g : MG) (σ : LSt) (x : LV) (h1 : LH) : O := match g x σ with
  | some σ1 => .nx σ1 h1
  | none => .bad
theorem k_unp {g : MG} {x : LV} {σ1 : LSt} (e : g x σ = some σ1) : kUnp g σ x h = .nx σ1 h := by simp only [kUnp, e]
@[simp] theorem k_unpT (js : List Nat) (xs : List LV) : kUnp (gTp js) σ (.tup xs) h = if xs.length = js.length then .nx (setS js xs σ) h else .bad := by
  simp only [kUnp, gTp]; split <;> simp_all
@[simp] theorem x_unp (g : MG) (a : ME) : sUnp g a σ h = (a σ h).st σ (kUnp g σ) := (rfl)
/-! ### what is walked -/
/-- a range that is made -/
def rgO (j : Int) (h : LH) : R (List LV × (LH → Bool)) := if big j then .ok (rng 0 j.toNat, always) h else .bad
def rgR (j : Int) (h : LH) : R (List LV × (LH → Bool)) := if big j then .ok ((rng 0 j.toNat).reverse, always) h else .bad
def rgO2 (i j : Int) (h : LH) : R (List LV × (LH → Bool)) := if big i && big j then .ok (rng i (j - i).toNat, always) h else .bad
def rg1 : LV → LH → R (List LV × (LH → Bool))
  | .int j, h => rgO j h
  | _, _ => .bad
def rg2 : LV → LV → LH → R (List LV × (LH → Bool))
  | .int i, .int j, h => rgO2 i j h
  | _, _, _ => .bad
def rgv : LV → LH → R (List LV × (LH → Bool))
  | .int j, h => rgR j h
  | _, _ => .bad
@[simp] theorem rg1_int (j : Int) : rg1 (.int j) h = rgO j h := by unfold rg1; rfl
@[simp] theorem rgv_int (j : Int) : rgv (.int j) h = rgR j h := by unfold rgv; rfl
@[simp] theorem rg2_int (i j : Int) : rg2 (.int i) (.int j) h = rgO2 i j h := by unfold rg2; rfl
@[simp] theorem x_range1 (a : ME) : iRange1 a σ h = (a σ h).bind rg1 := by
  unfold iRange1 rg1 rgO; congr 1; funext x h; cases x <;> rfl
def kRg2 (b : ME) (σ : LSt) (x : LV) (h1 : LH) : R (List LV × (LH → Bool)) := (b σ h1).bind (rg2 x)
@[simp] theorem k_rg2 (b : ME) (x : LV) : kRg2 b σ x h = (b σ h).bind (rg2 x) := (rfl)
@[simp] theorem x_range2 (a b : ME) : iRange2 a b σ h = (a σ h).bind (kRg2 b σ) := by
  unfold iRange2 kRg2 rg2 rgO2; congr 1; funext x h; congr 1; funext y h2; cases x <;> cases y <;> rfl
@[simp] theorem x_rev1 (a : ME) : iRevRange1 a σ h = (a σ h).bind rgv := by
  unfold iRevRange1 rgv rgR; congr 1; funext x h; cases x <;> rfl
theorem rgO_big {j : Int} (e : big j = true) : rgO j h = .ok (rng 0 j.toNat, always) h := by unfold rgO; rw [if_pos e]
theorem rgR_big {j : Int} (e : big j = true) : rgR j h = .ok ((rng 0 j.toNat).reverse, always) h := by unfold rgR; rw [if_pos e]
theorem rgO2_big {i j : Int} (e : big i = true) (f : big j = true) : rgO2 i j h = .ok (rng i (j - i).toNat, always) h := by unfold rgO2; rw [if_pos (by rw [e, f]; rfl)]
theorem big_nat {n : Nat} (h : n < 16777217) : big (n : Int) = true := by
  unfold big
  simp only [Bool.and_eq_true, decide_eq_true_eq]
  constructor <;> omega
theorem big_int {n : Int} (h0 : -16777217 < n) (h : n < 16777217) : big n = true := by
  unfold big
  simp only [Bool.and_eq_true, decide_eq_true_eq]
  constructor <;> omega
theorem rgO_nat {n : Nat} (e : n < 16777217) : rgO (n : Int) h = .ok (rng 0 n, always) h := by rw [rgO_big _ (big_nat e), Int.toNat_natCast]
theorem rgR_nat {n : Nat} (e : n < 16777217) : rgR (n : Int) h = .ok ((rng 0 n).reverse, always) h := by rw [rgR_big _ (big_nat e), Int.toNat_natCast]
def kSeq (x : LV) (h1 : LH) : R (List LV × (LH → Bool)) := match x with
  | .tup xs => .ok (xs, always) h1
  | .loc n => match rdL n h1 with
    | some xs => .ok (xs, keepsL n xs) h1
    | none => .bad
  | .str s => .ok (s.map fun c => .str [c], always) h1
  | _ => .bad
@[simp] theorem k_seqT (xs : List LV) : kSeq (.tup xs) h = .ok (xs, always) h := (rfl)
@[simp] theorem k_seqS (s : List Nat) : kSeq (.str s) h = .ok (s.map fun c => .str [c], always) h := (rfl)
theorem k_seqL {n : Nat} {xs : List LV} (e : rdL n h = some xs) : kSeq (.loc n) h = .ok (xs, keepsL n xs) h := by simp only [kSeq, e]
@[simp] theorem x_iseq (a : ME) : iSeqL a σ h = (a σ h).bind kSeq := by
  unfold iSeqL kSeq; rfl
def kEnum (x : LV) (h1 : LH) : R (List LV × (LH → Bool)) := match x with
  | .tup xs => .ok (enumL 0 xs, always) h1
  | _ => .bad
@[simp] theorem k_enum (xs : List LV) : kEnum (.tup xs) h = .ok (enumL 0 xs, always) h := (rfl)
@[simp] theorem x_enum (a : ME) : iEnumL a σ h = (a σ h).bind kEnum := by unfold iEnumL kEnum; rfl
@[simp] theorem x_always : always h = true := (rfl)
/-! ### values -/
@[simp] theorem t_non : tru .non h = .ok false h := (rfl)
@[simp] theorem t_bl (b : Bool) : tru (.bl b) h = .ok b h := (rfl)
@[simp] theorem t_int (i : Int) : tru (.int i) h = .ok (i != 0) h := (rfl)
@[simp] theorem t_tup (xs : List LV) : tru (.tup xs) h = .ok (!xs.isEmpty) h := (rfl)
@[simp] theorem o_addI (i j : Int) : opAdd (.int i) (.int j) h = .ok (.int (i + j)) h := (rfl)
@[simp] theorem o_addT (a b : List LV) : opAdd (.tup a) (.tup b) h = if a.length + b.length ≤ szL then .ok (.tup (a ++ b)) h else .bad := (rfl)
@[simp] theorem o_addS (a b : List Nat) : opAdd (.str a) (.str b) h = if a.length + b.length ≤ szL then .ok (.str (a ++ b)) h else .bad := (rfl)
theorem o_addL (a b : Nat) : opAdd (.loc a) (.loc b) h = match h[a]?, h[b]? with
    | some (.lst xs), some (.lst ys) => if xs.length + ys.length ≤ szL then .ok (.loc h.length) (h ++ [.lst (xs ++ ys)]) else .bad
    | _, _ => .bad := (rfl)
@[simp] theorem o_iaddI (i j : Int) : opIAdd (.int i) (.int j) h = .ok (.int (i + j)) h := (rfl)
@[simp] theorem o_iaddS (a b : List Nat) : opIAdd (.str a) (.str b) h = if a.length + b.length ≤ szL then .ok (.str (a ++ b)) h else .bad := (rfl)
@[simp] theorem o_sub (i j : Int) : opSub (.int i) (.int j) h = .ok (.int (i - j)) h := (rfl)
/-- a product, if one of the two is small -/
def muO (i j : Int) (h : LH) : R LV := if small i || small j then .ok (.int (i * j)) h else .bad
@[simp] theorem o_mulI (i j : Int) : opMul (.int i) (.int j) h = muO i j h := by unfold opMul muO; rfl
theorem small_int {i : Int} (h0 : -16777217 < i) (h : i < 16777217) : small i = true := by
  unfold small
  simp only [Bool.and_eq_true, decide_eq_true_eq]
  constructor <;> omega
theorem mu_l {i j : Int} (h0 : -16777217 < i) (h1 : i < 16777217) : muO i j h = .ok (.int (i * j)) h := by unfold muO; rw [small_int h0 h1]; rfl
theorem mu_r {i j : Int} (h0 : -16777217 < j) (h1 : j < 16777217) : muO i j h = .ok (.int (i * j)) h := by unfold muO; rw [small_int h0 h1, Bool.or_true]; rfl
@[simp] theorem o_mulL (a : Nat) (k : Int) : opMul (.loc a) (.int k) h = match h[a]? with
    | some (.lst xs) => if -(2 ^ 63) ≤ k ∧ k < 2 ^ 63 ∧ xs.length * k.toNat ≤ szL then .ok (.loc h.length) (h ++ [.lst (List.replicate k.toNat xs).flatten]) else .bad
    | _ => .bad := (rfl)
@[simp] theorem o_mod (i j : Int) : opMod (.int i) (.int j) h = if 0 < j then .ok (.int (i % j)) h else .bad := (rfl)
@[simp] theorem o_div (i j : Int) : opDiv (.int i) (.int j) h = if 0 < j ∧ j < 1073741824 then .ok (.int (i / j)) h else .bad := (rfl)
@[simp] theorem o_pow (i j : Int) : opPow (.int i) (.int j) h = if 0 ≤ j ∧ j ≤ 1000000 ∧ i.natAbs < 2 ^ 64 then .ok (.int (i ^ j.toNat)) h else .bad := (rfl)
@[simp] theorem o_neg (i : Int) : opNeg (.int i) h = .ok (.int (-i)) h := (rfl)
@[simp] theorem o_eqI (i j : Int) : opEq (.int i) (.int j) h = .ok (.bl (decide (i = j))) h := (rfl)
@[simp] theorem o_eqS (i j : List Nat) : opEq (.str i) (.str j) h = .ok (.bl (decide (i = j))) h := (rfl)
@[simp] theorem o_eqB (i j : Bool) : opEq (.bl i) (.bl j) h = .ok (.bl (decide (i = j))) h := (rfl)
@[simp] theorem o_neI (i j : Int) : opNe (.int i) (.int j) h = .ok (.bl (!decide (i = j))) h := (rfl)
@[simp] theorem o_neS (i j : List Nat) : opNe (.str i) (.str j) h = .ok (.bl (!decide (i = j))) h := (rfl)
@[simp] theorem o_cmp (p : Int → Int → Bool) (i j : Int) : opCmp p (.int i) (.int j) h = .ok (.bl (p i j)) h := (rfl)
@[simp] theorem o_isn (x : LV) : opIsN x h = .ok (.bl (isN x)) h := (rfl)
@[simp] theorem o_notn (x : LV) : opNotN x h = .ok (.bl (!isN x)) h := (rfl)
theorem o_inS (c : Nat) (t : List Nat) : opIn (.str [c]) (.str t) h = .ok (.bl (decide (c ∈ t))) h := (rfl)
theorem o_notInS (c : Nat) (t : List Nat) : opNotIn (.str [c]) (.str t) h = .ok (.bl (!decide (c ∈ t))) h := (rfl)
theorem strsL_map : ∀ ws : List (List Nat), strsL (ws.map .str) = some ws
  | [] => rfl
  | w :: r => by simp [strsL, strsL_map r]
theorem o_inT (s : List Nat) (ws : List (List Nat)) : opIn (.str s) (.tup (ws.map .str)) h = .ok (.bl (decide (s ∈ ws))) h := by
  simp only [opIn, inB, memL, strsL_map]
theorem f_max1T {xs : List LV} {ns : List Int} {m : Int} (e : intsL xs = some ns) (e2 : maxI ns = some m) : fMax1 [.tup xs] h = .ok (.int m) h := by
  simp only [fMax1, e, Option.bind_some, e2]
theorem f_max1L {n : Nat} {xs : List LV} {ns : List Int} {m : Int} (e0 : rdL n h = some xs) (e : intsL xs = some ns) (e2 : maxI ns = some m) : fMax1 [.loc n] h = .ok (.int m) h := by
  simp only [fMax1, e0, Option.bind_some, e, e2]
@[simp] theorem f_max2 (i j : Int) : fMax2 [.int i, .int j] h = .ok (.int (if j > i then j else i)) h := (rfl)
def kCallV (C : Or) (is : List Nat) (r : MA) (σ : LSt) (f : LV) (h1 : LH) : R LV := match f with
  | .fn i => if i ∈ is then (r σ h1).bind (C i) else .bad
  | _ => .bad
@[simp] theorem k_callV (C : Or) (is : List Nat) (r : MA) (i : Nat) : kCallV C is r σ (.fn i) h = if i ∈ is then (r σ h).bind (C i) else .bad := (rfl)
@[simp] theorem x_callV (C : Or) (is : List Nat) (a : ME) (r : MA) : mCallV C is a r σ h = (a σ h).bind (kCallV C is r σ) := (rfl)
theorem o_joinL {n : Nat} {s : List Nat} {ws : List (List Nat)} (e : h[n]? = some (.lst (ws.map .str))) (hz : (ws.map (·.length)).sum + ws.length * s.length ≤ 16777216) : opJoin (.str s) (.loc n) h = .ok (.str (joinS s ws)) h := by
  simp only [opJoin, rdL, e, Option.bind_some, strsL_map]
  rw [if_pos hz]
theorem o_ixS (s : List Nat) (i : Int) : opIx (.str s) (.int i) h = match (ixL s.length i).bind fun j => s[j]? with
    | some c => if s.length ≤ szL then .ok (.str [c]) h else .bad
    | none => .bad := (rfl)
theorem o_mulT {xs : List LV} {k : Int} (e : xs ≠ [] ∧ 2 ≤ k ∧ k ≤ 1000 ∧ xs.length ≤ 1000) : opMul (.tup xs) (.int k) h = .ok (.tup (List.replicate k.toNat xs).flatten) h := by
  simp only [opMul]; rw [if_pos ⟨by omega, e.2.2.1, e.2.2.2⟩]
theorem o_mulT2 {xs : List LV} {k : Int} (e : -16777216 ≤ k ∧ k ≤ 1000 ∧ xs.length ≤ 1000) : opMul (.tup xs) (.int k) h = .ok (.tup (List.replicate k.toNat xs).flatten) h := by
  simp only [opMul]; rw [if_pos e]
theorem o_eqT {xs ys : List LV} (e1 : LV.dat 64 (.tup xs) = true) (e2 : LV.dat 64 (.tup ys) = true) : opEq (.tup xs) (.tup ys) h = .ok (.bl (LV.eqvs xs ys)) h := by
  simp only [opEq, eqD, scalE, e1, e2, Bool.and_self, if_true, LV.eqv]
theorem f_sumL {n : Nat} {xs : List LV} {ns : List Int} (e : h[n]? = some (.lst xs)) (e2 : intsL xs = some ns) : fSum [.loc n] h = .ok (.int ns.sum) h := by
  simp only [fSum, rdL, e, Option.bind_some, e2]
@[simp] theorem o_ixT (xs : List LV) (i : Int) : opIx (.tup xs) (.int i) h = match (ixL xs.length i).bind fun j => xs[j]? with
    | some v => .ok v h
    | none => .bad := (rfl)
theorem o_ixL {n : Nat} {xs : List LV} {i : Int} (e : h[n]? = some (.lst xs)) : opIx (.loc n) (.int i) h = match (ixL xs.length i).bind fun j => xs[j]? with
    | some v => .ok v h
    | none => .bad := by simp only [opIx, e]; try rfl
theorem o_ixR {n : Nat} {xs : List LV} {i : Int} (e : h[n]? = some (.rol xs)) : opIx (.loc n) (.int i) h = match (ixL xs.length i).bind fun j => xs[j]? with
    | some v => .ok v h
    | none => .bad := by simp only [opIx, e]; try rfl
theorem o_ixD {n : Nat} {kvs : List (LKey × LV)} {i : Int} (e : h[n]? = some (.dct kvs)) : opIx (.loc n) (.int i) h = match kget kvs (.inl i) with
    | some v => .ok v h
    | none => .bad := by simp only [opIx, e, keyOf, Option.bind_some]; try rfl
@[simp] theorem o_slT (xs : List LV) (lo hi : Option Int) : opSl (.tup xs) lo hi h = .ok (.tup (cutL xs lo hi)) h := (rfl)
theorem o_slL {n : Nat} {xs : List LV} {lo hi : Option Int} (e : rdL n h = some xs) : opSl (.loc n) lo hi h = .ok (.loc h.length) (h ++ [.lst (cutL xs lo hi)]) := by simp only [opSl, e]
@[simp] theorem f_lenT (xs : List LV) : fLen [.tup xs] h = .ok (.int xs.length) h := (rfl)
@[simp] theorem f_lenS (s : List Nat) : fLen [.str s] h = if s.length ≤ szL then .ok (.int s.length) h else .bad := (rfl)
theorem f_lenL {n : Nat} {xs : List LV} (e : h[n]? = some (.lst xs)) : fLen [.loc n] h = .ok (.int xs.length) h := by simp only [fLen, e]
theorem f_lenR {n : Nat} {xs : List LV} (e : h[n]? = some (.rol xs)) : fLen [.loc n] h = .ok (.int xs.length) h := by simp only [fLen, e]
@[simp] theorem f_intI (i : Int) : fInt [.int i] h = .ok (.int i) h := (rfl)
@[simp] theorem f_tupT (xs : List LV) : fTuple [.tup xs] h = .ok (.tup xs) h := (rfl)
theorem f_tupL {n : Nat} {xs : List LV} (e : h[n]? = some (.lst xs)) : fTuple [.loc n] h = .ok (.tup xs) h := by simp only [fTuple, rdL, e]
@[simp] theorem y_non (t : Ty) : isTy t .non h = .ok (.bl false) h := (rfl)
@[simp] theorem y_bl (t : Ty) (b : Bool) : isTy t (.bl b) h = .ok (.bl (decide (t = .bool) || decide (t = .int))) h := (rfl)
@[simp] theorem y_int (t : Ty) (i : Int) : isTy t (.int i) h = .ok (.bl (decide (t = .int))) h := (rfl)
@[simp] theorem y_str (t : Ty) (s : List Nat) : isTy t (.str s) h = .ok (.bl (decide (t = .str))) h := (rfl)
@[simp] theorem y_tup (t : Ty) (s : List LV) : isTy t (.tup s) h = .ok (.bl (decide (t = .tuple))) h := (rfl)
theorem m_app {n : Nat} {xs : List LV} {y : LV} (e : h[n]? = some (.lst xs)) (hz : xs.length < szL) : mtAppend (.loc n) [y] h = .ok .non (h.set n (.lst (xs ++ [y]))) := by
  simp only [mtAppend, e]; rw [if_pos hz]
theorem m_ext {n m : Nat} {xs ys : List LV} (e : h[n]? = some (.lst xs)) (e2 : h[m]? = some (.lst ys)) (hz : xs.length + ys.length ≤ szL) : mtExtend (.loc n) [.loc m] h = .ok .non (h.set n (.lst (xs ++ ys))) := by
  simp only [mtExtend, e, e2]; rw [if_pos hz]
theorem o_addLL {a b : Nat} {xs ys : List LV} (e : h[a]? = some (.lst xs)) (e2 : h[b]? = some (.lst ys)) (hz : xs.length + ys.length ≤ szL) : opAdd (.loc a) (.loc b) h = .ok (.loc h.length) (h ++ [.lst (xs ++ ys)]) := by
  simp only [opAdd, e, e2]; rw [if_pos hz]
theorem is_lst {n : Nat} {xs : List LV} (e : h[n]? = some (.lst xs)) : isLst (.loc n) h = true := by simp only [isLst, e]
theorem is_dct {n : Nat} {xs : List (LKey × LV)} (e : h[n]? = some (.dct xs)) : isDct (.loc n) h = true := by simp only [isDct, e]
theorem m_get2 {n : Nat} {kvs : List (LKey × LV)} {i : Int} {d : LV} (e : h[n]? = some (.dct kvs)) : mtGet2 (.loc n) [.int i, d] h = .ok ((kget kvs (.inl i)).getD d) h := by
  simp only [mtGet2, e, keyOf]
theorem s_lst {n : Nat} {xs : List LV} {i : Int} {j : Nat} {v : LV} (e : h[n]? = some (.lst xs)) (hj : ixL xs.length i = some j) : stIx (.loc n) (.int i) v h = .ok () (h.set n (.lst (xs.set j v))) := by
  simp only [stIx, e, hj]
theorem s_dct {n : Nat} {kvs : List (LKey × LV)} {i : Int} {v : LV} (e : h[n]? = some (.dct kvs)) (hz : kvs.length < szL) : stIx (.loc n) (.int i) v h = .ok () (h.set n (.dct (kput kvs (.inl i) v))) := by
  simp only [stIx, e, keyOf]; rw [if_pos hz]
end
theorem ixL_nat {n i : Nat} (h : i < n) : ixL n (i : Int) = some i := by
  unfold ixL
  rw [if_pos (by omega), if_pos (by omega)]
  simp
theorem ixL_int {n : Nat} {i : Int} (h0 : 0 ≤ i) (h : i < n) : ixL n i = some i.toNat := by
  unfold ixL
  rw [if_pos h0, if_pos h]
end Mi
namespace Mi
/-! Lemmas on what is left behind a def, on loops, on boxes of drawn digits; the statements of the little language. -/
/-- a property, of which simp changes the thing only -/
def Post {α : Type} (Q : α → Prop) (o : α) : Prop := Q o
theorem Post.out {α : Type} {Q : α → Prop} {o : α} (h : Post Q o) : Q o := h
theorem Post.mk {α : Type} {Q : α → Prop} {o : α} (h : Q o) : Post Q o := h
theorem shut_pre {n : Nat} {h0 h : LH} (hl : n ≤ h.length) (hs : ∀ i o, i < n → h[i]? = some o → o.lim n = true ∨ h0[i]? = some o) : shut n h0 h = true := by
  unfold shut
  rw [List.all_eq_true]
  intro i hi
  have hi' : i < n := List.mem_range.mp hi
  have hlt : i < h.length := by omega
  rw [List.getElem?_eq_getElem hlt]
  simp only [Bool.or_eq_true, decide_eq_true_eq]
  exact hs i _ hi' (List.getElem?_eq_getElem hlt)
theorem gc_pre {lim : Nat → Bool} {h0 h1 g : LH} (hl : h1.length = h0.length) (hm : lim h0.length = true)
    (hs : ∀ i o, i < h0.length → h1[i]? = some o → o.lim h0.length = true ∨ h0[i]? = some o) : gc lim h0 (h1 ++ g) = h1 := by
  unfold gc
  rw [hm, shut_pre (by simp; omega) (fun i o hi ho => hs i o hi (by rw [List.getElem?_append_left (by omega)] at ho; exact ho))]
  simp [← hl]
theorem gc_same {lim : Nat → Bool} {h0 g : LH} (hm : lim h0.length = true) : gc lim h0 (h0 ++ g) = h0 :=
  gc_pre rfl hm fun i o _ ho => .inr ho
theorem gc_self {lim : Nat → Bool} {h0 : LH} : gc lim h0 h0 = h0 := by
  have h2 : h0.take (h0.length + 1) = h0 := List.take_of_length_le (by omega)
  have h1 : h0.take h0.length = h0 := List.take_length
  unfold gc; split
  · exact h1
  · split
    · exact h2
    · rfl
theorem gc_len {lim : Nat → Bool} {h0 h : LH} (hl : h.length = h0.length) : gc lim h0 h = h := by
  have h2 : h.take (h0.length + 1) = h := List.take_of_length_le (by omega)
  have h1 : h.take h0.length = h := List.take_of_length_le (by omega)
  unfold gc; split
  · exact h1
  · split
    · exact h2
    · rfl
/-- one place is left -/
theorem gc_one {lim : Nat → Bool} {h0 h1 g : LH} (hl : h1.length = h0.length + 1) (hn : lim h0.length = false) (hm : lim (h0.length + 1) = true)
    (hs : ∀ i o, i < h0.length + 1 → h1[i]? = some o → o.lim (h0.length + 1) = true ∨ h0[i]? = some o) : gc lim h0 (h1 ++ g) = h1 := by
  unfold gc
  rw [hn, hm, shut_pre (n := h0.length + 1) (by simp; omega) (fun i o hi ho => hs i o hi (by rw [List.getElem?_append_left (by omega)] at ho; exact ho))]
  simp [← hl]
theorem gc_none {lim : Nat → Bool} {h0 h : LH} (hn : lim h0.length = false) (hm : lim (h0.length + 1) = false) : gc lim h0 h = h := by
  unfold gc; rw [hn, hm]; simp
@[simp] theorem lim_int (i : Int) (n : Nat) : LV.lim n (.int i) = true := rfl
@[simp] theorem lim_bl (i : Bool) (n : Nat) : LV.lim n (.bl i) = true := rfl
@[simp] theorem lim_str (i : List Nat) (n : Nat) : LV.lim n (.str i) = true := rfl
@[simp] theorem lim_non (n : Nat) : LV.lim n .non = true := rfl
@[simp] theorem lim_loc (m n : Nat) : LV.lim n (.loc m) = decide (m < n) := rfl
@[simp] theorem lim_tup (xs : List LV) (n : Nat) : LV.lim n (.tup xs) = LV.lims n xs := rfl
@[simp] theorem lims_nil (n : Nat) : LV.lims n [] = true := rfl
@[simp] theorem lims_cons (x : LV) (r : List LV) (n : Nat) : LV.lims n (x :: r) = (LV.lim n x && LV.lims n r) := rfl
theorem lims_app (n : Nat) : ∀ (a b : List LV), LV.lims n (a ++ b) = (LV.lims n a && LV.lims n b)
  | [], b => by simp
  | x :: r, b => by simp [lims_app n r b, Bool.and_assoc]
theorem lims_all {n : Nat} : ∀ {xs : List LV}, (∀ x ∈ xs, x.lim n = true) → LV.lims n xs = true
  | [], _ => rfl
  | x :: r, h => by rw [lims_cons, h x (by simp), lims_all fun y hy => h y (by simp [hy])]; rfl
/-- a value without places -/
def LV.pl (x : LV) : Bool := x.lim 0
mutual
theorem LV.lim_mono {m n : Nat} (hmn : m ≤ n) : ∀ (x : LV), x.lim m = true → x.lim n = true
  | .non, _ | .bl _, _ | .int _, _ | .str _, _ | .fn _, _ => rfl
  | .loc k, h => by simp at h ⊢; omega
  | .tup xs, h => by rw [lim_tup] at h ⊢; exact LV.lims_mono hmn xs h
theorem LV.lims_mono {m n : Nat} (hmn : m ≤ n) : ∀ (xs : List LV), LV.lims m xs = true → LV.lims n xs = true
  | [], _ => rfl
  | x :: r, h => by
    rw [lims_cons, Bool.and_eq_true] at h ⊢
    exact ⟨LV.lim_mono hmn x h.1, LV.lims_mono hmn r h.2⟩
end
theorem pl_lim {x : LV} (h : x.lim 0 = true) (n : Nat) : x.lim n = true := LV.lim_mono (by omega) x h
/-! ### ends of defs -/
theorem end_rt_same {h0 g : LH} {v : LV} (hv : v.lim h0.length = true) : fnEnd h0 (.rt v (h0 ++ g)) = .ok v h0 := by
  unfold fnEnd; simp only; rw [gc_same hv]
theorem end_rt_self {h0 : LH} {v : LV} : fnEnd h0 (.rt v h0) = .ok v h0 := by
  unfold fnEnd; simp only; rw [gc_self]
theorem end_rt_len {h0 h : LH} {v : LV} (hl : h.length = h0.length) : fnEnd h0 (.rt v h) = .ok v h := by
  unfold fnEnd; simp only; rw [gc_len hl]
/-! ### boxes of drawn digits -/
/-- the box at b, whose digits are at d, moved on to a -/
def adv (h : LH) (b d a : Nat) : LH := h.set b (.lst [.loc d, .int a])
structure Bx (h : LH) (b d : Nat) (ds : List Int) : Prop where
  hb : b < h.length
  hd : h[d]? = some (.lst (ds.map .int))
  hn : b ≠ d
theorem Bx.hdl {h : LH} {b d : Nat} {ds : List Int} (B : Bx h b d ds) : d < h.length := (List.getElem?_eq_some_iff.mp B.hd).1
@[simp] theorem adv_len (h : LH) (b d a : Nat) : (adv h b d a).length = h.length := by simp [adv]
theorem adv_b {h : LH} {b d a : Nat} {ds : List Int} (B : Bx h b d ds) (L : LH) : (adv h b d a ++ L)[b]? = some (.lst [.loc d, .int a]) := by
  rw [List.getElem?_append_left (by simp; exact B.hb)]; simp [adv, B.hb]
theorem adv_d {h : LH} {b d a : Nat} {ds : List Int} (B : Bx h b d ds) (L : LH) : (adv h b d a ++ L)[d]? = some (.lst (ds.map .int)) := by
  rw [List.getElem?_append_left (by simp; exact B.hdl)]; unfold adv; rw [List.getElem?_set_ne B.hn]; exact B.hd
theorem adv_set {h : LH} {b d a a' : Nat} {ds : List Int} (B : Bx h b d ds) (L : LH) : (adv h b d a ++ L).set b (.lst [.loc d, .int a']) = adv h b d a' ++ L := by
  rw [List.set_append_left _ _ (by simp; exact B.hb)]; simp [adv]
theorem adv_set0 {h : LH} {b d a a' : Nat} : (adv h b d a).set b (.lst [.loc d, .int a']) = adv h b d a' := by simp [adv]
theorem adv_o {h : LH} {b d a i : Nat} {o : LO} (hi : (adv h b d a)[i]? = some o) (hd : d < h.length) : o.lim h.length = true ∨ h[i]? = some o := by
  unfold adv at hi
  by_cases e : b = i
  · subst e
    by_cases hb : b < h.length
    · rw [List.getElem?_set_self hb] at hi; injection hi with hi; subst hi; left; simp [LO.lim, hd]
    · rw [List.getElem?_eq_none (by simp; omega)] at hi; cases hi
  · rw [List.getElem?_set_ne e] at hi; exact .inr hi
theorem gc_adv {lim : Nat → Bool} {h : LH} {b d a : Nat} {ds : List Int} (B : Bx h b d ds) (hm : lim h.length = true) (L : LH) : gc lim h (adv h b d a ++ L) = adv h b d a :=
  gc_pre (by simp) hm fun i o _ ho => adv_o ho B.hdl
/-- the box is where it began -/
theorem adv_self {h : LH} {b d a : Nat} (hb : h[b]? = some (.lst [.loc d, .int a])) : adv h b d a = h := by
  unfold adv
  obtain ⟨hl, he⟩ := List.getElem?_eq_some_iff.mp hb
  rw [← he]; exact List.set_getElem_self hl
theorem Bx.of {h : LH} {b d a : Nat} {ds : List Int} (hb : h[b]? = some (.lst [.loc d, .int a])) (hd : h[d]? = some (.lst (ds.map .int))) : Bx h b d ds where
  hb := (List.getElem?_eq_some_iff.mp hb).1
  hd := hd
  hn := by
    intro e; subst e; rw [hb] at hd
    cases ds with
    | nil => simp at hd
    | cons a r => simp at hd
/-- the box, seen from a heap that is its base and more -/
theorem Bx.app {h : LH} {b d : Nat} {ds : List Int} (B : Bx h b d ds) (a : Nat) (L : LH) : Bx (adv h b d a ++ L) b d ds :=
  Bx.of (adv_b B L) (adv_d B L)
theorem adv_app {h : LH} {b d a a' : Nat} {ds : List Int} (B : Bx h b d ds) (L : LH) : adv (adv h b d a ++ L) b d a' = adv h b d a' ++ L := adv_set B L
/-- a drawn digit -/
def drw (ds : List Int) (at' : Nat) (m : Int) : Int := match ds[at']? with
  | some x => x % m
  | none => 0
theorem drw_lo {ds : List Int} {a : Nat} {m : Int} (h : 0 < m) : 0 ≤ drw ds a m := by
  unfold drw; split
  · exact Int.emod_nonneg _ (by omega)
  · exact Int.le_refl 0
theorem drw_hi {ds : List Int} {a : Nat} {m : Int} (h : 0 < m) : drw ds a m < m := by
  unfold drw; split
  · exact Int.emod_lt_of_pos _ h
  · exact h
theorem ixL_ok (n i : Nat) (h : i < n) : ixL n (i : Int) = some i := ixL_nat h
theorem ix1 (n : Nat) (h : 1 < n) : ixL n 1 = some 1 := ixL_nat (i := 1) h
theorem ix0 (n : Nat) (h : 0 < n) : ixL n 0 = some 0 := ixL_nat (i := 0) h
theorem ix2 (n : Nat) (h : 2 < n) : ixL n 2 = some 2 := ixL_nat (i := 2) h
theorem ix_drw {n : Nat} {i : Int} (h0 : 0 ≤ i) (h : i < n) : ∃ j : Nat, j < n ∧ ixL n i = some j ∧ i = j := by
  refine ⟨i.toNat, by omega, ixL_int h0 h, by omega⟩
/-! ### comprehensions -/
theorem lc_map {σ : LSt} {g : MG} {e : ME} {h0 : LH} {D : Nat} (f : LV → LV) (hD : D = h0.length) : ∀ (xs ys : List LV),
    (∀ x ∈ xs, ∃ σ1, g x σ = some σ1 ∧ ∀ zs, e σ1 (h0 ++ [.lst zs]) = .ok (f x) (h0 ++ [.lst zs])) → ys.length + xs.length ≤ szL →
    lcM always g bYes e σ D xs (h0 ++ [.lst ys]) = .ok () (h0 ++ [.lst (ys ++ xs.map f)])
  | [], ys, _, _ => by simp [lcM, always]
  | x :: xs, ys, H, hl => by
    obtain ⟨σ1, hg, he⟩ := H x (by simp)
    simp only [List.length_cons] at hl
    have := lc_map (σ := σ) (g := g) (e := e) f hD xs (ys ++ [f x]) (fun y hy => H y (by simp [hy])) (by simp; omega)
    rw [lcM]
    simp [hg, bYes, he, hD, always]
    rw [if_pos (by omega)]
    simp [hD] at this
    exact this
theorem rng_ln (lo : Int) (n : Nat) : (rng lo n).length = n := by simp [rng]

/-! ### the statements of the little language -/
inductive Sm where
  | say (w : List Nat) | pause | start (t : Int) (nm : List Nat) | wait (nm : List Nat) | adopt (nm : List Nat) | ret | fail
  | try_ (a b : List Sm) | rep (n : Int) (b : List Sm)
mutual
def Sm.enc : Sm → LV
  | .say w => .tup [.str [115, 97, 121], .str w]
  | .pause => .tup [.str [112, 97, 117, 115, 101]]
  | .start t nm => .tup [.str [115, 116, 97, 114, 116], .int t, .str nm]
  | .wait nm => .tup [.str [119, 97, 105, 116], .str nm]
  | .adopt nm => .tup [.str [97, 100, 111, 112, 116], .str nm]
  | .ret => .tup [.str [114, 101, 116, 117, 114, 110]]
  | .fail => .tup [.str [102, 97, 105, 108]]
  | .try_ a b => .tup [.str [116, 114, 121], .tup (Sm.encs a), .tup (Sm.encs b)]
  | .rep n b => .tup [.str [114, 101, 112, 101, 97, 116], .int n, .tup (Sm.encs b)]
def Sm.encs : List Sm → List LV
  | [] => []
  | s :: r => Sm.enc s :: Sm.encs r
end
theorem encs_app : ∀ (a b : List Sm), Sm.encs (a ++ b) = Sm.encs a ++ Sm.encs b
  | [], b => by simp [Sm.encs]
  | s :: r, b => by simp [Sm.encs, encs_app r b]
theorem encs_map : ∀ (a : List Sm), Sm.encs a = a.map Sm.enc
  | [] => by simp [Sm.encs]
  | s :: r => by simp [Sm.encs, encs_map r]
theorem encs_len (a : List Sm) : (Sm.encs a).length = a.length := by simp [encs_map]
mutual
theorem enc_pl : ∀ s : Sm, (Sm.enc s).lim 0 = true
  | .say w | .pause | .start t nm | .wait nm | .adopt nm | .ret | .fail => by simp [Sm.enc]
  | .try_ a b => by simp [Sm.enc, encs_pl a, encs_pl b]
  | .rep n b => by simp [Sm.enc, encs_pl b]
theorem encs_pl : ∀ s : List Sm, LV.lims 0 (Sm.encs s) = true
  | [] => by simp [Sm.encs]
  | s :: r => by simp [Sm.encs, enc_pl s, encs_pl r]
end
theorem blk_pl (n : Nat) (s : List Sm) : LV.lim n (.tup (Sm.encs s)) = true := pl_lim (by simp [encs_pl]) n
abbrev wordsL : List (List Nat) := [[97], [98], [99], [100], [101, 48], [120], [57], [108, 111, 110, 103, 101, 114, 57, 57]]
abbrev namesL : List (List Nat) := [[97], [98], [97], [99], [100], [97]]
mutual
/-- a statement as it is drawn: for a body, of so many bodies; how deep at most -/
def Sm.ok (lo hi : Nat) : Sm → Nat → Prop
  | .say w, _ => w ∈ wordsL
  | .pause, _ => True
  | .start t nm, _ => (lo : Int) < t ∧ t < (hi : Int) ∧ nm ∈ namesL
  | .wait nm, _ => nm ∈ namesL
  | .adopt nm, _ => nm ∈ namesL
  | .ret, _ => True
  | .fail, _ => True
  | .try_ a b, d => 0 < d ∧ Sm.oks lo hi a (d - 1) ∧ Sm.oks lo hi b (d - 1) ∧ a.length ≤ 3 ∧ b.length ≤ 2
  | .rep n b, d => 0 < d ∧ (0 ≤ n ∧ n ≤ 3) ∧ Sm.oks lo hi b (d - 1) ∧ b.length ≤ 3
def Sm.oks (lo hi : Nat) : List Sm → Nat → Prop
  | [], _ => True
  | s :: r, d => Sm.ok lo hi s d ∧ Sm.oks lo hi r d
end
theorem oks_app (lo hi d : Nat) : ∀ (a b : List Sm), Sm.oks lo hi a d → Sm.oks lo hi b d → Sm.oks lo hi (a ++ b) d
  | [], b, _, h => h
  | s :: r, b, h1, h2 => by
    simp only [Sm.oks] at h1
    simp only [List.cons_append, Sm.oks]
    exact ⟨h1.1, oks_app lo hi d r b h1.2 h2⟩
/-- an item of a tuple of words -/
theorem ix_words {ws : List (List Nat)} {i : Int} {h : LH} (h0 : 0 ≤ i) (hi : i < ws.length) : ∃ w, w ∈ ws ∧ opIx (.tup (ws.map .str)) (.int i) h = .ok (.str w) h := by
  obtain ⟨j, hj, e, rfl⟩ := ix_drw h0 hi
  refine ⟨ws[j], by simp, ?_⟩
  simp [e, hj]
mutual
/-- what a statement counts, of started bodies z -/
def Sm.w (z : Int → Int) : Sm → Int
  | .start t _ => 1 + z t
  | .try_ a b => 2 + (1 + Sm.ws z a) + (1 + Sm.ws z b)
  | .rep n b => 2 + n * (1 + (1 + Sm.ws z b))
  | .say _ | .pause | .wait _ | .adopt _ | .ret | .fail => 1
def Sm.ws (z : Int → Int) : List Sm → Int
  | [] => 0
  | s :: r => Sm.w z s + Sm.ws z r
end
mutual
def Sm.cnt : Sm → Int
  | .try_ a b => 1 + Sm.cnts a + Sm.cnts b
  | .rep _ b => 1 + Sm.cnts b
  | .say _ | .pause | .wait _ | .adopt _ | .ret | .fail | .start _ _ => 1
def Sm.cnts : List Sm → Int
  | [] => 0
  | s :: r => Sm.cnt s + Sm.cnts r
end
/-! ### what is kept -/
/-- the heap h0, and more -/
def Keep (h0 H : LH) : Prop := ∃ G, H = h0 ++ G
theorem Keep.refl {h : LH} : Keep h h := ⟨[], by simp⟩
theorem Keep.app {h0 H : LH} (K : Keep h0 H) (L : LH) : Keep h0 (H ++ L) := by
  obtain ⟨G, rfl⟩ := K; exact ⟨G ++ L, by simp⟩
theorem Keep.len {h0 H : LH} (K : Keep h0 H) : h0.length ≤ H.length := by
  obtain ⟨G, rfl⟩ := K; simp
theorem Keep.get {h0 H : LH} (K : Keep h0 H) {i : Nat} {o : LO} (h : h0[i]? = some o) : H[i]? = some o := by
  obtain ⟨G, rfl⟩ := K
  rw [List.getElem?_append_left (List.getElem?_eq_some_iff.mp h).1]; exact h
theorem Keep.set {h0 H : LH} (K : Keep h0 H) {i : Nat} {o : LO} (h : h0.length ≤ i) : Keep h0 (H.set i o) := by
  obtain ⟨G, rfl⟩ := K
  exact ⟨G.set (i - h0.length) o, by rw [List.set_append_right _ _ h]⟩
theorem Keep.adv {h0 H : LH} (K : Keep h0 H) {b d a : Nat} (h : h0.length ≤ b) : Keep h0 (adv H b d a) := K.set h
theorem Keep.trans {h0 H H2 : LH} (K : Keep h0 H) (L : Keep H H2) : Keep h0 H2 := by
  obtain ⟨G, rfl⟩ := K; obtain ⟨G2, rfl⟩ := L; exact ⟨G ++ G2, by simp⟩
theorem Keep.gc {h0 H : LH} (K : Keep h0 H) {lim : Nat → Bool} (hm : lim h0.length = true) : gc lim h0 H = h0 := by
  obtain ⟨G, rfl⟩ := K; exact gc_same hm
theorem Keep.end_ {h0 H : LH} (K : Keep h0 H) {v : LV} (hm : v.lim 0 = true) : fnEnd h0 (.rt v H) = .ok v h0 := by
  unfold fnEnd; simp only; rw [K.gc (pl_lim hm _)]
theorem adv_ne {H : LH} {b d a i : Nat} (h : b ≠ i) : (adv H b d a)[i]? = H[i]? := by unfold adv; rw [List.getElem?_set_ne h]
/-! ### ranges -/
abbrev rg (i m : Nat) : List LV := (List.range' i m).map fun (k : Nat) => LV.int (k : Int)
theorem rng_rg (n : Nat) : rng 0 n = rg 0 n := by simp [rng, rg, List.range_eq_range']
theorem rg_succ (i m : Nat) : rg i (m + 1) = .int (i : Int) :: rg (i + 1) m := by simp [rg, List.range'_succ]
theorem rng_rev (n : Nat) : (rng 0 (n + 1)).reverse = .int (n : Int) :: (rng 0 n).reverse := by simp [rng, List.range_succ]
/-! ### dicts -/
theorem kget_put (kvs : List (LKey × LV)) (k : LKey) (v : LV) (j : LKey) : kget (kput kvs k v) j = if j = k then some v else kget kvs j := by
  unfold kput
  by_cases hk : (kvs.any fun kv => decide (kv.1 = k)) = true
  · rw [if_pos hk]
    induction kvs with
    | nil => simp at hk
    | cons a r ih =>
      simp only [List.map_cons, kget, List.find?_cons]
      by_cases ha : a.1 = k
      · rw [if_pos ha]
        by_cases hj : j = k
        · rw [if_pos hj]; simp [ha, hj]
        · rw [if_neg hj]
          have h1 : ¬ k = j := fun e => hj e.symm
          simp only [ha, h1, decide_false, Bool.false_eq_true]
          clear ih hk
          induction r with
          | nil => simp
          | cons b r ih2 =>
            simp only [List.map_cons, List.find?_cons]
            by_cases hb : b.1 = k
            · rw [if_pos hb]; simp only [hb, h1, decide_false]; exact ih2
            · rw [if_neg hb]
              by_cases hbj : b.1 = j
              · simp [hbj]
              · simp only [hbj, decide_false]; exact ih2
      · rw [if_neg ha]
        have hr : (r.any fun kv => decide (kv.1 = k)) = true := by simpa [ha] using hk
        have := ih hr
        simp only [kget] at this
        by_cases haj : a.1 = j
        · have : ¬ j = k := fun e => ha (haj.trans e)
          simp [haj, this]
        · simp only [haj, decide_false]; exact this
  · rw [if_neg hk]
    have hk' : ∀ x ∈ kvs, x.1 ≠ k := fun x hx e => hk (List.any_eq_true.mpr ⟨x, hx, by simp [e]⟩)
    by_cases hj : j = k
    · subst hj
      rw [if_pos rfl, kget, List.find?_append, List.find?_eq_none.mpr (by simpa using hk')]
      simp
    · rw [if_neg hj, kget, kget, List.find?_append]
      have : ¬ k = j := fun e => hj e.symm
      cases hf : List.find? (fun kv => decide (kv.1 = j)) kvs with
      | none => simp [this]
      | some x => simp
theorem kput_len (kvs : List (LKey × LV)) (k : LKey) (v : LV) : (kput kvs k v).length ≤ kvs.length + 1 := by
  unfold kput; split <;> simp
/-- a program's bodies -/
def encP (p : List (List Sm)) : List LV := p.map fun b => .tup (Sm.encs b)
@[simp] theorem encP_nil : encP [] = [] := (rfl)
@[simp] theorem encP_len (p : List (List Sm)) : (encP p).length = p.length := by simp [encP]
theorem encP_get (p : List (List Sm)) (i : Nat) : (encP p)[i]? = p[i]?.map fun b => .tup (Sm.encs b) := by simp [encP]
theorem encP_app (p q : List (List Sm)) : encP (p ++ q) = encP p ++ encP q := by simp [encP]
theorem encP_set (p : List (List Sm)) (i : Nat) (b : List Sm) : encP (p.set i b) = (encP p).set i (.tup (Sm.encs b)) := by simp [encP, List.map_set]
theorem encP_pl (p : List (List Sm)) : LV.lim 0 (.tup (encP p)) = true := by
  rw [lim_tup]; exact lims_all (by intro x hx; simp [encP] at hx; obtain ⟨b, _, rfl⟩ := hx; exact blk_pl 0 b)
/-- each body as it is drawn -/
def okP (n : Nat) (p : List (List Sm)) : Prop := ∀ (i : Nat) (b : List Sm), p[i]? = some b → Sm.oks i n b 2 ∧ b.length ≤ 50
/-! ### plain values -/
mutual
/-- no place, no function -/
def LV.pn : LV → Bool
  | .loc _ => false
  | .fn _ => false
  | .tup xs => LV.pns xs
  | _ => true
def LV.pns : List LV → Bool
  | [] => true
  | x :: r => LV.pn x && LV.pns r
end
theorem pns_get : ∀ {xs : List LV} {i : Nat} {x : LV}, LV.pns xs = true → xs[i]? = some x → x.pn = true
  | [], i, x, _, h => by simp at h
  | y :: r, 0, x, hp, h => by
    rw [LV.pns, Bool.and_eq_true] at hp; simp at h; subst h; exact hp.1
  | y :: r, i + 1, x, hp, h => by
    rw [LV.pns, Bool.and_eq_true] at hp; simp at h; exact pns_get hp.2 h
theorem pns_all : ∀ {xs : List LV}, (∀ x ∈ xs, x.pn = true) → LV.pns xs = true
  | [], _ => rfl
  | x :: r, h => by rw [LV.pns, h x (by simp), pns_all fun y hy => h y (by simp [hy])]; rfl
/-- how deep tuples lie at most -/
def LV.dok : Nat → LV → Prop
  | 0, .tup _ => False
  | d + 1, .tup xs => xs.length < 16777216 ∧ ∀ x ∈ xs, LV.dok d x
  | _, _ => True
theorem bls_map {α : Type} (g : α → Bool) : ∀ xs : List α, bls (xs.map fun v => .bl (g v)) = some (xs.map g)
  | [] => rfl
  | x :: r => by simp [bls, bls_map g r]
theorem all_same (as bs : List LV) (hl : as.length = bs.length) : ((List.range bs.length).all fun i => decide (as[i]? = bs[i]?)) = decide (as = bs) := by
  by_cases e : as = bs
  · subst e; simp
  · rw [decide_eq_false e]
    rw [Bool.eq_false_iff]
    intro h
    rw [List.all_eq_true] at h
    apply e
    apply List.ext_getElem?
    intro i
    by_cases hi : i < bs.length
    · have := h i (List.mem_range.mpr hi); simpa using this
    · rw [List.getElem?_eq_none (by omega), List.getElem?_eq_none (by omega)]
theorem f_allL (h : LH) {n : Nat} {xs : List LV} {bs : List Bool} (e : h[n]? = some (.lst xs)) (e2 : bls xs = some bs) : fAll [.loc n] h = .ok (.bl (bs.all id)) h := by
  simp only [fAll, rdL, e, Option.bind_some, e2]
theorem f_anyL (h : LH) {n : Nat} {xs : List LV} {bs : List Bool} (e : h[n]? = some (.lst xs)) (e2 : bls xs = some bs) : fAny [.loc n] h = .ok (.bl (bs.any id)) h := by
  simp only [fAny, rdL, e, Option.bind_some, e2]
/-! ### sizes, told from the end -/
def upd (z : Int → Int) (j : Nat) (v : Int) : Int → Int := fun t => if t = (j : Int) then v else z t
def zrun (p : List (List Sm)) : Nat → (Int → Int) → (Int → Int)
  | 0, z => z
  | m + 1, z => zrun p m (upd z m (1 + (1 + Sm.ws z ((p[m]?).getD []))))
theorem kget_upd {kvs : List (LKey × LV)} {z : Int → Int} {dv : Int} (hz : ∀ t : Int, (kget kvs (.inl t)).getD (.int dv) = .int (z t)) (j : Nat) (v : Int) (t : Int) :
    (kget (kput kvs (.inl (j : Int)) (.int v)) (.inl t)).getD (.int dv) = .int (upd z j v t) := by
  rw [kget_put]; unfold upd
  by_cases e : t = (j : Int)
  · subst e; simp
  · have : ¬ (Sum.inl t : LKey) = Sum.inl (j : Int) := by intro h; injection h with h; exact e h
    rw [if_neg this, if_neg e]; exact hz t
/-- the first m of a function's numbers -/
def zl (z : Int → Int) (m : Nat) : List LV := (List.range m).map fun (t : Nat) => .int (z (t : Int))
@[simp] theorem zl_len (z : Int → Int) (m : Nat) : (zl z m).length = m := by simp [zl]
theorem zl_get (z : Int → Int) {m t : Nat} (h : t < m) : (zl z m)[t]? = some (.int (z (t : Int))) := by simp [zl, h]
theorem zl_set (z : Int → Int) (m j : Nat) (v : Int) : (zl z m).set j (.int v) = zl (upd z j v) m := by
  apply List.ext_getElem?
  intro i
  by_cases hi : i < m
  · by_cases e : j = i
    · subst e; rw [List.getElem?_set_self (by simpa using hi), zl_get _ hi]; simp [upd]
    · rw [List.getElem?_set_ne e, zl_get _ hi, zl_get _ hi]; simp only [upd]; rw [if_neg (fun h : (i : Int) = (j : Int) => e (by omega))]
  · rw [List.getElem?_eq_none (by simp; omega), List.getElem?_eq_none (by simp; omega)]
theorem zl_pn (z : Int → Int) (m : Nat) : LV.pns (zl z m) = true := pns_all (by intro x hx; simp [zl] at hx; obtain ⟨a, _, rfl⟩ := hx; rfl)
/-! ### all statements, those in blocks too -/
mutual
def Sm.inn : Sm → List LV
  | .try_ a b => Sm.alls a ++ Sm.alls b
  | .rep _ b => Sm.alls b
  | .say _ | .pause | .start _ _ | .wait _ | .adopt _ | .ret | .fail => []
def Sm.alls : List Sm → List LV
  | [] => []
  | s :: r => Sm.enc s :: (Sm.inn s ++ Sm.alls r)
end
mutual
theorem inn_len (lo hi : Nat) : ∀ (s : Sm) (d : Nat), Sm.ok lo hi s d → (Sm.inn s).length + 1 ≤ 6 ^ d
  | .say _, d, _ | .pause, d, _ | .start _ _, d, _ | .wait _, d, _ | .adopt _, d, _ | .ret, d, _ | .fail, d, _ => by
    simp only [Sm.inn, List.length_nil]; exact Nat.one_le_pow _ _ (by decide)
  | .try_ a b, d, h => by
    simp only [Sm.ok] at h
    obtain ⟨h0, h1, h2, h3, h4⟩ := h
    obtain ⟨e, rfl⟩ : ∃ e, d = e + 1 := ⟨d - 1, by omega⟩
    have p1 := alls_len lo hi a e h1
    have p2 := alls_len lo hi b e h2
    have p3 : a.length * 6 ^ e ≤ 3 * 6 ^ e := Nat.mul_le_mul_right _ h3
    have p4 : b.length * 6 ^ e ≤ 2 * 6 ^ e := Nat.mul_le_mul_right _ h4
    have p5 : 1 ≤ 6 ^ e := Nat.one_le_pow _ _ (by decide)
    simp only [Sm.inn, List.length_append, Nat.pow_succ]
    omega
  | .rep n b, d, h => by
    simp only [Sm.ok] at h
    obtain ⟨h0, h1, h2, h3⟩ := h
    obtain ⟨e, rfl⟩ : ∃ e, d = e + 1 := ⟨d - 1, by omega⟩
    have p1 := alls_len lo hi b e h2
    have p3 : b.length * 6 ^ e ≤ 3 * 6 ^ e := Nat.mul_le_mul_right _ h3
    have p5 : 1 ≤ 6 ^ e := Nat.one_le_pow _ _ (by decide)
    simp only [Sm.inn, Nat.pow_succ]
    omega
theorem alls_len (lo hi : Nat) : ∀ (b : List Sm) (d : Nat), Sm.oks lo hi b d → (Sm.alls b).length ≤ b.length * 6 ^ d
  | [], d, _ => by simp [Sm.alls]
  | s :: r, d, h => by
    simp only [Sm.oks] at h
    have p1 := inn_len lo hi s d h.1
    have p2 := alls_len lo hi r d h.2
    simp only [Sm.alls, List.length_cons, List.length_append, Nat.add_mul, Nat.one_mul]
    omega
end
/-- a list is handed out of a def -/
theorem end_loc {h0 H : LH} {f : Nat} {o : LO} (K : Keep h0 H) (hf : h0.length ≤ f) (ho : H[f]? = some o) : ∃ H', fnEnd h0 (.rt (.loc f) H) = .ok (.loc f) H' ∧ Keep h0 H' ∧ H'[f]? = some o := by
  have hfl : f < H.length := (List.getElem?_eq_some_iff.mp ho).1
  refine ⟨gc (fun n => LV.lim n (.loc f)) h0 H, rfl, ?_, ?_⟩
  · obtain ⟨G, rfl⟩ := K
    unfold gc; split
    · exact ⟨[], by simp⟩
    · split
      · exact ⟨G.take 1, by rw [List.take_append, List.take_of_length_le (by omega)]; simp⟩
      · exact ⟨G, rfl⟩
  · unfold gc; split
    · rename_i q; simp only [lim_loc, Bool.and_eq_true, decide_eq_true_eq] at q; omega
    · split
      · rename_i q
        simp only [lim_loc, Bool.and_eq_true, decide_eq_true_eq] at q
        rw [List.getElem?_take_of_lt q.1]; exact ho
      · exact ho
theorem end_exc0 {h0 H : LH} (K : Keep h0 H) (c : Nat) (σ : LSt) : fnEnd h0 (.exc ⟨c, []⟩ σ H) = .exc ⟨c, []⟩ h0 := by
  unfold fnEnd; simp only; rw [K.gc (by rfl)]
theorem end_nx {h0 H : LH} (K : Keep h0 H) (σ : LSt) : fnEnd h0 (.nx σ H) = .ok .non h0 := by
  unfold fnEnd; simp only; rw [K.gc (by rfl)]
/-! ### how deep, how many -/
mutual
def Sm.dep : Sm → Nat
  | .try_ a b => max (1 + Sm.deps a) (1 + Sm.deps b)
  | .rep _ b => 1 + Sm.deps b
  | .say _ | .pause | .start _ _ | .wait _ | .adopt _ | .ret | .fail => 0
def Sm.deps : List Sm → Nat
  | [] => 0
  | s :: r => max (Sm.dep s) (Sm.deps r)
end
mutual
theorem dep_ok (lo hi : Nat) : ∀ (s : Sm) (d : Nat), Sm.ok lo hi s d → Sm.dep s ≤ d
  | .say _, d, _ | .pause, d, _ | .start _ _, d, _ | .wait _, d, _ | .adopt _, d, _ | .ret, d, _ | .fail, d, _ => Nat.zero_le _
  | .try_ a b, d, h => by
    simp only [Sm.ok] at h
    have p1 := deps_ok lo hi a _ h.2.1
    have p2 := deps_ok lo hi b _ h.2.2.1
    simp only [Sm.dep, Nat.max_le]
    omega
  | .rep n b, d, h => by
    simp only [Sm.ok] at h
    have p1 := deps_ok lo hi b _ h.2.2.1
    simp only [Sm.dep]
    omega
theorem deps_ok (lo hi : Nat) : ∀ (b : List Sm) (d : Nat), Sm.oks lo hi b d → Sm.deps b ≤ d
  | [], d, _ => Nat.zero_le _
  | s :: r, d, h => by
    simp only [Sm.oks] at h
    have p1 := dep_ok lo hi s d h.1
    have p2 := deps_ok lo hi r d h.2
    simp only [Sm.deps, Nat.max_le]
    omega
end
theorem alls_app : ∀ (a b : List Sm), Sm.alls (a ++ b) = Sm.alls a ++ Sm.alls b
  | [], b => by simp [Sm.alls]
  | s :: r, b => by simp [Sm.alls, alls_app r b]
theorem deps_app : ∀ (a b : List Sm), Sm.deps (a ++ b) = max (Sm.deps a) (Sm.deps b)
  | [], b => by simp [Sm.deps]
  | s :: r, b => by simp [Sm.deps, deps_app r b, Nat.max_assoc]
theorem alls_2 {lo hi : Nat} {blk : List Sm} (ho : Sm.oks lo hi blk 2) (hl : blk.length ≤ 50) : (Sm.alls blk).length ≤ 1800 := by
  have h1 := alls_len lo hi blk 2 ho
  have h3 : blk.length * 6 ^ 2 ≤ 50 * 36 := Nat.mul_le_mul hl (by decide)
  omega
/-! ### what a program is -/
def signsL : List Nat := [97, 98, 99, 100, 101, 102, 103, 104, 105, 106, 107, 108, 109, 110, 111, 112, 113, 114, 115, 116, 117, 118, 119, 120, 121, 122, 48, 49, 50, 51, 52, 53, 54, 55, 56, 57]
def varsL : List (List Nat) := [[97], [98], [99], [100]]
def isw (w : List Nat) : Bool := decide (1 ≤ w.length) && decide (w.length ≤ 8) && w.all fun c => decide (c ∈ signsL)
/-- a statement's own check -/
def Sm.it (lo hi : Int) : Sm → Bool
  | .say w => isw w
  | .start t nm => decide (lo < t) && decide (t < hi) && decide (nm ∈ varsL)
  | .wait nm | .adopt nm => decide (nm ∈ varsL)
  | .rep n _ => decide (0 ≤ n) && decide (n ≤ 100)
  | .pause | .ret | .fail | .try_ _ _ => true
mutual
/-- a statement d deep, with its blocks -/
def Sm.sok (lo hi : Int) : Sm → Nat → Bool
  | .try_ a b, d => decide (d + 1 ≤ 2) && Sm.soks lo hi a (d + 1) && (decide (d + 1 ≤ 2) && Sm.soks lo hi b (d + 1))
  | .rep n b, d => decide (0 ≤ n) && decide (n ≤ 100) && (decide (d + 1 ≤ 2) && Sm.soks lo hi b (d + 1))
  | .say w, _ => isw w
  | .start t nm, _ => decide (lo < t) && decide (t < hi) && decide (nm ∈ varsL)
  | .wait nm, _ => decide (nm ∈ varsL)
  | .adopt nm, _ => decide (nm ∈ varsL)
  | .pause, _ | .ret, _ | .fail, _ => true
def Sm.soks (lo hi : Int) : List Sm → Nat → Bool
  | [], _ => true
  | s :: r, d => Sm.sok lo hi s d && Sm.soks lo hi r d
end
mutual
theorem sok_dep (lo hi : Int) : ∀ (s : Sm) (d : Nat), d ≤ 2 → Sm.sok lo hi s d = true → d + Sm.dep s ≤ 2
  | .say _, d, hd, _ | .pause, d, hd, _ | .start _ _, d, hd, _ | .wait _, d, hd, _ | .adopt _, d, hd, _ | .ret, d, hd, _ | .fail, d, hd, _ => hd
  | .try_ a b, d, hd, h => by
    simp only [Sm.sok, Bool.and_eq_true, decide_eq_true_eq] at h
    have p1 := soks_dep lo hi a (d + 1) h.1.1 h.1.2
    have p2 := soks_dep lo hi b (d + 1) h.2.1 h.2.2
    have : Sm.dep (.try_ a b) ≤ 2 - d := by simp only [Sm.dep, Nat.max_le]; omega
    omega
  | .rep n b, d, hd, h => by
    simp only [Sm.sok, Bool.and_eq_true, decide_eq_true_eq] at h
    have p2 := soks_dep lo hi b (d + 1) h.2.1 h.2.2
    simp only [Sm.dep]
    omega
theorem soks_dep (lo hi : Int) : ∀ (b : List Sm) (d : Nat), d ≤ 2 → Sm.soks lo hi b d = true → d + Sm.deps b ≤ 2
  | [], d, hd, _ => hd
  | s :: r, d, hd, h => by
    simp only [Sm.soks, Bool.and_eq_true] at h
    have p1 := sok_dep lo hi s d hd h.1
    have p2 := soks_dep lo hi r d hd h.2
    have : Sm.deps (s :: r) ≤ 2 - d := by simp only [Sm.deps, Nat.max_le]; omega
    omega
end
/-- bodies from number i on, of n -/
def arbs (n : Int) : Nat → List (List Sm) → Bool
  | _, [] => true
  | i, b :: r => Sm.soks (i : Int) n b 0 && decide ((Sm.alls b).length ≤ 40) && arbs n (i + 1) r
/-! ### what weighing needs: a depth, small repeats; targets in range -/
mutual
def Sm.rsm : Sm → Bool
  | .try_ a b => Sm.rsms a && Sm.rsms b
  | .rep n b => decide (-1000 ≤ n) && decide (n ≤ 1000) && Sm.rsms b
  | .say _ | .pause | .start _ _ | .wait _ | .adopt _ | .ret | .fail => true
def Sm.rsms : List Sm → Bool
  | [] => true
  | s :: r => Sm.rsm s && Sm.rsms r
end
mutual
def Sm.tin (hi : Int) : Sm → Bool
  | .try_ a b => Sm.tins hi a && Sm.tins hi b
  | .rep _ b => Sm.tins hi b
  | .start t _ => decide (0 ≤ t) && decide (t < hi)
  | .say _ | .pause | .wait _ | .adopt _ | .ret | .fail => true
def Sm.tins (hi : Int) : List Sm → Bool
  | [] => true
  | s :: r => Sm.tin hi s && Sm.tins hi r
end
structure OkW (blk : List Sm) (d : Nat) : Prop where
  dp : Sm.deps blk ≤ d
  rs : Sm.rsms blk = true
theorem OkW.tl {s : Sm} {r : List Sm} {d : Nat} (h : OkW (s :: r) d) : OkW r d := by
  have h1 := h.dp; have h2 := h.rs
  simp only [Sm.deps, Nat.max_le] at h1
  simp only [Sm.rsms, Bool.and_eq_true] at h2
  exact ⟨h1.2, h2.2⟩
theorem OkW.tr {a b r : List Sm} {d : Nat} (h : OkW (.try_ a b :: r) d) : 0 < d ∧ OkW a (d - 1) ∧ OkW b (d - 1) := by
  have h1 := h.dp; have h2 := h.rs
  simp only [Sm.deps, Sm.dep, Nat.max_le] at h1
  simp only [Sm.rsms, Sm.rsm, Bool.and_eq_true] at h2
  exact ⟨by omega, ⟨by omega, h2.1.1⟩, ⟨by omega, h2.1.2⟩⟩
theorem OkW.rp {n : Int} {b r : List Sm} {d : Nat} (h : OkW (.rep n b :: r) d) : 0 < d ∧ OkW b (d - 1) ∧ -16777217 < n ∧ n < 16777217 := by
  have h1 := h.dp; have h2 := h.rs
  simp only [Sm.deps, Sm.dep, Nat.max_le] at h1
  simp only [Sm.rsms, Sm.rsm, Bool.and_eq_true, decide_eq_true_eq] at h2
  exact ⟨by omega, ⟨by omega, h2.1.2⟩, by omega, by omega⟩
mutual
theorem ok_rsm (lo hi : Nat) : ∀ (s : Sm) (d : Nat), Sm.ok lo hi s d → Sm.rsm s = true
  | .say _, d, _ | .pause, d, _ | .start _ _, d, _ | .wait _, d, _ | .adopt _, d, _ | .ret, d, _ | .fail, d, _ => rfl
  | .try_ a b, d, h => by
    simp only [Sm.ok] at h
    simp only [Sm.rsm, Bool.and_eq_true]
    exact ⟨oks_rsm lo hi a _ h.2.1, oks_rsm lo hi b _ h.2.2.1⟩
  | .rep n b, d, h => by
    simp only [Sm.ok] at h
    simp only [Sm.rsm, Bool.and_eq_true, decide_eq_true_eq]
    exact ⟨⟨by omega, by omega⟩, oks_rsm lo hi b _ h.2.2.1⟩
theorem oks_rsm (lo hi : Nat) : ∀ (b : List Sm) (d : Nat), Sm.oks lo hi b d → Sm.rsms b = true
  | [], d, _ => rfl
  | s :: r, d, h => by
    simp only [Sm.oks] at h
    simp only [Sm.rsms, Bool.and_eq_true]
    exact ⟨ok_rsm lo hi s d h.1, oks_rsm lo hi r d h.2⟩
end
theorem OkW.of {lo hi d : Nat} {b : List Sm} (h : Sm.oks lo hi b d) : OkW b d := ⟨deps_ok lo hi b d h, oks_rsm lo hi b d h⟩
mutual
theorem ok_tin (lo hi : Nat) : ∀ (s : Sm) (d : Nat), Sm.ok lo hi s d → Sm.tin hi s = true
  | .say _, d, _ | .pause, d, _ | .wait _, d, _ | .adopt _, d, _ | .ret, d, _ | .fail, d, _ => rfl
  | .start t nm, d, h => by
    simp only [Sm.ok] at h
    simp only [Sm.tin, Bool.and_eq_true, decide_eq_true_eq]
    omega
  | .try_ a b, d, h => by
    simp only [Sm.ok] at h
    simp only [Sm.tin, Bool.and_eq_true]
    exact ⟨oks_tin lo hi a _ h.2.1, oks_tin lo hi b _ h.2.2.1⟩
  | .rep n b, d, h => by
    simp only [Sm.ok] at h
    exact oks_tin lo hi b _ h.2.2.1
theorem oks_tin (lo hi : Nat) : ∀ (b : List Sm) (d : Nat), Sm.oks lo hi b d → Sm.tins hi b = true
  | [], d, _ => rfl
  | s :: r, d, h => by
    simp only [Sm.oks] at h
    simp only [Sm.tins, Bool.and_eq_true]
    exact ⟨ok_tin lo hi s d h.1, oks_tin lo hi r d h.2⟩
end
mutual
theorem sok_w (lo hi : Int) (hlo : 0 ≤ lo) : ∀ (s : Sm) (d : Nat), Sm.sok lo hi s d = true → Sm.rsm s = true ∧ Sm.tin hi s = true
  | .say _, d, _ | .pause, d, _ | .wait _, d, _ | .adopt _, d, _ | .ret, d, _ | .fail, d, _ => ⟨rfl, rfl⟩
  | .start t nm, d, h => by
    simp only [Sm.sok, Bool.and_eq_true, decide_eq_true_eq] at h
    refine ⟨rfl, ?_⟩
    simp only [Sm.tin, Bool.and_eq_true, decide_eq_true_eq]
    omega
  | .try_ a b, d, h => by
    simp only [Sm.sok, Bool.and_eq_true] at h
    have p1 := soks_w lo hi hlo a _ h.1.2
    have p2 := soks_w lo hi hlo b _ h.2.2
    simp only [Sm.rsm, Sm.tin, Bool.and_eq_true]
    exact ⟨⟨p1.1, p2.1⟩, p1.2, p2.2⟩
  | .rep n b, d, h => by
    simp only [Sm.sok, Bool.and_eq_true, decide_eq_true_eq] at h
    have p2 := soks_w lo hi hlo b _ h.2.2
    simp only [Sm.rsm, Sm.tin, Bool.and_eq_true, decide_eq_true_eq]
    exact ⟨⟨⟨by omega, by omega⟩, p2.1⟩, p2.2⟩
theorem soks_w (lo hi : Int) (hlo : 0 ≤ lo) : ∀ (b : List Sm) (d : Nat), Sm.soks lo hi b d = true → Sm.rsms b = true ∧ Sm.tins hi b = true
  | [], d, _ => ⟨rfl, rfl⟩
  | s :: r, d, h => by
    simp only [Sm.soks, Bool.and_eq_true] at h
    have p1 := sok_w lo hi hlo s d h.1
    have p2 := soks_w lo hi hlo r d h.2
    simp only [Sm.rsms, Sm.tins, Bool.and_eq_true]
    exact ⟨⟨p1.1, p2.1⟩, p1.2, p2.2⟩
end
/-- a body that can be weighed, of n bodies -/
structure OkB (n : Int) (b : List Sm) : Prop where
  w : OkW b 2
  t : Sm.tins n b = true
/-- .. that may start one more -/
def okQ1 (p : List (List Sm)) : Prop := ∀ (i : Nat) (b : List Sm), p[i]? = some b → OkB ((p.length : Int) + 1) b
mutual
theorem tin_mono {m n : Int} (h : m ≤ n) : ∀ s : Sm, Sm.tin m s = true → Sm.tin n s = true
  | .say _, _ | .pause, _ | .wait _, _ | .adopt _, _ | .ret, _ | .fail, _ => rfl
  | .start t nm, q => by
    simp only [Sm.tin, Bool.and_eq_true, decide_eq_true_eq] at q ⊢
    omega
  | .try_ a b, q => by
    simp only [Sm.tin, Bool.and_eq_true] at q ⊢
    exact ⟨tins_mono h a q.1, tins_mono h b q.2⟩
  | .rep _ b, q => tins_mono h b q
theorem tins_mono {m n : Int} (h : m ≤ n) : ∀ b : List Sm, Sm.tins m b = true → Sm.tins n b = true
  | [], _ => rfl
  | s :: r, q => by
    simp only [Sm.tins, Bool.and_eq_true] at q ⊢
    exact ⟨tin_mono h s q.1, tins_mono h r q.2⟩
end
def okQ (p : List (List Sm)) : Prop := ∀ (i : Nat) (b : List Sm), p[i]? = some b → OkB p.length b
theorem okQ.to1 {p : List (List Sm)} (h : okQ p) : okQ1 p := fun i b e => ⟨(h i b e).w, tins_mono (by omega) b (h i b e).t⟩
theorem okQ.of {p : List (List Sm)} (h : okP p.length p) : okQ p := fun i b e => ⟨.of (h i b e).1, oks_tin _ _ b _ (h i b e).1⟩
theorem lc_mapC {σ : LSt} {g : MG} {e : ME} {h0 : LH} {D : Nat} {chk : LH → Bool} (f : LV → LV) (hD : D = h0.length) (hc : ∀ zs, chk (h0 ++ [.lst zs]) = true) : ∀ (xs ys : List LV),
    (∀ x ∈ xs, ∃ σ1, g x σ = some σ1 ∧ ∀ zs, e σ1 (h0 ++ [.lst zs]) = .ok (f x) (h0 ++ [.lst zs])) → ys.length + xs.length ≤ szL →
    lcM chk g bYes e σ D xs (h0 ++ [.lst ys]) = .ok () (h0 ++ [.lst (ys ++ xs.map f)])
  | [], ys, _, _ => by simp [lcM, hc]
  | x :: xs, ys, H, hl => by
    obtain ⟨σ1, hg, he⟩ := H x (by simp)
    simp only [List.length_cons] at hl
    have := lc_mapC (σ := σ) (g := g) (e := e) f hD hc xs (ys ++ [f x]) (fun y hy => H y (by simp [hy])) (by simp; omega)
    rw [lcM]
    simp [hg, bYes, he, hD, hc]
    rw [if_pos (by omega)]
    simp [hD] at this
    exact this
theorem keeps_app {h0 : LH} {n : Nat} {xs : List LV} (h : h0[n]? = some (.lst xs)) (L : LH) : keepsL n xs (h0 ++ L) = true := by
  unfold keepsL rdL
  rw [List.getElem?_append_left (List.getElem?_eq_some_iff.mp h).1, h]
  simp
/-! ### the statements of a block in one row -/
mutual
def Sm.flI : Sm → List Sm
  | .try_ a b => Sm.fl a ++ Sm.fl b
  | .rep _ b => Sm.fl b
  | .say _ | .pause | .start _ _ | .wait _ | .adopt _ | .ret | .fail => []
def Sm.fl : List Sm → List Sm
  | [] => []
  | s :: r => s :: (Sm.flI s ++ Sm.fl r)
end
mutual
theorem inn_fl : ∀ s : Sm, Sm.inn s = (Sm.flI s).map Sm.enc
  | .say _ | .pause | .start _ _ | .wait _ | .adopt _ | .ret | .fail => by simp [Sm.inn, Sm.flI]
  | .try_ a b => by simp [Sm.inn, Sm.flI, alls_fl a, alls_fl b]
  | .rep n b => by simp [Sm.inn, Sm.flI, alls_fl b]
theorem alls_fl : ∀ b : List Sm, Sm.alls b = (Sm.fl b).map Sm.enc
  | [] => by simp [Sm.alls, Sm.fl]
  | s :: r => by simp [Sm.alls, Sm.fl, inn_fl s, alls_fl r]
end
mutual
theorem sok_fl (lo hi : Int) : ∀ (s : Sm) (d : Nat), d ≤ 2 → Sm.sok lo hi s d = (decide (d + Sm.dep s ≤ 2) && (Sm.it lo hi s && (Sm.flI s).all (Sm.it lo hi)))
  | .say _, d, hd | .pause, d, hd | .start _ _, d, hd | .wait _, d, hd | .adopt _, d, hd | .ret, d, hd | .fail, d, hd => by
    simp [Sm.sok, Sm.dep, Sm.it, Sm.flI, hd]
  | .try_ a b, d, hd => by
    by_cases h3 : d + 1 ≤ 2
    · have e1 := soks_fl lo hi a (d + 1) h3
      have e2 := soks_fl lo hi b (d + 1) h3
      have q : decide (d + Sm.dep (.try_ a b) ≤ 2) = (decide (d + 1 + Sm.deps a ≤ 2) && decide (d + 1 + Sm.deps b ≤ 2)) := by
        rw [← Bool.decide_and]
        apply decide_eq_decide.mpr
        simp only [Sm.dep]
        omega
      rw [q, Sm.sok, e1, e2, Sm.flI, List.all_append, decide_eq_true h3]
      simp only [Sm.it, Bool.true_and]
      cases decide (d + 1 + Sm.deps a ≤ 2) <;> cases decide (d + 1 + Sm.deps b ≤ 2) <;> cases (Sm.fl a).all (Sm.it lo hi) <;> cases (Sm.fl b).all (Sm.it lo hi) <;> rfl
    · have q : ¬ d + Sm.dep (.try_ a b) ≤ 2 := by simp only [Sm.dep]; omega
      rw [Sm.sok, decide_eq_false h3, decide_eq_false q]
      rfl
  | .rep n b, d, hd => by
    by_cases h3 : d + 1 ≤ 2
    · have e2 := soks_fl lo hi b (d + 1) h3
      have q : decide (d + Sm.dep (.rep n b) ≤ 2) = decide (d + 1 + Sm.deps b ≤ 2) := by
        apply decide_eq_decide.mpr
        simp only [Sm.dep]
        omega
      rw [q, Sm.sok, e2, Sm.flI, decide_eq_true h3]
      simp only [Sm.it, Bool.true_and]
      cases decide (d + 1 + Sm.deps b ≤ 2) <;> cases (Sm.fl b).all (Sm.it lo hi) <;> cases decide (0 ≤ n) <;> cases decide (n ≤ 100) <;> rfl
    · have q : ¬ d + Sm.dep (.rep n b) ≤ 2 := by simp only [Sm.dep]; omega
      rw [Sm.sok, decide_eq_false h3, decide_eq_false q, Bool.false_and, Bool.false_and, Bool.and_false]
theorem soks_fl (lo hi : Int) : ∀ (b : List Sm) (d : Nat), d ≤ 2 → Sm.soks lo hi b d = (decide (d + Sm.deps b ≤ 2) && (Sm.fl b).all (Sm.it lo hi))
  | [], d, hd => by simp [Sm.soks, Sm.deps, Sm.fl, hd]
  | s :: r, d, hd => by
    have e1 := sok_fl lo hi s d hd
    have e2 := soks_fl lo hi r d hd
    have q : decide (d + Sm.deps (s :: r) ≤ 2) = (decide (d + Sm.dep s ≤ 2) && decide (d + Sm.deps r ≤ 2)) := by
      rw [← Bool.decide_and]
      apply decide_eq_decide.mpr
      simp only [Sm.deps]
      omega
    rw [q, Sm.soks, e1, e2, Sm.fl, List.all_cons, List.all_append]
    cases decide (d + Sm.dep s ≤ 2) <;> cases decide (d + Sm.deps r ≤ 2) <;> cases Sm.it lo hi s <;> cases (Sm.flI s).all (Sm.it lo hi) <;> cases (Sm.fl r).all (Sm.it lo hi) <;> rfl
end
theorem lc_mapE {α : Type} {σ : LSt} {g : MG} {e : ME} {h0 : LH} {D : Nat} {chk : LH → Bool} (en f : α → LV) (hD : D = h0.length) (hc : ∀ zs, chk (h0 ++ [.lst zs]) = true) : ∀ (xs : List α) (ys : List LV),
    (∀ x ∈ xs, ∃ σ1, g (en x) σ = some σ1 ∧ ∀ zs, e σ1 (h0 ++ [.lst zs]) = .ok (f x) (h0 ++ [.lst zs])) → ys.length + xs.length ≤ szL →
    lcM chk g bYes e σ D (xs.map en) (h0 ++ [.lst ys]) = .ok () (h0 ++ [.lst (ys ++ xs.map f)])
  | [], ys, _, _ => by simp [lcM, hc]
  | x :: xs, ys, H, hl => by
    obtain ⟨σ1, hg, he⟩ := H x (by simp)
    simp only [List.length_cons] at hl
    have := lc_mapE (σ := σ) (g := g) (e := e) en f hD hc xs (ys ++ [f x]) (fun y hy => H y (by simp [hy])) (by simp; omega)
    rw [List.map_cons, lcM]
    simp [hg, bYes, he, hD, hc]
    rw [if_pos (by omega)]
    simp [hD] at this
    exact this
theorem cut_take {α : Type} (xs : List α) {j : Nat} (h : j ≤ xs.length) : cutL xs none (some (j : Int)) = xs.take j := by
  simp only [cutL, sIx, List.drop_zero, Nat.sub_zero]
  rw [if_pos (by omega)]
  congr 1
  omega
theorem cut_drop {α : Type} (xs : List α) {j : Nat} (h : j ≤ xs.length) : cutL xs (some (j : Int)) none = xs.drop j := by
  simp only [cutL, sIx]
  rw [if_pos (by omega)]
  have : min ((j : Int).toNat) xs.length = j := by omega
  rw [this, List.take_of_length_le (by simp)]
/-- an item of a tuple of numbers -/
theorem ix_ints {ws : List Int} {i : Int} {h : LH} (h0 : 0 ≤ i) (hi : i < ws.length) : ∃ w, w ∈ ws ∧ opIx (.tup (ws.map .int)) (.int i) h = .ok (.int w) h := by
  obtain ⟨j, hj, e, rfl⟩ := ix_drw h0 hi
  refine ⟨ws[j], by simp, ?_⟩
  simp [e, hj]
theorem ix_sign {s : List Nat} {i : Int} {h : LH} (h0 : 0 ≤ i) (hi : i < s.length) (hz : s.length ≤ szL) : ∃ c, c ∈ s ∧ opIx (.str s) (.int i) h = .ok (.str [c]) h := by
  obtain ⟨j, hj, e, rfl⟩ := ix_drw h0 hi
  refine ⟨s[j], by simp, ?_⟩
  rw [o_ixS]
  simp [e, hj, hz]
theorem set_take_drop {α : Type} : ∀ (xs : List α) (j : Nat) (b : α), j < xs.length → xs.take j ++ b :: xs.drop (j + 1) = xs.set j b
  | [], j, b, h => by simp at h
  | x :: r, 0, b, h => by simp
  | x :: r, j + 1, b, h => by simp at h; simp [set_take_drop r j b (by omega)]
mutual
theorem w_congr {lo hi : Nat} {z y : Int → Int} (h : ∀ t : Int, (lo : Int) < t → t < (hi : Int) → z t = y t) : ∀ (s : Sm) (d : Nat), Sm.ok lo hi s d → Sm.w z s = Sm.w y s
  | .say _, d, _ | .pause, d, _ | .wait _, d, _ | .adopt _, d, _ | .ret, d, _ | .fail, d, _ => by simp [Sm.w]
  | .start t nm, d, hs => by
    simp only [Sm.ok] at hs
    simp only [Sm.w, h t hs.1 hs.2.1]
  | .try_ a b, d, hs => by
    simp only [Sm.ok] at hs
    simp only [Sm.w, ws_congr h a _ hs.2.1, ws_congr h b _ hs.2.2.1]
  | .rep n b, d, hs => by
    simp only [Sm.ok] at hs
    simp only [Sm.w, ws_congr h b _ hs.2.2.1]
theorem ws_congr {lo hi : Nat} {z y : Int → Int} (h : ∀ t : Int, (lo : Int) < t → t < (hi : Int) → z t = y t) : ∀ (b : List Sm) (d : Nat), Sm.oks lo hi b d → Sm.ws z b = Sm.ws y b
  | [], d, _ => rfl
  | s :: r, d, hs => by
    simp only [Sm.oks] at hs
    simp only [Sm.ws, w_congr h s d hs.1, ws_congr h r d hs.2]
end
/-- the sizes, and that none is greater than room -/
def Fix (room : Int) (p : List (List Sm)) (m : Nat) (z : Int → Int) : Prop := ∀ (t : Nat) (b : List Sm), m ≤ t → p[t]? = some b → z (t : Int) = 1 + (1 + Sm.ws z b) ∧ (4 ≤ room → z (t : Int) ≤ room)
theorem zrun_fix {room : Int} {p : List (List Sm)} {G : Int → Int} (hp : okP p.length p) (hG : Fix room p 0 G) : ∀ (m : Nat) (z : Int → Int), m ≤ p.length → (∀ t : Nat, m ≤ t → t < p.length → z (t : Int) = G (t : Int)) → ∀ t : Nat, t < p.length → zrun p m z (t : Int) = G (t : Int)
  | 0, z, hm, h, t, ht => h t (Nat.zero_le _) ht
  | m + 1, z, hm, h, t, ht => by
    have hpm : p[m]? = some p[m] := List.getElem?_eq_getElem (by omega)
    rw [zrun, hpm, Option.getD_some]
    refine zrun_fix hp hG m _ (by omega) (fun u h1 h2 => ?_) t ht
    unfold upd
    by_cases e : (u : Int) = (m : Int)
    · have : u = m := by omega
      subst this
      rw [if_pos rfl, (hG u p[u] (Nat.zero_le _) hpm).1]
      have := ws_congr (z := z) (y := G) (lo := u) (hi := p.length) (fun t a b => by
        obtain ⟨q, rfl⟩ : ∃ q : Nat, t = q := ⟨t.toNat, by omega⟩
        exact h q (by omega) (by omega)) p[u] 2 (hp u _ hpm).1
      rw [this]
    · rw [if_neg e]
      exact h u (by omega) h2
/-- a text of signs -/
def asc (w : List Nat) : Bool := w.all fun c => decide (c < 1114112)
mutual
/-- words short enough for len, texts of signs -/
def short : Sm → Bool
  | .say w => decide (w.length ≤ 1000) && asc w
  | .try_ a b => shorts a && shorts b
  | .rep _ b => shorts b
  | .start _ nm | .wait nm | .adopt nm => asc nm
  | .pause | .ret | .fail => true
def shorts : List Sm → Bool
  | [] => true
  | s :: r => short s && shorts r
end
mutual
theorem enc_dat : ∀ (s : Sm) (d : Nat), short s = true → 2 * Sm.dep s + 1 ≤ d → LV.dat d (Sm.enc s) = true
  | .say w, d, h, hd => by
    obtain ⟨e, rfl⟩ : ∃ e, d = e + 1 := ⟨d - 1, by omega⟩
    simp only [short, Bool.and_eq_true] at h
    simpa [Sm.enc, LV.dat, LV.dats, asc] using h.2
  | .start t nm, d, h, hd => by
    obtain ⟨e, rfl⟩ : ∃ e, d = e + 1 := ⟨d - 1, by omega⟩
    simp only [short] at h
    simpa [Sm.enc, LV.dat, LV.dats, asc] using h
  | .wait nm, d, h, hd => by
    obtain ⟨e, rfl⟩ : ∃ e, d = e + 1 := ⟨d - 1, by omega⟩
    simp only [short] at h
    simpa [Sm.enc, LV.dat, LV.dats, asc] using h
  | .adopt nm, d, h, hd => by
    obtain ⟨e, rfl⟩ : ∃ e, d = e + 1 := ⟨d - 1, by omega⟩
    simp only [short] at h
    simpa [Sm.enc, LV.dat, LV.dats, asc] using h
  | .pause, d, h, hd => by
    obtain ⟨e, rfl⟩ : ∃ e, d = e + 1 := ⟨d - 1, by omega⟩
    simp [Sm.enc, LV.dat, LV.dats]
  | .ret, d, h, hd => by
    obtain ⟨e, rfl⟩ : ∃ e, d = e + 1 := ⟨d - 1, by omega⟩
    simp [Sm.enc, LV.dat, LV.dats]
  | .fail, d, h, hd => by
    obtain ⟨e, rfl⟩ : ∃ e, d = e + 1 := ⟨d - 1, by omega⟩
    simp [Sm.enc, LV.dat, LV.dats]
  | .try_ a b, d, h, hd => by
    simp only [Sm.dep] at hd
    obtain ⟨e, rfl⟩ : ∃ e, d = e + 2 := ⟨d - 2, by omega⟩
    simp only [short, Bool.and_eq_true] at h
    have h1 := encs_dat a e h.1 (by omega)
    have h2 := encs_dat b e h.2 (by omega)
    simp [Sm.enc, LV.dat, LV.dats, h1, h2]
  | .rep n b, d, h, hd => by
    simp only [Sm.dep] at hd
    obtain ⟨e, rfl⟩ : ∃ e, d = e + 2 := ⟨d - 2, by omega⟩
    simp only [short] at h
    have h2 := encs_dat b e h (by omega)
    simp [Sm.enc, LV.dat, LV.dats, h2]
theorem encs_dat : ∀ (b : List Sm) (d : Nat), shorts b = true → 2 * Sm.deps b + 1 ≤ d → LV.dats d (Sm.encs b) = true
  | [], d, _, _ => by simp [Sm.encs, LV.dats]
  | s :: r, d, h, hd => by
    simp only [shorts, Bool.and_eq_true] at h
    simp only [Sm.deps] at hd
    have h1 := enc_dat s d h.1 (by omega)
    have h2 := encs_dat r d h.2 (by omega)
    simp [Sm.encs, LV.dats, h1, h2]
end
/-- it starts body n -/
def isS (n : Int) : Sm → Bool
  | .start t _ => decide (t = n)
  | _ => false
theorem o_head2 {h : LH} {n : Int} {s : Sm} (hs : short s = true) (hd : Sm.dep s ≤ 20) : ∃ v, opSl (Sm.enc s) none (some 2) h = .ok v h ∧ opEq v (.tup [.str [115, 116, 97, 114, 116], .int n]) h = .ok (.bl (isS n s)) h := by
  have d2 : LV.dat 64 (.tup [.str [115, 116, 97, 114, 116], .int n]) = true := by simp [LV.dat, LV.dats]
  have d1 := enc_dat s 50 hs (by omega)
  have eb : ∀ (a b : List Nat), (a == b) = decide (a = b) := fun a b => by
    by_cases e : a = b
    · subst e; simp
    · rw [decide_eq_false e, beq_eq_false_iff_ne]; exact e
  cases s with
  | try_ a b =>
    simp only [short, Bool.and_eq_true] at hs
    simp only [Sm.dep] at hd
    have h1 := encs_dat a 62 hs.1 (by omega)
    refine ⟨_, by simp [Sm.enc, cutL, sIx]; rfl, ?_⟩
    rw [o_eqT h (by simp [LV.dat, LV.dats, h1]) d2]
    simp [LV.eqvs, LV.eqv, isS]
  | rep m b =>
    refine ⟨_, by simp [Sm.enc, cutL, sIx]; rfl, ?_⟩
    rw [o_eqT h (by simp [LV.dat, LV.dats]) d2]
    simp [LV.eqvs, LV.eqv, isS]
  | start t nm =>
    refine ⟨_, by simp [Sm.enc, cutL, sIx]; rfl, ?_⟩
    rw [o_eqT h (by simp [LV.dat, LV.dats]) d2]
    simp [LV.eqvs, LV.eqv, isS]; rfl
  | say w =>
    simp only [short, Bool.and_eq_true] at hs
    refine ⟨_, by simp [Sm.enc, cutL, sIx]; rfl, ?_⟩
    rw [o_eqT h (by simpa [LV.dat, LV.dats, asc] using hs.2) d2]
    simp [LV.eqvs, LV.eqv, isS]
  | wait nm =>
    simp only [short] at hs
    refine ⟨_, by simp [Sm.enc, cutL, sIx]; rfl, ?_⟩
    rw [o_eqT h (by simpa [LV.dat, LV.dats, asc] using hs) d2]
    simp [LV.eqvs, LV.eqv, isS]
  | adopt nm =>
    simp only [short] at hs
    refine ⟨_, by simp [Sm.enc, cutL, sIx]; rfl, ?_⟩
    rw [o_eqT h (by simpa [LV.dat, LV.dats, asc] using hs) d2]
    simp [LV.eqvs, LV.eqv, isS]
  | _ =>
    refine ⟨_, by simp [Sm.enc, cutL, sIx]; rfl, ?_⟩
    rw [o_eqT h (by simp [LV.dat, LV.dats]) d2]
    simp [LV.eqvs, LV.eqv, isS]
theorem lc_flt {α : Type} {σ : LSt} {g : MG} {t : MB} {e : ME} {h0 : LH} {D : Nat} {chk : LH → Bool} (en f : α → LV) (p : α → Bool) (hD : D = h0.length) (hc : ∀ zs, chk (h0 ++ [.lst zs]) = true) : ∀ (xs : List α) (ys : List LV),
    (∀ x ∈ xs, ∃ σ1, g (en x) σ = some σ1 ∧ ∀ zs, t σ1 (h0 ++ [.lst zs]) = .ok (p x) (h0 ++ [.lst zs]) ∧ e σ1 (h0 ++ [.lst zs]) = .ok (f x) (h0 ++ [.lst zs])) → ys.length + xs.length ≤ szL →
    lcM chk g t e σ D (xs.map en) (h0 ++ [.lst ys]) = .ok () (h0 ++ [.lst (ys ++ (xs.filter p).map f)])
  | [], ys, _, _ => by simp [lcM, hc]
  | x :: xs, ys, H, hl => by
    obtain ⟨σ1, hg, he⟩ := H x (by simp)
    simp only [List.length_cons] at hl
    rw [List.map_cons, lcM]
    cases hp : p x with
    | true =>
      have := lc_flt (σ := σ) (g := g) (t := t) (e := e) en f p hD hc xs (ys ++ [f x]) (fun y hy => H y (by simp [hy])) (by simp; omega)
      simp [hg, (he _).1, (he _).2, hp, hD, hc]
      rw [if_pos (by omega)]
      simp [hD] at this
      exact this
    | false =>
      have := lc_flt (σ := σ) (g := g) (t := t) (e := e) en f p hD hc xs ys (fun y hy => H y (by simp [hy])) (by omega)
      simp [hg, (he _).1, hp, hD, hc]
      simp [hD] at this
      exact this
theorem forM_c {chk : LH → Bool} {g : MG} {b : MS} {x : LV} {xs : List LV} {σ σ1 : LSt} {h : LH} (hc : chk h = true) (hg : g x σ = some σ1) : forM chk g b (x :: xs) σ h = (b σ1 h).turn (forM chk g b xs) := by
  simp only [forM, hc, if_true, hg]
  cases b σ1 h <;> rfl
theorem forM_n {chk : LH → Bool} {g : MG} {b : MS} {σ : LSt} {h : LH} (hc : chk h = true) : forM chk g b [] σ h = .nx σ h := by rw [forM, if_pos hc]
mutual
/-- what stands outside of repeats -/
def Sm.ouI : Sm → List Sm
  | .try_ a b => Sm.ou a ++ Sm.ou b
  | .rep _ _ | .say _ | .pause | .start _ _ | .wait _ | .adopt _ | .ret | .fail => []
def Sm.ou : List Sm → List Sm
  | [] => []
  | s :: r => s :: (Sm.ouI s ++ Sm.ou r)
end
mutual
/-- what stands within repeats -/
def Sm.reI : Sm → List Sm
  | .try_ a b => Sm.re a ++ Sm.re b
  | .rep _ b => Sm.fl b
  | .say _ | .pause | .start _ _ | .wait _ | .adopt _ | .ret | .fail => []
def Sm.re : List Sm → List Sm
  | [] => []
  | s :: r => Sm.reI s ++ Sm.re r
end
mutual
theorem flI_cnt (p : Sm → Bool) : ∀ s : Sm, (Sm.flI s).countP p = (Sm.ouI s).countP p + (Sm.reI s).countP p
  | .say _ | .pause | .start _ _ | .wait _ | .adopt _ | .ret | .fail => by simp [Sm.flI, Sm.ouI, Sm.reI]
  | .try_ a b => by
    have h1 := fl_cnt p a; have h2 := fl_cnt p b
    simp only [Sm.flI, Sm.ouI, Sm.reI, List.countP_append]; omega
  | .rep n b => by simp [Sm.flI, Sm.ouI, Sm.reI]
theorem fl_cnt (p : Sm → Bool) : ∀ b : List Sm, (Sm.fl b).countP p = (Sm.ou b).countP p + (Sm.re b).countP p
  | [] => by simp [Sm.fl, Sm.ou, Sm.re]
  | s :: r => by
    have h1 := flI_cnt p s; have h2 := fl_cnt p r
    simp only [Sm.fl, Sm.ou, Sm.re, List.countP_cons, List.countP_append]; omega
end
mutual
theorem ouI_len : ∀ s : Sm, (Sm.ouI s).length ≤ (Sm.flI s).length
  | .say _ | .pause | .start _ _ | .wait _ | .adopt _ | .ret | .fail => by simp [Sm.ouI]
  | .rep n b => by simp [Sm.ouI]
  | .try_ a b => by
    have h1 := ou_len a; have h2 := ou_len b
    simp only [Sm.ouI, Sm.flI, List.length_append]; omega
theorem ou_len : ∀ b : List Sm, (Sm.ou b).length ≤ (Sm.fl b).length
  | [] => by simp [Sm.ou]
  | s :: r => by
    have h1 := ouI_len s; have h2 := ou_len r
    simp only [Sm.ou, Sm.fl, List.length_cons, List.length_append]; omega
end
mutual
theorem dep_fl : ∀ (s t : Sm), t ∈ Sm.flI s → Sm.dep t ≤ Sm.dep s
  | .say _, _, h | .pause, _, h | .start _ _, _, h | .wait _, _, h | .adopt _, _, h | .ret, _, h | .fail, _, h => by simp [Sm.flI] at h
  | .try_ a b, t, h => by
    simp only [Sm.flI, List.mem_append] at h
    simp only [Sm.dep]
    rcases h with h | h
    · have := deps_fl a t h; omega
    · have := deps_fl b t h; omega
  | .rep n b, t, h => by
    simp only [Sm.flI] at h
    have := deps_fl b t h
    simp only [Sm.dep]; omega
theorem deps_fl : ∀ (b : List Sm) (t : Sm), t ∈ Sm.fl b → Sm.dep t ≤ Sm.deps b
  | [], _, h => by simp [Sm.fl] at h
  | s :: r, t, h => by
    simp only [Sm.fl, List.mem_cons, List.mem_append] at h
    simp only [Sm.deps]
    rcases h with rfl | h | h
    · omega
    · have := dep_fl s t h; omega
    · have := deps_fl r t h; omega
end
/-- a comprehension whose steps leave things behind -/
theorem lc_grw {α : Type} {σ : LSt} {g : MG} {e : ME} {h0 : LH} {chk : LH → Bool} (en f : α → LV) (hc : ∀ H, Keep h0 H → chk H = true) : ∀ (xs : List α) (ys : List LV) (H : LH),
    (∀ x ∈ xs, ∃ σ1, g (en x) σ = some σ1 ∧ ∀ H, Keep h0 H → h0.length < H.length → ∃ H', Keep H H' ∧ e σ1 H = .ok (f x) H') → ys.length + xs.length ≤ szL → Keep h0 H → H[h0.length]? = some (.lst ys) →
    ∃ H', Keep h0 H' ∧ H'[h0.length]? = some (.lst (ys ++ xs.map f)) ∧ lcM chk g bYes e σ h0.length (xs.map en) H = .ok () H'
  | [], ys, H, _, _, K, hD => ⟨H, K, by simpa using hD, by simp [lcM, hc H K]⟩
  | x :: xs, ys, H, Hs, hl, K, hD => by
    obtain ⟨σ1, hg, he⟩ := Hs x (by simp)
    simp only [List.length_cons] at hl
    have hlt : h0.length < H.length := (List.getElem?_eq_some_iff.mp hD).1
    obtain ⟨H1, K1, e1⟩ := he H K hlt
    have hD1 := K1.get hD
    have hlt1 : h0.length < H1.length := (List.getElem?_eq_some_iff.mp hD1).1
    obtain ⟨H2, K2, q2, e2⟩ := lc_grw (e := e) (g := g) (σ := σ) en f hc xs (ys ++ [f x]) (H1.set h0.length (.lst (ys ++ [f x]))) (fun y hy => Hs y (by simp [hy])) (by simp; omega) ((K.trans K1).set (Nat.le_refl _)) (by rw [List.getElem?_set_self hlt1])
    refine ⟨H2, K2, by simpa using q2, ?_⟩
    rw [List.map_cons, lcM]
    simp [hg, hc H K, bYes, e1, hD1]
    rw [if_pos (by omega)]
    exact e2
/-! ### numbers of bodies moved on -/
mutual
def Sm.shi (c : Int) : Sm → Sm
  | .start t nm => .start (t + c) nm
  | .try_ a b => .try_ (Sm.shis c a) (Sm.shis c b)
  | .rep m b => .rep m (Sm.shis c b)
  | .say w => .say w
  | .pause => .pause
  | .wait nm => .wait nm
  | .adopt nm => .adopt nm
  | .ret => .ret
  | .fail => .fail
def Sm.shis (c : Int) : List Sm → List Sm
  | [] => []
  | s :: r => Sm.shi c s :: Sm.shis c r
end
mutual
theorem shi_keep (c : Int) : ∀ s : Sm, short (Sm.shi c s) = short s ∧ Sm.dep (Sm.shi c s) = Sm.dep s ∧ Sm.rsm (Sm.shi c s) = Sm.rsm s ∧ (Sm.inn (Sm.shi c s)).length = (Sm.inn s).length
  | .say w | .pause | .wait nm | .adopt nm | .ret | .fail | .start t nm => ⟨rfl, rfl, rfl, rfl⟩
  | .try_ a b => by
    obtain ⟨a1, a2, a3, a4⟩ := shis_keep c a
    obtain ⟨b1, b2, b3, b4⟩ := shis_keep c b
    simp only [Sm.shi, short, Sm.dep, Sm.rsm, Sm.inn, List.length_append, a1, a2, a3, a4, b1, b2, b3, b4, and_self]
  | .rep m b => by
    obtain ⟨b1, b2, b3, b4⟩ := shis_keep c b
    simp only [Sm.shi, short, Sm.dep, Sm.rsm, Sm.inn, b1, b2, b3, b4, and_self]
theorem shis_keep (c : Int) : ∀ b : List Sm, shorts (Sm.shis c b) = shorts b ∧ Sm.deps (Sm.shis c b) = Sm.deps b ∧ Sm.rsms (Sm.shis c b) = Sm.rsms b ∧ (Sm.alls (Sm.shis c b)).length = (Sm.alls b).length
  | [] => ⟨rfl, rfl, rfl, rfl⟩
  | s :: r => by
    obtain ⟨a1, a2, a3, a4⟩ := shi_keep c s
    obtain ⟨b1, b2, b3, b4⟩ := shis_keep c r
    simp only [Sm.shis, shorts, Sm.deps, Sm.rsms, Sm.alls, List.length_cons, List.length_append, a1, a2, a3, a4, b1, b2, b3, b4, and_self]
end
mutual
theorem sok_shi {lo hi c : Int} : ∀ (s : Sm) (d : Nat), Sm.sok lo hi s d = true → Sm.sok (lo + c) (hi + c) (Sm.shi c s) d = true
  | .say w, d, h | .pause, d, h | .wait nm, d, h | .adopt nm, d, h | .ret, d, h | .fail, d, h => h
  | .start t nm, d, h => by
    simp only [Sm.sok, Sm.shi, Bool.and_eq_true, decide_eq_true_eq] at h ⊢
    exact ⟨⟨by omega, by omega⟩, h.2⟩
  | .try_ a b, d, h => by
    simp only [Sm.sok, Sm.shi, Bool.and_eq_true] at h ⊢
    exact ⟨⟨h.1.1, soks_shi a _ h.1.2⟩, h.2.1, soks_shi b _ h.2.2⟩
  | .rep m b, d, h => by
    simp only [Sm.sok, Sm.shi, Bool.and_eq_true] at h ⊢
    exact ⟨h.1, h.2.1, soks_shi b _ h.2.2⟩
theorem soks_shi {lo hi c : Int} : ∀ (b : List Sm) (d : Nat), Sm.soks lo hi b d = true → Sm.soks (lo + c) (hi + c) (Sm.shis c b) d = true
  | [], d, h => rfl
  | s :: r, d, h => by
    simp only [Sm.soks, Sm.shis, Bool.and_eq_true] at h ⊢
    exact ⟨sok_shi s d h.1, soks_shi r d h.2⟩
end
mutual
theorem sok_mono {lo hi lo' hi' : Int} (h1 : lo' ≤ lo) (h2 : hi ≤ hi') : ∀ (s : Sm) (d : Nat), Sm.sok lo hi s d = true → Sm.sok lo' hi' s d = true
  | .say w, d, h | .pause, d, h | .wait nm, d, h | .adopt nm, d, h | .ret, d, h | .fail, d, h => h
  | .start t nm, d, h => by
    simp only [Sm.sok, Bool.and_eq_true, decide_eq_true_eq] at h ⊢
    exact ⟨⟨by omega, by omega⟩, h.2⟩
  | .try_ a b, d, h => by
    simp only [Sm.sok, Bool.and_eq_true] at h ⊢
    exact ⟨⟨h.1.1, soks_mono h1 h2 a _ h.1.2⟩, h.2.1, soks_mono h1 h2 b _ h.2.2⟩
  | .rep m b, d, h => by
    simp only [Sm.sok, Bool.and_eq_true] at h ⊢
    exact ⟨h.1, h.2.1, soks_mono h1 h2 b _ h.2.2⟩
theorem soks_mono {lo hi lo' hi' : Int} (h1 : lo' ≤ lo) (h2 : hi ≤ hi') : ∀ (b : List Sm) (d : Nat), Sm.soks lo hi b d = true → Sm.soks lo' hi' b d = true
  | [], d, h => rfl
  | s :: r, d, h => by
    simp only [Sm.soks, Bool.and_eq_true] at h ⊢
    exact ⟨sok_mono h1 h2 s d h.1, soks_mono h1 h2 r d h.2⟩
end
theorem arbs_app (n : Int) : ∀ (p q : List (List Sm)) (i : Nat), arbs n i (p ++ q) = (arbs n i p && arbs n (i + p.length) q)
  | [], q, i => by simp [arbs]
  | b :: r, q, i => by
    rw [List.cons_append, arbs, arbs, arbs_app n r q (i + 1), List.length_cons, show i + 1 + r.length = i + (r.length + 1) by omega]
    simp only [Bool.and_assoc]
theorem arbs_mono {m n : Int} (h : m ≤ n) : ∀ (p : List (List Sm)) (i : Nat), arbs m i p = true → arbs n i p = true
  | [], i, _ => rfl
  | b :: r, i, q => by
    simp only [arbs, Bool.and_eq_true] at q ⊢
    exact ⟨⟨soks_mono (by omega) h b 0 q.1.1, q.1.2⟩, arbs_mono h r (i + 1) q.2⟩
theorem arbs_shi {m : Int} {c : Nat} : ∀ (p : List (List Sm)) (i : Nat), arbs m i p = true → arbs (m + c) (i + c) (p.map (Sm.shis c)) = true
  | [], i, _ => rfl
  | b :: r, i, q => by
    simp only [arbs, List.map_cons, Bool.and_eq_true, decide_eq_true_eq] at q ⊢
    have := soks_shi (c := (c : Int)) b 0 q.1.1
    rw [show ((i : Int) + (c : Int)) = ((i + c : Nat) : Int) by omega] at this
    refine ⟨⟨this, ?_⟩, ?_⟩
    · rw [(shis_keep (c : Int) b).2.2.2]; exact q.1.2
    · have := arbs_shi (c := c) r (i + 1) q.2
      rw [show i + 1 + c = i + c + 1 by omega] at this
      exact this
theorem arbs_get {n : Int} : ∀ (p : List (List Sm)) (i : Nat), arbs n i p = true → ∀ (j : Nat) (b : List Sm), p[j]? = some b → Sm.soks ((i + j : Nat) : Int) n b 0 = true ∧ (Sm.alls b).length ≤ 40
  | [], i, _, j, b, e => by simp at e
  | c :: r, i, h, 0, b, e => by
    simp only [arbs, Bool.and_eq_true, decide_eq_true_eq] at h
    simp at e; subst e
    exact h.1
  | c :: r, i, h, j + 1, b, e => by
    simp only [arbs, Bool.and_eq_true, decide_eq_true_eq] at h
    have := arbs_get r (i + 1) h.2 j b (by simpa using e)
    rw [show i + 1 + j = i + (j + 1) by omega] at this
    exact this
mutual
theorem w_sok {lo hi : Int} {z y : Int → Int} (h : ∀ t : Int, lo < t → t < hi → z t = y t) : ∀ (s : Sm) (d : Nat), Sm.sok lo hi s d = true → Sm.w z s = Sm.w y s
  | .say _, d, _ | .pause, d, _ | .wait _, d, _ | .adopt _, d, _ | .ret, d, _ | .fail, d, _ => by simp [Sm.w]
  | .start t nm, d, hs => by
    simp only [Sm.sok, Bool.and_eq_true, decide_eq_true_eq] at hs
    simp only [Sm.w, h t hs.1.1 hs.1.2]
  | .try_ a b, d, hs => by
    simp only [Sm.sok, Bool.and_eq_true] at hs
    simp only [Sm.w, ws_sok h a _ hs.1.2, ws_sok h b _ hs.2.2]
  | .rep n b, d, hs => by
    simp only [Sm.sok, Bool.and_eq_true] at hs
    simp only [Sm.w, ws_sok h b _ hs.2.2]
theorem ws_sok {lo hi : Int} {z y : Int → Int} (h : ∀ t : Int, lo < t → t < hi → z t = y t) : ∀ (b : List Sm) (d : Nat), Sm.soks lo hi b d = true → Sm.ws z b = Sm.ws y b
  | [], d, _ => rfl
  | s :: r, d, hs => by
    simp only [Sm.soks, Bool.and_eq_true] at hs
    simp only [Sm.ws, w_sok h s d hs.1, ws_sok h r d hs.2]
end
/-- sizes are as they are told: from body m on -/
def Szd (p : List (List Sm)) (m : Nat) (z : Int → Int) : Prop := ∀ (t : Nat) (b : List Sm), m ≤ t → p[t]? = some b → z (t : Int) = 1 + (1 + Sm.ws z b)
theorem zrun_szd {p : List (List Sm)} (ha : arbs p.length 0 p = true) : ∀ (m : Nat) (z : Int → Int), m ≤ p.length → Szd p m z → Szd p 0 (zrun p m z)
  | 0, z, hm, h => h
  | m + 1, z, hm, h => by
    have hpm : p[m]? = some p[m] := List.getElem?_eq_getElem (by omega)
    rw [zrun, hpm, Option.getD_some]
    refine zrun_szd ha m _ (by omega) fun t b ht hb => ?_
    have hs := (arbs_get p 0 ha t b hb).1
    rw [Nat.zero_add] at hs
    have hw : Sm.ws (upd z m (1 + (1 + Sm.ws z p[m]))) b = Sm.ws z b := ws_sok (lo := (t : Int)) (hi := (p.length : Int)) (fun u h1 h2 => by unfold upd; rw [if_neg (by omega)]) b 0 hs
    rw [hw]
    by_cases e : t = m
    · subst e
      rw [hpm] at hb; cases hb
      unfold upd; rw [if_pos rfl]
    · have hz := h t b (by omega) hb
      unfold upd; rw [if_neg (by omega)]; exact hz
theorem szd_unique {p : List (List Sm)} (ha : arbs p.length 0 p = true) {z y : Int → Int} (hz : Szd p 0 z) (hy : Szd p 0 y) : ∀ (k t : Nat), t + k = p.length → ∀ u : Nat, t ≤ u → u < p.length → z (u : Int) = y (u : Int)
  | 0, t, hk, u, h1, h2 => by omega
  | k + 1, t, hk, u, h1, h2 => by
    have ih := szd_unique ha hz hy k (t + 1) (by omega)
    by_cases e : t + 1 ≤ u
    · exact ih u e h2
    · have hpu : p[u]? = some p[u] := List.getElem?_eq_getElem h2
      have hs := (arbs_get p 0 ha u _ hpu).1
      rw [Nat.zero_add] at hs
      rw [hz u _ (Nat.zero_le _) hpu, hy u _ (Nat.zero_le _) hpu]
      have : Sm.ws z p[u] = Sm.ws y p[u] := ws_sok (lo := (u : Int)) (hi := (p.length : Int)) (fun v q1 q2 => by
        obtain ⟨w, rfl⟩ : ∃ w : Nat, v = w := ⟨v.toNat, by omega⟩
        exact ih w (by omega) (by omega)) p[u] 0 hs
      rw [this]
theorem szd_run {p : List (List Sm)} (ha : arbs p.length 0 p = true) (z : Int → Int) : Szd p 0 (zrun p p.length z) := zrun_szd ha p.length z (Nat.le_refl _) fun t b h1 h2 => absurd (List.getElem?_eq_some_iff.mp h2).1 (by omega)
/-- the sizes, told from any beginning -/
theorem szd_any {p : List (List Sm)} (ha : arbs p.length 0 p = true) (y z : Int → Int) {t : Nat} {b : List Sm} (hb : p[t]? = some b) : zrun p p.length y (t : Int) = 1 + (1 + Sm.ws (zrun p p.length z) b) := by
  rw [← szd_run ha z t b (Nat.zero_le _) hb]
  exact szd_unique ha (szd_run ha y) (szd_run ha z) p.length 0 (by omega) t (Nat.zero_le _) (List.getElem?_eq_some_iff.mp hb).1
/-! ### plain, and how deep -/
mutual
theorem enc_pn : ∀ s : Sm, (Sm.enc s).pn = true
  | .say _ | .pause | .start _ _ | .wait _ | .adopt _ | .ret | .fail => by simp [Sm.enc, LV.pn, LV.pns]
  | .try_ a b => by simp [Sm.enc, LV.pn, LV.pns, encs_pn a, encs_pn b]
  | .rep n b => by simp [Sm.enc, LV.pn, LV.pns, encs_pn b]
theorem encs_pn : ∀ b : List Sm, LV.pns (Sm.encs b) = true
  | [] => by simp [Sm.encs, LV.pns]
  | s :: r => by simp [Sm.encs, LV.pns, enc_pn s, encs_pn r]
end
theorem encP_pn (p : List (List Sm)) : LV.pn (.tup (encP p)) = true := by
  rw [LV.pn]; exact pns_all (by intro x hx; simp only [encP, List.mem_map] at hx; obtain ⟨b, _, rfl⟩ := hx; rw [LV.pn]; exact encs_pn b)
@[simp] theorem dok_str (d : Nat) (s : List Nat) : LV.dok d (.str s) := by cases d <;> trivial
@[simp] theorem dok_int (d : Nat) (s : Int) : LV.dok d (.int s) := by cases d <;> trivial
@[simp] theorem dok_bl (d : Nat) (s : Bool) : LV.dok d (.bl s) := by cases d <;> trivial
@[simp] theorem dok_non (d : Nat) : LV.dok d .non := by cases d <;> trivial
mutual
theorem enc_dok : ∀ (s : Sm) (e : Nat), Sm.dep s ≤ e → (Sm.inn s).length < 16777216 → LV.dok (2 * e + 1) (Sm.enc s)
  | .say _, e, _, _ | .pause, e, _, _ | .start _ _, e, _, _ | .wait _, e, _, _ | .adopt _, e, _, _ | .ret, e, _, _ | .fail, e, _, _ => by simp [Sm.enc, LV.dok]
  | .try_ a b, e, h, hl => by
    simp only [Sm.dep] at h
    simp only [Sm.inn, List.length_append] at hl
    obtain ⟨e, rfl⟩ : ∃ f, e = f + 1 := ⟨e - 1, by omega⟩
    have h1 := encs_dok a e (by omega) (by omega)
    have h2 := encs_dok b e (by omega) (by omega)
    rw [show 2 * (e + 1) + 1 = (2 * e + 1) + 1 + 1 by omega]
    simp only [Sm.enc, LV.dok, List.length_cons, List.length_nil]
    refine ⟨by decide, fun x hx => ?_⟩
    simp only [List.mem_cons, List.not_mem_nil, or_false] at hx
    rcases hx with rfl | rfl | rfl
    · simp
    · exact h1
    · exact h2
  | .rep n b, e, h, hl => by
    simp only [Sm.dep] at h
    simp only [Sm.inn] at hl
    obtain ⟨e, rfl⟩ : ∃ f, e = f + 1 := ⟨e - 1, by omega⟩
    have h2 := encs_dok b e (by omega) (by omega)
    rw [show 2 * (e + 1) + 1 = (2 * e + 1) + 1 + 1 by omega]
    simp only [Sm.enc, LV.dok, List.length_cons, List.length_nil]
    refine ⟨by decide, fun x hx => ?_⟩
    simp only [List.mem_cons, List.not_mem_nil, or_false] at hx
    rcases hx with rfl | rfl | rfl
    · simp
    · simp
    · exact h2
theorem encs_dok : ∀ (b : List Sm) (e : Nat), Sm.deps b ≤ e → (Sm.alls b).length < 16777216 → LV.dok (2 * e + 1 + 1) (.tup (Sm.encs b))
  | [], e, _, _ => by simp [Sm.encs, LV.dok]
  | s :: r, e, h, hl => by
    simp only [Sm.deps] at h
    simp only [Sm.alls, List.length_cons, List.length_append] at hl
    have h1 := enc_dok s e (by omega) (by omega)
    have h2 := encs_dok r e (by omega) (by omega)
    simp only [LV.dok] at h2
    have hle : ∀ b : List Sm, b.length ≤ (Sm.alls b).length := by
      intro b
      induction b with
      | nil => simp
      | cons s r ih => simp only [Sm.alls, List.length_cons, List.length_append]; omega
    have := hle r
    simp only [LV.dok, Sm.encs, List.length_cons, encs_len]
    refine ⟨by omega, fun x hx => ?_⟩
    rcases List.mem_cons.mp hx with rfl | hx
    · exact h1
    · exact h2.2 x hx
end
theorem encP_dok {p : List (List Sm)} {e : Nat} (hl : p.length < 16777216) (h : ∀ b ∈ p, Sm.deps b ≤ e ∧ (Sm.alls b).length < 16777216) : LV.dok (2 * e + 1 + 1 + 1) (.tup (encP p)) := by
  simp only [LV.dok, encP_len]
  refine ⟨hl, fun x hx => ?_⟩
  simp only [encP, List.mem_map] at hx
  obtain ⟨b, hb, rfl⟩ := hx
  exact encs_dok b e (h b hb).1 (h b hb).2
/-- bodies that the law can look at -/
def lkb (d : Nat) (p : List (List Sm)) : Prop := ∀ b ∈ p, shorts b = true ∧ (Sm.alls b).length ≤ 10000 ∧ Sm.deps b ≤ d ∧ Sm.rsms b = true
end Mi
namespace Mi.T
/-! The linked text as functions of the logic layer. Printed by gen.py. -/
abbrev wN : Nat := 1000000
def i_body_sizes : Nat := 0
def i__block_size : Nat := 1
def i__statement_size : Nat := 2
def i__law_cell : Nat := 3
def i__law_digits : Nat := 4
def i__law_box : Nat := 5
def i__law_draw : Nat := 6
def i__law_is_integer : Nat := 7
def i__law_same : Nat := 8
def i__law_word : Nat := 9
def i__law_block : Nat := 10
def i__law_count : Nat := 11
def i__law_weight : Nat := 12
def i__law_program : Nat := 13
def i__law_measure : Nat := 14
def i__law_sizes : Nat := 15
def i__law_chain : Nat := 16
def i_law : Nat := 17
abbrev b_body_sizes_0 (C : Or) : MS :=
    (sSub (mVar 1) (mVar 2) (mOp opAdd (mC (.int 1)) (mCall C i__block_size (aCons (mOp opIx (mVar 0) (mVar 2)) (aCons (mVar 1) aNil)))))
/-- body_sizes(program): 0 program, 1 sizes, 2 number -/
def m_body_sizes (C : Or) : MS :=
    (sSeq (sSet 1 (mOp opMul (mLst (aCons (mC (.int 0)) aNil)) (mOp opAdd (mB fLen (aCons (mVar 0) aNil)) (mC (.int 1)))))
    (sSeq (sFor (iRevRange1 (mB fLen (aCons (mVar 0) aNil))) (gNm 2) (b_body_sizes_0 C))
    (sRet (mB fTuple (aCons (mSl (mVar 1) oNone (oSome (mUn opNeg (mC (.int 1))))) aNil)))))
abbrev b__block_size_0 (C : Or) : MS :=
    (sAug opIAdd 2 (mCall C i__statement_size (aCons (mVar 3) (aCons (mVar 1) aNil))))
/-- _block_size(block, sizes): 0 block, 1 sizes, 2 total, 3 statement -/
def m__block_size (C : Or) : MS :=
    (sSeq (sSet 2 (mC (.int 1)))
    (sSeq (sFor (iSeqL (mVar 0)) (gNm 3) (b__block_size_0 C))
    (sRet (mVar 2))))
/-- _statement_size(statement, sizes): 0 statement, 1 sizes, 2 kind -/
def m__statement_size (C : Or) : MS :=
    (sSeq (sSet 2 (mOp opIx (mVar 0) (mC (.int 0))))
    (sSeq (sIf (bE (mOp opEq (mVar 2) (mC (.str [115, 116, 97, 114, 116])))) (sRet (mOp opAdd (mC (.int 1)) (mOp opIx (mVar 1) (mOp opIx (mVar 0) (mC (.int 1)))))) sNext)
    (sSeq (sIf (bE (mOp opEq (mVar 2) (mC (.str [116, 114, 121])))) (sRet (mOp opAdd (mOp opAdd (mC (.int 2)) (mCall C i__block_size (aCons (mOp opIx (mVar 0) (mC (.int 1))) (aCons (mVar 1) aNil)))) (mCall C i__block_size (aCons (mOp opIx (mVar 0) (mC (.int 2))) (aCons (mVar 1) aNil))))) sNext)
    (sSeq (sIf (bE (mOp opEq (mVar 2) (mC (.str [114, 101, 112, 101, 97, 116])))) (sRet (mOp opAdd (mC (.int 2)) (mOp opMul (mOp opIx (mVar 0) (mC (.int 1))) (mOp opAdd (mC (.int 1)) (mCall C i__block_size (aCons (mOp opIx (mVar 0) (mC (.int 2))) (aCons (mVar 1) aNil))))))) sNext)
    (sRet (mC (.int 1)))))))
/-- _law_cell(script, k): 0 script, 1 k -/
def m__law_cell (C : Or) : MS :=
    (sSeq (sIf (bE (mOp opLt (mVar 1) (mB fLen (aCons (mVar 0) aNil)))) (sRet (mB fInt (aCons (mOp opIx (mVar 0) (mVar 1)) aNil))) sNext)
    (sRet (mC (.int 0))))
abbrev b__law_digits_0 (C : Or) : MS :=
    (sIf (bE (mOp opGt (mVar 0) (mC (.int 0)))) (sSeq (sExpr (mM isLst mtAppend (mVar 2) (aCons (mOp opMod (mB fInt (aCons (mVar 0) aNil)) (mC (.int 1000))) aNil)))
    (sSet 0 (mOp opDiv (mVar 0) (mC (.int 1000))))) sNext)
abbrev b__law_digits_1 (C : Or) : MS :=
    (sSeq (sSet 4 (mOp opMod (mB fInt (aCons (mOp opAdd (mOp opAdd (mOp opMul (mVar 4) (mC (.int 16807))) (mOp opMul (mC (.int 7)) (mVar 3))) (mC (.int 1))) aNil)) (mC (.int 2147483647))))
    (sExpr (mM isLst mtAppend (mVar 2) (aCons (mOp opMod (mB fInt (aCons (mOp opDiv (mVar 4) (mC (.int 997))) aNil)) (mC (.int 1000))) aNil))))
/-- _law_digits(cell, at): 0 cell, 1 at, 2 digits, 3 turn, 4 seed -/
def m__law_digits (C : Or) : MS :=
    (sSeq (sSet 2 (mLst aNil))
    (sSeq (sIf (bE (mOp opLt (mVar 0) (mC (.int 0)))) (sSet 0 (mOp opSub (mC (.int 1)) (mOp opMul (mC (.int 2)) (mVar 0)))) sNext)
    (sSeq (sIf (bE (mOp opGe (mVar 0) (mOp opPow (mC (.int 10)) (mC (.int 18))))) (sFor (iRange1 (mC (.int 60))) (gNm 3) (b__law_digits_0 C)) (sSeq (sSet 4 (mOp opMod (mB fInt (aCons (mOp opAdd (mOp opAdd (mOp opMul (mVar 0) (mC (.int 48271))) (mOp opMul (mVar 1) (mC (.int 69621)))) (mC (.int 11))) aNil)) (mC (.int 2147483647))))
    (sFor (iRange1 (mC (.int 60))) (gNm 3) (b__law_digits_1 C))))
    (sRet (mVar 2)))))
/-- _law_box(script, at): 0 script, 1 at -/
def m__law_box (C : Or) : MS :=
    (sRet (mLst (aCons (mCall C i__law_digits (aCons (mCall C i__law_cell (aCons (mVar 0) (aCons (mVar 1) aNil))) (aCons (mVar 1) aNil))) (aCons (mC (.int 0)) aNil))))
/-- _law_draw(box, many): 0 box, 1 many, 2 at -/
def m__law_draw (C : Or) : MS :=
    (sSeq (sSet 2 (mOp opIx (mVar 0) (mC (.int 1))))
    (sSeq (sSub (mVar 0) (mC (.int 1)) (mOp opAdd (mVar 2) (mC (.int 1))))
    (sSeq (sIf (bE (mOp opLt (mVar 2) (mB fLen (aCons (mOp opIx (mVar 0) (mC (.int 0))) aNil)))) (sRet (mOp opMod (mB fInt (aCons (mOp opIx (mOp opIx (mVar 0) (mC (.int 0))) (mVar 2)) aNil)) (mVar 1))) sNext)
    (sRet (mC (.int 0))))))
/-- _law_is_integer(actual): 0 actual -/
def m__law_is_integer (C : Or) : MS :=
    (sRet (mAnd (mUn (isTy .int) (mVar 0)) (mNot (mUn (isTy .bool) (mVar 0)))))
abbrev b__law_same_0 (C : Or) : ME :=
    (mCall C i__law_same (aCons (mOp opIx (mVar 0) (mVar 2)) (aCons (mOp opIx (mVar 1) (mVar 2)) aNil)))
/-- _law_same(actual, due): 0 actual, 1 due, 2 at -/
def m__law_same (C : Or) : MS :=
    (sSeq (sIf (bE (mUn (isTy .tuple) (mVar 1))) (sSeq (sIf (bOr (bNot (bE (mUn (isTy .tuple) (mVar 0)))) (bE (mOp opNe (mB fLen (aCons (mVar 0) aNil)) (mB fLen (aCons (mVar 1) aNil))))) (sRet (mC (.bl false))) sNext)
    (sRet (mB fAll (aCons (mLc (iRange1 (mB fLen (aCons (mVar 1) aNil))) (gNm 2) bYes (b__law_same_0 C) [2]) aNil)))) sNext)
    (sSeq (sIf (bE (mUn (isTy .bool) (mVar 1))) (sRet (mAnd (mUn (isTy .bool) (mVar 0)) (mOp opEq (mVar 0) (mVar 1)))) sNext)
    (sSeq (sIf (bE (mUn (isTy .int) (mVar 1))) (sRet (mAnd (mCall C i__law_is_integer (aCons (mVar 0) aNil)) (mOp opEq (mVar 0) (mVar 1)))) sNext)
    (sSeq (sIf (bE (mUn (isTy .str) (mVar 1))) (sRet (mAnd (mUn (isTy .str) (mVar 0)) (mOp opEq (mVar 0) (mVar 1)))) sNext)
    (sRet (mAnd (mUn opIsN (mVar 0)) (mUn opIsN (mVar 1))))))))
/-- _law_word(box): 0 box -/
def m__law_word (C : Or) : MS :=
    (sRet (mOp opIx (mTup (aCons (mC (.str [97])) (aCons (mC (.str [98])) (aCons (mC (.str [99])) (aCons (mC (.str [100])) (aCons (mC (.str [101, 48])) (aCons (mC (.str [120])) (aCons (mC (.str [57])) (aCons (mC (.str [108, 111, 110, 103, 101, 114, 57, 57])) aNil))))))))) (mCall C i__law_draw (aCons (mVar 0) (aCons (mC (.int 8)) aNil)))))
abbrev b__law_block_0 (C : Or) : MS :=
    (sSeq (sSet 7 (mCall C i__law_draw (aCons (mVar 0) (aCons (mC (.int 16)) aNil))))
    (sSeq (sSet 8 (mOp opIx (mTup (aCons (mC (.str [97])) (aCons (mC (.str [98])) (aCons (mC (.str [97])) (aCons (mC (.str [99])) (aCons (mC (.str [100])) (aCons (mC (.str [97])) aNil))))))) (mCall C i__law_draw (aCons (mVar 0) (aCons (mC (.int 6)) aNil)))))
    (sIf (bE (mOp opLt (mVar 7) (mC (.int 4)))) (sExpr (mM isLst mtAppend (mVar 5) (aCons (mTup (aCons (mC (.str [115, 97, 121])) (aCons (mCall C i__law_word (aCons (mVar 0) aNil)) aNil))) aNil))) (sIf (bE (mOp opLt (mVar 7) (mC (.int 6)))) (sExpr (mM isLst mtAppend (mVar 5) (aCons (mTup (aCons (mC (.str [112, 97, 117, 115, 101])) aNil)) aNil))) (sIf (bAnd (bE (mOp opLt (mVar 7) (mC (.int 9)))) (bE (mOp opLt (mOp opAdd (mVar 3) (mC (.int 1))) (mVar 4)))) (sExpr (mM isLst mtAppend (mVar 5) (aCons (mTup (aCons (mC (.str [115, 116, 97, 114, 116])) (aCons (mOp opAdd (mOp opAdd (mVar 3) (mC (.int 1))) (mCall C i__law_draw (aCons (mVar 0) (aCons (mOp opSub (mOp opSub (mVar 4) (mVar 3)) (mC (.int 1))) aNil)))) (aCons (mVar 8) aNil)))) aNil))) (sIf (bE (mOp opLt (mVar 7) (mC (.int 11)))) (sExpr (mM isLst mtAppend (mVar 5) (aCons (mTup (aCons (mC (.str [119, 97, 105, 116])) (aCons (mVar 8) aNil))) aNil))) (sIf (bE (mOp opEq (mVar 7) (mC (.int 11)))) (sExpr (mM isLst mtAppend (mVar 5) (aCons (mOp opIx (mTup (aCons (mTup (aCons (mC (.str [97, 100, 111, 112, 116])) (aCons (mVar 8) aNil))) (aCons (mTup (aCons (mC (.str [102, 97, 105, 108])) aNil)) (aCons (mTup (aCons (mC (.str [114, 101, 116, 117, 114, 110])) aNil)) (aCons (mTup (aCons (mC (.str [112, 97, 117, 115, 101])) aNil)) aNil))))) (mCall C i__law_draw (aCons (mVar 0) (aCons (mC (.int 4)) aNil)))) aNil))) (sIf (bAnd (bE (mOp opLt (mVar 7) (mC (.int 14)))) (bE (mOp opGt (mVar 1) (mC (.int 0))))) (sSeq (sSet 9 (mCall C i__law_block (aCons (mVar 0) (aCons (mOp opSub (mVar 1) (mC (.int 1))) (aCons (mC (.int 3)) (aCons (mVar 3) (aCons (mVar 4) aNil)))))))
    (sExpr (mM isLst mtAppend (mVar 5) (aCons (mTup (aCons (mC (.str [116, 114, 121])) (aCons (mVar 9) (aCons (mCall C i__law_block (aCons (mVar 0) (aCons (mOp opSub (mVar 1) (mC (.int 1))) (aCons (mC (.int 2)) (aCons (mVar 3) (aCons (mVar 4) aNil)))))) aNil)))) aNil)))) (sIf (bE (mOp opGt (mVar 1) (mC (.int 0)))) (sExpr (mM isLst mtAppend (mVar 5) (aCons (mTup (aCons (mC (.str [114, 101, 112, 101, 97, 116])) (aCons (mCall C i__law_draw (aCons (mVar 0) (aCons (mC (.int 4)) aNil))) (aCons (mCall C i__law_block (aCons (mVar 0) (aCons (mOp opSub (mVar 1) (mC (.int 1))) (aCons (mC (.int 3)) (aCons (mVar 3) (aCons (mVar 4) aNil)))))) aNil)))) aNil))) (sExpr (mM isLst mtAppend (mVar 5) (aCons (mTup (aCons (mC (.str [115, 97, 121])) (aCons (mCall C i__law_word (aCons (mVar 0) aNil)) aNil))) aNil))))))))))))
/-- _law_block(box, depth, most, body, bodies): 0 box, 1 depth, 2 most, 3 body, 4 bodies, 5 found, 6 turn, 7 kind, 8 name, 9 first -/
def m__law_block (C : Or) : MS :=
    (sSeq (sSet 5 (mLst aNil))
    (sSeq (sFor (iRange1 (mCall C i__law_draw (aCons (mVar 0) (aCons (mOp opAdd (mVar 2) (mC (.int 1))) aNil)))) (gNm 6) (b__law_block_0 C))
    (sRet (mB fTuple (aCons (mVar 5) aNil)))))
abbrev b__law_count_0 (C : Or) : MS :=
    (sIf (bE (mUn (isTy .tuple) (mVar 3))) (sSet 1 (mOp opAdd (mVar 1) (mCall C i__law_count (aCons (mVar 3) aNil)))) sNext)
abbrev b__law_count_1 (C : Or) : MS :=
    (sSeq (sSet 1 (mOp opAdd (mVar 1) (mC (.int 1))))
    (sFor (iSeqL (mSl (mVar 2) (oSome (mC (.int 1))) oNone)) (gNm 3) (b__law_count_0 C)))
/-- _law_count(block): 0 block, 1 found, 2 item, 3 part -/
def m__law_count (C : Or) : MS :=
    (sSeq (sSet 1 (mC (.int 0)))
    (sSeq (sFor (iSeqL (mVar 0)) (gNm 2) (b__law_count_1 C))
    (sRet (mVar 1))))
abbrev b__law_weight_0 (C : Or) : MS :=
    (sIf (bE (mOp opEq (mOp opIx (mVar 3) (mC (.int 0))) (mC (.str [115, 116, 97, 114, 116])))) (sSet 2 (mOp opAdd (mOp opAdd (mVar 2) (mC (.int 1))) (mM isDct mtGet2 (mVar 1) (aCons (mOp opIx (mVar 3) (mC (.int 1))) (aCons (mC (.int 1)) aNil))))) (sIf (bE (mOp opEq (mOp opIx (mVar 3) (mC (.int 0))) (mC (.str [116, 114, 121])))) (sSet 2 (mOp opAdd (mOp opAdd (mOp opAdd (mVar 2) (mC (.int 2))) (mCall C i__law_weight (aCons (mOp opIx (mVar 3) (mC (.int 1))) (aCons (mVar 1) aNil)))) (mCall C i__law_weight (aCons (mOp opIx (mVar 3) (mC (.int 2))) (aCons (mVar 1) aNil))))) (sIf (bE (mOp opEq (mOp opIx (mVar 3) (mC (.int 0))) (mC (.str [114, 101, 112, 101, 97, 116])))) (sSet 2 (mOp opAdd (mOp opAdd (mVar 2) (mC (.int 2))) (mOp opMul (mOp opIx (mVar 3) (mC (.int 1))) (mOp opAdd (mC (.int 1)) (mCall C i__law_weight (aCons (mOp opIx (mVar 3) (mC (.int 2))) (aCons (mVar 1) aNil))))))) (sSet 2 (mOp opAdd (mVar 2) (mC (.int 1)))))))
/-- _law_weight(block, sizes): 0 block, 1 sizes, 2 total, 3 statement -/
def m__law_weight (C : Or) : MS :=
    (sSeq (sSet 2 (mC (.int 1)))
    (sSeq (sFor (iSeqL (mVar 0)) (gNm 3) (b__law_weight_0 C))
    (sRet (mVar 2))))
abbrev b__law_program_0 (C : Or) : MS :=
    (sExpr (mM isLst mtAppend (mVar 6) (aCons (mCall C i__law_block (aCons (mCall C i__law_box (aCons (mVar 0) (aCons (mOp opAdd (mOp opAdd (mVar 1) (mC (.int 1))) (mVar 7)) aNil))) (aCons (mC (.int 2)) (aCons (mVar 3) (aCons (mVar 7) (aCons (mVar 5) aNil)))))) aNil)))
abbrev b__law_program_1 (C : Or) : MS :=
    (sSeq (sIf (bOr (bE (mOp opGt (mOp opAdd (mCall C i__law_weight (aCons (mOp opIx (mVar 6) (mVar 7)) (aCons (mVar 8) aNil))) (mC (.int 1))) (mVar 4))) (bE (mOp opGt (mCall C i__law_count (aCons (mOp opIx (mVar 6) (mVar 7)) aNil)) (mC (.int 24))))) (sSub (mVar 6) (mVar 7) (mTup (aCons (mTup (aCons (mC (.str [115, 97, 121])) (aCons (mC (.str [97])) aNil))) (aCons (mTup (aCons (mC (.str [112, 97, 117, 115, 101])) aNil)) aNil)))) sNext)
    (sSub (mVar 8) (mVar 7) (mOp opAdd (mC (.int 1)) (mCall C i__law_weight (aCons (mOp opIx (mVar 6) (mVar 7)) (aCons (mVar 8) aNil))))))
/-- _law_program(script, first, most, length, room): 0 script, 1 first, 2 most, 3 length, 4 room, 5 bodies, 6 found, 7 body, 8 sizes -/
def m__law_program (C : Or) : MS :=
    (sSeq (sSet 5 (mOp opAdd (mC (.int 1)) (mCall C i__law_draw (aCons (mCall C i__law_box (aCons (mVar 0) (aCons (mVar 1) aNil))) (aCons (mVar 2) aNil)))))
    (sSeq (sSet 6 (mLst aNil))
    (sSeq (sFor (iRange1 (mVar 5)) (gNm 7) (b__law_program_0 C))
    (sSeq (sSet 8 mDct)
    (sSeq (sFor (iRevRange1 (mVar 5)) (gNm 7) (b__law_program_1 C))
    (sRet (mB fTuple (aCons (mVar 6) aNil))))))))
abbrev b__law_measure_0 (C : Or) : MS :=
    (sIf (bE (mOp opEq (mOp opIx (mVar 3) (mC (.int 0))) (mC (.str [115, 116, 97, 114, 116])))) (sSet 2 (mOp opAdd (mOp opAdd (mVar 2) (mC (.int 1))) (mM isDct mtGet2 (mVar 1) (aCons (mOp opIx (mVar 3) (mC (.int 1))) (aCons (mC (.int 0)) aNil))))) (sIf (bE (mOp opEq (mOp opIx (mVar 3) (mC (.int 0))) (mC (.str [116, 114, 121])))) (sSet 2 (mOp opAdd (mOp opAdd (mOp opAdd (mVar 2) (mC (.int 2))) (mCall C i__law_measure (aCons (mOp opIx (mVar 3) (mC (.int 1))) (aCons (mVar 1) aNil)))) (mCall C i__law_measure (aCons (mOp opIx (mVar 3) (mC (.int 2))) (aCons (mVar 1) aNil))))) (sIf (bE (mOp opEq (mOp opIx (mVar 3) (mC (.int 0))) (mC (.str [114, 101, 112, 101, 97, 116])))) (sSet 2 (mOp opAdd (mOp opAdd (mVar 2) (mC (.int 2))) (mOp opMul (mOp opIx (mVar 3) (mC (.int 1))) (mOp opAdd (mC (.int 1)) (mCall C i__law_measure (aCons (mOp opIx (mVar 3) (mC (.int 2))) (aCons (mVar 1) aNil))))))) (sSet 2 (mOp opAdd (mVar 2) (mC (.int 1)))))))
/-- _law_measure(block, sizes): 0 block, 1 sizes, 2 total, 3 item -/
def m__law_measure (C : Or) : MS :=
    (sSeq (sSet 2 (mC (.int 1)))
    (sSeq (sFor (iSeqL (mVar 0)) (gNm 3) (b__law_measure_0 C))
    (sRet (mVar 2))))
abbrev b__law_sizes_0 (C : Or) : MS :=
    (sSub (mVar 1) (mVar 2) (mOp opAdd (mC (.int 1)) (mCall C i__law_measure (aCons (mOp opIx (mVar 0) (mVar 2)) (aCons (mVar 1) aNil)))))
abbrev b__law_sizes_1 (C : Or) : ME :=
    (mOp opIx (mVar 1) (mVar 2))
/-- _law_sizes(bodies): 0 bodies, 1 sizes, 2 body -/
def m__law_sizes (C : Or) : MS :=
    (sSeq (sSet 1 mDct)
    (sSeq (sFor (iRevRange1 (mB fLen (aCons (mVar 0) aNil))) (gNm 2) (b__law_sizes_0 C))
    (sRet (mLc (iRange1 (mB fLen (aCons (mVar 0) aNil))) (gNm 2) bYes (b__law_sizes_1 C) [2]))))
abbrev b__law_chain_0 (C : Or) : ME :=
    (mTup (aCons (mC (.str [115, 116, 97, 114, 116])) (aCons (mOp opAdd (mOp opAdd (mVar 3) (mC (.int 1))) (mCall C i__law_draw (aCons (mVar 0) (aCons (mOp opSub (mC (.int 7)) (mVar 3)) aNil)))) (aCons (mC (.str [97])) aNil))))
abbrev b__law_chain_1 (C : Or) : MS :=
    (sSeq (sSet 4 (mTup aNil))
    (sSeq (sIf (bE (mOp opLt (mVar 3) (mC (.int 7)))) (sSet 4 (mB fTuple (aCons (mLc (iRange1 (mCall C i__law_draw (aCons (mVar 0) (aCons (mC (.int 4)) aNil)))) (gNm 5) bYes (b__law_chain_0 C) [5]) aNil))) sNext)
    (sSeq (sIf (bE (mOp opGt (mOp opAdd (mC (.int 1)) (mCall C i__law_weight (aCons (mVar 4) (aCons (mVar 2) aNil)))) (mC (.int 600)))) (sSet 4 (mTup aNil)) sNext)
    (sSeq (sSub (mVar 2) (mVar 3) (mOp opAdd (mC (.int 1)) (mCall C i__law_weight (aCons (mVar 4) (aCons (mVar 2) aNil)))))
    (sSet 1 (mOp opAdd (mTup (aCons (mVar 4) aNil)) (mVar 1)))))))
/-- _law_chain(box): 0 box, 1 found, 2 sizes, 3 body, 4 block, 5 k -/
def m__law_chain (C : Or) : MS :=
    (sSeq (sSet 1 (mTup aNil))
    (sSeq (sSet 2 mDct)
    (sSeq (sFor (iRevRange1 (mC (.int 8))) (gNm 3) (b__law_chain_1 C))
    (sRet (mVar 1)))))
abbrev b_law_0 (C : Or) : MS :=
    (sIf (bNot (bE (mCall C i__law_same (aCons (mCall C i_body_sizes (aCons (mVar 1) aNil)) (aCons (mB fTuple (aCons (mCall C i__law_sizes (aCons (mVar 1) aNil)) aNil)) aNil))))) (sRet (mC (.bl false))) sNext)
/-- law(script): 0 script, 1 program -/
def m_law (C : Or) : MS :=
    (sSeq (sFor (iSeqL (mTup (aCons (mCall C i__law_program (aCons (mVar 0) (aCons (mC (.int 0)) (aCons (mC (.int 5)) (aCons (mC (.int 6)) (aCons (mC (.int 590)) aNil)))))) (aCons (mCall C i__law_chain (aCons (mCall C i__law_box (aCons (mVar 0) (aCons (mC (.int 9)) aNil))) aNil)) aNil)))) (gNm 1) (b_law_0 C))
    (sRet (mC (.bl true))))
/-- the defs, k calls deep at most -/
def run : Nat → Or
  | 0, _, _, _ => .bad
  | k + 1, i, vs, h => match i with
    | 0 => fnRun 3 (m_body_sizes (run k)) vs h
    | 1 => fnRun 4 (m__block_size (run k)) vs h
    | 2 => fnRun 3 (m__statement_size (run k)) vs h
    | 3 => fnRun 2 (m__law_cell (run k)) vs h
    | 4 => fnRun 5 (m__law_digits (run k)) vs h
    | 5 => fnRun 2 (m__law_box (run k)) vs h
    | 6 => fnRun 3 (m__law_draw (run k)) vs h
    | 7 => fnRun 1 (m__law_is_integer (run k)) vs h
    | 8 => fnRun 3 (m__law_same (run k)) vs h
    | 9 => fnRun 1 (m__law_word (run k)) vs h
    | 10 => fnRun 10 (m__law_block (run k)) vs h
    | 11 => fnRun 4 (m__law_count (run k)) vs h
    | 12 => fnRun 4 (m__law_weight (run k)) vs h
    | 13 => fnRun 9 (m__law_program (run k)) vs h
    | 14 => fnRun 4 (m__law_measure (run k)) vs h
    | 15 => fnRun 3 (m__law_sizes (run k)) vs h
    | 16 => fnRun 6 (m__law_chain (run k)) vs h
    | 17 => fnRun 2 (m_law (run k)) vs h
    | _ => .bad
theorem run_body_sizes (k : Nat) (vs : List LV) (h : LH) : run (k + 1) i_body_sizes vs h = fnRun 3 (m_body_sizes (run k)) vs h := rfl
theorem run__block_size (k : Nat) (vs : List LV) (h : LH) : run (k + 1) i__block_size vs h = fnRun 4 (m__block_size (run k)) vs h := rfl
theorem run__statement_size (k : Nat) (vs : List LV) (h : LH) : run (k + 1) i__statement_size vs h = fnRun 3 (m__statement_size (run k)) vs h := rfl
theorem run__law_cell (k : Nat) (vs : List LV) (h : LH) : run (k + 1) i__law_cell vs h = fnRun 2 (m__law_cell (run k)) vs h := rfl
theorem run__law_digits (k : Nat) (vs : List LV) (h : LH) : run (k + 1) i__law_digits vs h = fnRun 5 (m__law_digits (run k)) vs h := rfl
theorem run__law_box (k : Nat) (vs : List LV) (h : LH) : run (k + 1) i__law_box vs h = fnRun 2 (m__law_box (run k)) vs h := rfl
theorem run__law_draw (k : Nat) (vs : List LV) (h : LH) : run (k + 1) i__law_draw vs h = fnRun 3 (m__law_draw (run k)) vs h := rfl
theorem run__law_is_integer (k : Nat) (vs : List LV) (h : LH) : run (k + 1) i__law_is_integer vs h = fnRun 1 (m__law_is_integer (run k)) vs h := rfl
theorem run__law_same (k : Nat) (vs : List LV) (h : LH) : run (k + 1) i__law_same vs h = fnRun 3 (m__law_same (run k)) vs h := rfl
theorem run__law_word (k : Nat) (vs : List LV) (h : LH) : run (k + 1) i__law_word vs h = fnRun 1 (m__law_word (run k)) vs h := rfl
theorem run__law_block (k : Nat) (vs : List LV) (h : LH) : run (k + 1) i__law_block vs h = fnRun 10 (m__law_block (run k)) vs h := rfl
theorem run__law_count (k : Nat) (vs : List LV) (h : LH) : run (k + 1) i__law_count vs h = fnRun 4 (m__law_count (run k)) vs h := rfl
theorem run__law_weight (k : Nat) (vs : List LV) (h : LH) : run (k + 1) i__law_weight vs h = fnRun 4 (m__law_weight (run k)) vs h := rfl
theorem run__law_program (k : Nat) (vs : List LV) (h : LH) : run (k + 1) i__law_program vs h = fnRun 9 (m__law_program (run k)) vs h := rfl
theorem run__law_measure (k : Nat) (vs : List LV) (h : LH) : run (k + 1) i__law_measure vs h = fnRun 4 (m__law_measure (run k)) vs h := rfl
theorem run__law_sizes (k : Nat) (vs : List LV) (h : LH) : run (k + 1) i__law_sizes vs h = fnRun 3 (m__law_sizes (run k)) vs h := rfl
theorem run__law_chain (k : Nat) (vs : List LV) (h : LH) : run (k + 1) i__law_chain vs h = fnRun 6 (m__law_chain (run k)) vs h := rfl
theorem run_law (k : Nat) (vs : List LV) (h : LH) : run (k + 1) i_law vs h = fnRun 2 (m_law (run k)) vs h := rfl
end Mi.T
namespace Mi.T
/-! cells, digits, boxes, draws, words -/
/-- a script's cells -/
theorem cell_ok {k : Nat} {h : LH} {s : Nat} {vs : List Int} {i : Int} (hs : h[s]? = some (.rol (vs.map .int))) (hi : 0 ≤ i) :
    ∃ c : Int, run (k + 1) i__law_cell [.loc s, .int i] h = .ok (.int c) h := by
  rw [run__law_cell]
  simp [fnRun, m__law_cell, f_lenR _ hs, o_ixR _ hs]
  by_cases hlt : i < vs.length
  · obtain ⟨j, hj, e, rfl⟩ := ix_drw hi hlt
    simp [hlt, e, hj]
    have : j < vs.length := hj
    exact ⟨vs[j], by simp [List.getElem?_eq_getElem this, end_rt_self]⟩
  · simp [hlt, end_rt_self]
theorem digits_ok {k : Nat} {h : LH} {c : Int} {i : Int} :
    ∃ ds : List Int, run (k + 1) i__law_digits [.int c, .int i] h = .ok (.loc h.length) (h ++ [.lst (ds.map .int)]) := by
  have fin : ∀ ds : List Int, fnEnd h (.rt (.loc h.length) (h ++ [.lst (ds.map .int)])) = .ok (.loc h.length) (h ++ [.lst (ds.map .int)]) := by
    intro ds
    unfold fnEnd
    simp only
    rw [show h ++ [LO.lst (ds.map .int)] = (h ++ [LO.lst (ds.map .int)]) ++ [] by simp]
    rw [gc_one (by simp) (by simp) (by simp)]
    · simp
    · intro i o hi ho
      by_cases hh : i < h.length
      · rw [List.getElem?_append_left hh] at ho; exact .inr ho
      · left
        have : i = h.length := by omega
        subst this
        simp at ho; subst ho
        rw [LO.lim]; exact lims_all (by simp)
  have loop1 : ∀ (items : List LV) (c : Int) (t : Option LV) (x : Option LV) (ds : List Int), ds.length + items.length ≤ 60 → ∃ (c' : Int) (t' : Option LV) (ds' : List Int), ds'.length ≤ 60 ∧
      forM always (gNm 3) (sIf (bE (mOp opGt (mVar 0) (mC (.int 0)))) (sSeq (sExpr (mM isLst mtAppend (mVar 2) (aCons (mOp opMod (mB fInt (aCons (mVar 0) aNil)) (mC (.int 1000))) aNil))) (sSet 0 (mOp opDiv (mVar 0) (mC (.int 1000))))) sNext) items
        [some (.int c), some (.int i), some (.loc h.length), t, x] (h ++ [.lst (ds.map .int)]) = .nx [some (.int c'), some (.int i), some (.loc h.length), t', x] (h ++ [.lst (ds'.map .int)]) := by
    intro items
    induction items with
    | nil => intro c t x ds hl; exact ⟨c, t, ds, by simpa using hl, by simp⟩
    | cons y r ih =>
      intro c t x ds hl
      have hn : (h ++ [LO.lst (ds.map .int)])[h.length]? = some (.lst (ds.map .int)) := by simp
      simp at hl
      rw [x_forC1]
      by_cases hc : 0 < c
      · obtain ⟨c', t', ds', hl', e⟩ := ih (c / 1000) (some y) x (ds ++ [c % 1000]) (by simp; omega)
        refine ⟨c', t', ds', hl', ?_⟩
        simp at e
        simp [hc, is_lst _ hn, m_app _ hn (by simp [szL]; omega), e]
      · obtain ⟨c', t', ds', hl', e⟩ := ih c (some y) x ds (by omega)
        refine ⟨c', t', ds', hl', ?_⟩
        simp [hc, e]
  have loop2 : ∀ (items : List Int) (c : Int) (t : Option LV) (x : Int) (ds : List Int), ds.length + items.length ≤ 60 → ∃ (t' : Option LV) (x' : Int) (ds' : List Int), ds'.length ≤ 60 ∧
      forM always (gNm 3) (sSeq (sSet 4 (mOp opMod (mB fInt (aCons (mOp opAdd (mOp opAdd (mOp opMul (mVar 4) (mC (.int 16807))) (mOp opMul (mC (.int 7)) (mVar 3))) (mC (.int 1))) aNil)) (mC (.int 2147483647))))
        (sExpr (mM isLst mtAppend (mVar 2) (aCons (mOp opMod (mB fInt (aCons (mOp opDiv (mVar 4) (mC (.int 997))) aNil)) (mC (.int 1000))) aNil)))) (items.map .int)
        [some (.int c), some (.int i), some (.loc h.length), t, some (.int x)] (h ++ [.lst (ds.map .int)]) = .nx [some (.int c), some (.int i), some (.loc h.length), t', some (.int x')] (h ++ [.lst (ds'.map .int)]) := by
    intro items
    induction items with
    | nil => intro c t x ds hl; exact ⟨t, x, ds, by simpa using hl, by simp⟩
    | cons y r ih =>
      intro c t x ds hl
      have hn : (h ++ [LO.lst (ds.map .int)])[h.length]? = some (.lst (ds.map .int)) := by simp
      simp at hl
      rw [List.map_cons, x_forC1]
      obtain ⟨t', x', ds', hl', e⟩ := ih c (some (.int y)) ((x * 16807 + 7 * y + 1) % 2147483647) (ds ++ [(x * 16807 + 7 * y + 1) % 2147483647 / 997 % 1000]) (by simp; omega)
      refine ⟨t', x', ds', hl', ?_⟩
      simp at e
      simp [mu_r, mu_l, is_lst _ hn, m_app _ hn (by simp [szL]; omega), e]
  have rr : rng 0 60 = ((List.range 60).map fun (n : Nat) => (n : Int)).map LV.int := by simp [rng]
  rw [run__law_digits]
  simp only [fnRun]
  have main : ∀ c : Int, ∃ ds : List Int, fnEnd h ((sSeq (sIf (bE (mOp opGe (mVar 0) (mOp opPow (mC (.int 10)) (mC (.int 18))))) (sFor (iRange1 (mC (.int 60))) (gNm 3) (sIf (bE (mOp opGt (mVar 0) (mC (.int 0)))) (sSeq (sExpr (mM isLst mtAppend (mVar 2) (aCons (mOp opMod (mB fInt (aCons (mVar 0) aNil)) (mC (.int 1000))) aNil)))
    (sSet 0 (mOp opDiv (mVar 0) (mC (.int 1000))))) sNext)) (sSeq (sSet 4 (mOp opMod (mB fInt (aCons (mOp opAdd (mOp opAdd (mOp opMul (mVar 0) (mC (.int 48271))) (mOp opMul (mVar 1) (mC (.int 69621)))) (mC (.int 11))) aNil)) (mC (.int 2147483647))))
    (sFor (iRange1 (mC (.int 60))) (gNm 3) (sSeq (sSet 4 (mOp opMod (mB fInt (aCons (mOp opAdd (mOp opAdd (mOp opMul (mVar 4) (mC (.int 16807))) (mOp opMul (mC (.int 7)) (mVar 3))) (mC (.int 1))) aNil)) (mC (.int 2147483647))))
    (sExpr (mM isLst mtAppend (mVar 2) (aCons (mOp opMod (mB fInt (aCons (mOp opDiv (mVar 4) (mC (.int 997))) aNil)) (mC (.int 1000))) aNil)))))))
    (sRet (mVar 2))) [some (.int c), some (.int i), some (.loc h.length), none, none] (h ++ [.lst []])) = .ok (.loc h.length) (h ++ [.lst (ds.map .int)]) := by
    intro c
    by_cases hc : (10 : Int) ^ 18 ≤ c
    · obtain ⟨c', t', ds', hl', e⟩ := loop1 (rng 0 60) c none none [] (by simp [rng_ln])
      refine ⟨ds', ?_⟩
      rw [← fin ds']
      simp at hc e
      simp [hc, rgO_big _ (show big 60 = true from by decide), e]
    · obtain ⟨t', x', ds', hl', e⟩ := loop2 ((List.range 60).map fun (n : Nat) => (n : Int)) c none ((c * 48271 + i * 69621 + 11) % 2147483647) [] (by simp)
      refine ⟨ds', ?_⟩
      rw [← fin ds']
      rw [← rr] at e
      have hc2 : ¬ (1000000000000000000 : Int) ≤ c := by simpa using hc
      simp at e
      simp [hc2, rgO_big _ (show big 60 = true from by decide), mu_r, e]
  by_cases h0 : c < 0
  · obtain ⟨ds, e⟩ := main (1 - 2 * c)
    refine ⟨ds, ?_⟩
    rw [← e]
    simp [m__law_digits, h0, mu_l]
  · obtain ⟨ds, e⟩ := main c
    refine ⟨ds, ?_⟩
    rw [← e]
    simp [m__law_digits, h0]
/-- a box is made: its digits behind the heap, then itself -/
theorem box_ok {k : Nat} {h : LH} {s : Nat} {vs : List Int} {i : Int} (hs : h[s]? = some (.rol (vs.map .int))) (hi : 0 ≤ i) :
    ∃ ds : List Int, run (k + 2) i__law_box [.loc s, .int i] h = .ok (.loc (h.length + 1)) (h ++ [.lst (ds.map .int), .lst [.loc h.length, .int 0]]) := by
  obtain ⟨c, e1⟩ := cell_ok (k := k) hs hi
  obtain ⟨ds, e2⟩ := digits_ok (k := k) (h := h) (c := c) (i := i)
  refine ⟨ds, ?_⟩
  rw [run__law_box]
  simp [fnRun, m__law_box, e1, e2, szL]
  simp only [fnEnd]
  rw [gc_none (by simp) (by simp)]
theorem draw_ok {k : Nat} {h : LH} {b d a : Nat} {ds : List Int} {m : Int} {L : LH} (B : Bx h b d ds) (hm : 0 < m) :
    run (k + 1) i__law_draw [.loc b, .int m] (adv h b d a ++ L) = .ok (.int (drw ds a m)) (adv h b d (a + 1) ++ L) := by
  have hb := adv_b (a := a) B L
  have hb2 := adv_b (a := a + 1) B L
  have hd2 := adv_d (a := a + 1) B L
  rw [run__law_draw]
  have hq : ((a + 1 : Nat) : Int) = (a : Int) + 1 := by omega
  rw [hq] at hb2
  have he := adv_set (a := a) (a' := a + 1) B L
  rw [hq] at he
  simp [fnRun, m__law_draw, o_ixL _ hb, ix1, ix0, s_lst _ hb, o_ixL _ hb2, f_lenL _ hd2, he]
  by_cases hl : a < ds.length
  · have hx : ixL ds.length (a : Int) = some a := ixL_nat hl
    simp [hl, o_ixL _ hb2, ix0, o_ixL _ hd2, hx, hm]
    unfold fnEnd drw
    simp [hl, gc_len]
  · simp [hl]
    unfold fnEnd drw
    simp [hl, gc_len]
theorem draw_ok0 {k : Nat} {h : LH} {b d a : Nat} {ds : List Int} {m : Int} (B : Bx h b d ds) (hm : 0 < m) :
    run (k + 1) i__law_draw [.loc b, .int m] (adv h b d a) = .ok (.int (drw ds a m)) (adv h b d (a + 1)) := by
  have := draw_ok (k := k) (a := a) (L := []) B hm
  simpa using this
end Mi.T
namespace Mi.T
theorem word_ok {k : Nat} {h : LH} {b d a : Nat} {ds : List Int} {L : LH} (B : Bx h b d ds) :
    ∃ w, w ∈ wordsL ∧ run (k + 2) i__law_word [.loc b] (adv h b d a ++ L) = .ok (.str w) (adv h b d (a + 1) ++ L) := by
  obtain ⟨w, hw, e⟩ := ix_words (ws := wordsL) (h := adv h b d (a + 1) ++ L) (drw_lo (ds := ds) (a := a) (m := 8) (by decide)) (drw_hi (by decide))
  refine ⟨w, hw, ?_⟩
  simp only [List.map_cons, List.map_nil] at e
  rw [run__law_word]
  simp [fnRun, m__law_word, draw_ok B, szL, -o_ixT, e]
  simp [fnEnd, gc_len]
/-- what one turn of a block's loop puts into it -/
theorem block_turn {k dp : Nat} {most : Int}
    (ih : ∀ (h : LH) (b d a : Nat) (ds : List Int) (L : LH) (body bodies : Nat) (mo : Nat), Bx h b d ds → mo ≤ 50 → body < bodies → 0 < dp →
      ∃ a' blk, run (k + 2) i__law_block [.loc b, .int ((dp : Int) - 1), .int mo, .int body, .int bodies] (adv h b d a ++ L) = .ok (.tup (Sm.encs blk)) (adv h b d a' ++ L) ∧ Sm.oks body bodies blk (dp - 1) ∧ blk.length ≤ mo)
    {h : LH} {b d a : Nat} {ds : List Int} (B : Bx h b d ds) {body bodies : Nat} (hb : body < bodies) (xs : List LV) (hz : xs.length < szL) (t x7 x8 x9 : Option LV) :
    Post (fun o => ∃ (a' : Nat) (s : Sm), Sm.ok body bodies s dp ∧ ∃ (y7 y8 y9 : Option LV),
      o = .nx [some (.loc b), some (.int dp), some (.int most), some (.int body), some (.int bodies), some (.loc h.length), t, y7, y8, y9] (adv h b d a' ++ [.lst (xs ++ [Sm.enc s])]))
      (b__law_block_0 (run (k + 2)) [some (.loc b), some (.int dp), some (.int most), some (.int body), some (.int bodies), some (.loc h.length), t, x7, x8, x9] (adv h b d a ++ [.lst xs])) := by
  obtain ⟨nm, hnm, e1⟩ := ix_words (ws := namesL) (h := adv h b d (a + 1 + 1) ++ [.lst xs]) (drw_lo (ds := ds) (a := a + 1) (m := 6) (by decide)) (drw_hi (by decide))
  obtain ⟨w, hw, e2⟩ := word_ok (k := k) (a := a + 1 + 1) (L := [.lst xs]) B
  simp only [List.map_cons, List.map_nil] at e1
  have hf : ∀ a', (adv h b d a' ++ [LO.lst xs])[h.length]? = some (.lst xs) := by intro a'; simp
  have h0 := drw_lo (ds := ds) (a := a) (m := 16) (by decide)
  have h1 := drw_hi (ds := ds) (a := a) (m := 16) (by decide)
  generalize hk : drw ds a 16 = kind at h0 h1
  by_cases c1 : kind < 4
  · simp [draw_ok B, hk, c1, szL, -o_ixT, e1, e2, is_lst _ (hf _), m_app _ (hf _) hz]
    exact ⟨_, .say w, hw, _, _, _, rfl⟩
  by_cases c2 : kind < 6
  · simp [draw_ok B, hk, c1, c2, szL, -o_ixT, e1, e2, is_lst _ (hf _), m_app _ (hf _) hz]
    exact ⟨_, .pause, trivial, _, _, _, rfl⟩
  by_cases c3 : kind < 9 ∧ (body : Int) + 1 < bodies
  · have hm : (0 : Int) < (bodies : Int) - body - 1 := by omega
    have g0 := drw_lo (ds := ds) (a := a + 1 + 1) hm
    have g1 := drw_hi (ds := ds) (a := a + 1 + 1) hm
    have hd := draw_ok (k := k + 1) (a := a + 1 + 1) (L := [.lst xs]) B hm
    simp [draw_ok B, hk, c1, c2, c3, szL, -o_ixT, e1, e2, is_lst _ (hf _), m_app _ (hf _) hz, hd]
    generalize drw ds (a + 1 + 1) ((bodies : Int) - body - 1) = g at g0 g1
    exact ⟨_, .start ((body : Int) + 1 + g) nm, ⟨by omega, by omega, hnm⟩, _, _, _, rfl⟩
  have c3' : kind < 9 → ¬ (body : Int) + 1 < bodies := fun a b => c3 ⟨a, b⟩
  by_cases c4 : kind < 11
  · by_cases c9 : kind < 9
    · simp [draw_ok B, hk, c1, c2, c9, c3' c9, c4, szL, -o_ixT, e1, e2, is_lst _ (hf _), m_app _ (hf _) hz]
      exact ⟨_, .wait nm, hnm, _, _, _, rfl⟩
    · simp [draw_ok B, hk, c1, c2, c9, c4, szL, -o_ixT, e1, e2, is_lst _ (hf _), m_app _ (hf _) hz]
      exact ⟨_, .wait nm, hnm, _, _, _, rfl⟩
  have c9 : ¬ kind < 9 := by omega
  by_cases c5 : kind = 11
  · subst c5
    have g0 := drw_lo (ds := ds) (a := a + 1 + 1) (m := 4) (by decide)
    have g1 := drw_hi (ds := ds) (a := a + 1 + 1) (m := 4) (by decide)
    simp [draw_ok B, hk, szL, -o_ixT, e1, e2, is_lst _ (hf _), m_app _ (hf _) hz]
    generalize drw ds (a + 1 + 1) 4 = g at g0 g1
    have : g = 0 ∨ g = 1 ∨ g = 2 ∨ g = 3 := by omega
    rcases this with rfl | rfl | rfl | rfl
    · simp [ixL, is_lst _ (hf _), m_app _ (hf _) hz]
      exact ⟨_, .adopt nm, hnm, _, _, _, rfl⟩
    · simp [ixL, is_lst _ (hf _), m_app _ (hf _) hz]
      exact ⟨_, .fail, trivial, _, _, _, rfl⟩
    · simp [ixL, is_lst _ (hf _), m_app _ (hf _) hz]
      exact ⟨_, .ret, trivial, _, _, _, rfl⟩
    · simp [ixL, is_lst _ (hf _), m_app _ (hf _) hz]
      exact ⟨_, .pause, trivial, _, _, _, rfl⟩
  by_cases c6 : kind < 14 ∧ 0 < dp
  · obtain ⟨a1, b1, f1, o1, l1⟩ := ih h b d (a + 1 + 1) ds [.lst xs] body bodies 3 B (by decide) hb c6.2
    obtain ⟨a2, b2, f2, o2, l2⟩ := ih h b d a1 ds [.lst xs] body bodies 2 B (by decide) hb c6.2
    simp at f1 f2
    simp [draw_ok B, hk, c1, c2, c9, c4, c5, c6, szL, -o_ixT, e1, e2, is_lst _ (hf _), m_app _ (hf _) hz, f1, f2]
    exact ⟨_, .try_ b1 b2, ⟨c6.2, o1, o2, l1, l2⟩, _, _, _, rfl⟩
  have c6' : kind < 14 → ¬ 0 < dp := fun a b => c6 ⟨a, b⟩
  by_cases c7 : 0 < dp
  · have c14 : ¬ kind < 14 := fun a => c6 ⟨a, c7⟩
    have g0 := drw_lo (ds := ds) (a := a + 1 + 1) (m := 4) (by decide)
    have g1 := drw_hi (ds := ds) (a := a + 1 + 1) (m := 4) (by decide)
    obtain ⟨a1, b1, f1, o1, l1⟩ := ih h b d (a + 1 + 1 + 1) ds [.lst xs] body bodies 3 B (by decide) hb c7
    simp at f1
    simp [draw_ok B, hk, c1, c2, c9, c4, c5, c14, c7, szL, -o_ixT, e1, e2, is_lst _ (hf _), m_app _ (hf _) hz, f1]
    generalize drw ds (a + 1 + 1) 4 = g at g0 g1
    exact ⟨_, .rep g b1, ⟨c7, ⟨by omega, by omega⟩, o1, l1⟩, _, _, _, rfl⟩
  · have e0 : dp = 0 := by omega
    subst e0
    by_cases c14 : kind < 14
    · simp [draw_ok B, hk, c1, c2, c9, c4, c5, c14, szL, -o_ixT, e1, e2, is_lst _ (hf _), m_app _ (hf _) hz]
      exact ⟨_, .say w, hw, _, _, _, rfl⟩
    · simp [draw_ok B, hk, c1, c2, c9, c4, c5, c14, szL, -o_ixT, e1, e2, is_lst _ (hf _), m_app _ (hf _) hz]
      exact ⟨_, .say w, hw, _, _, _, rfl⟩
theorem block_loop {k dp : Nat} {most : Int}
    (ih : ∀ (h : LH) (b d a : Nat) (ds : List Int) (L : LH) (body bodies : Nat) (mo : Nat), Bx h b d ds → mo ≤ 50 → body < bodies → 0 < dp →
      ∃ a' blk, run (k + 2) i__law_block [.loc b, .int ((dp : Int) - 1), .int mo, .int body, .int bodies] (adv h b d a ++ L) = .ok (.tup (Sm.encs blk)) (adv h b d a' ++ L) ∧ Sm.oks body bodies blk (dp - 1) ∧ blk.length ≤ mo)
    {h : LH} {b d : Nat} {ds : List Int} (B : Bx h b d ds) {body bodies : Nat} (hb : body < bodies) : ∀ (items : List LV) (a : Nat) (blk : List Sm), Sm.oks body bodies blk dp → blk.length + items.length ≤ 60 → ∀ (t x7 x8 x9 : Option LV),
    ∃ (a' : Nat) (blk' : List Sm) (t' y7 y8 y9 : Option LV), Sm.oks body bodies blk' dp ∧ blk'.length = blk.length + items.length ∧
      forM always (gNm 6) (b__law_block_0 (run (k + 2))) items [some (.loc b), some (.int dp), some (.int most), some (.int body), some (.int bodies), some (.loc h.length), t, x7, x8, x9] (adv h b d a ++ [.lst (Sm.encs blk)])
      = .nx [some (.loc b), some (.int dp), some (.int most), some (.int body), some (.int bodies), some (.loc h.length), t', y7, y8, y9] (adv h b d a' ++ [.lst (Sm.encs blk')])
  | [], a, blk, ho, hl, t, x7, x8, x9 => ⟨a, blk, t, x7, x8, x9, ho, rfl, rfl⟩
  | y :: items, a, blk, ho, hl, t, x7, x8, x9 => by
    simp only [List.length_cons] at hl
    obtain ⟨a1, s, os, y7, y8, y9, e⟩ := Post.out (block_turn (most := most) ih (a := a) B hb (Sm.encs blk) (by rw [encs_len]; simp only [szL]; omega) (some y) x7 x8 x9)
    obtain ⟨a2, blk2, t2, z7, z8, z9, o2, l2, e2⟩ := block_loop ih B hb items a1 (blk ++ [s]) (oks_app _ _ _ _ _ ho (by simp only [Sm.oks]; exact ⟨os, trivial⟩)) (by simp; omega) (some y) y7 y8 y9
    refine ⟨a2, blk2, t2, z7, z8, z9, o2, by simp at l2 ⊢; omega, ?_⟩
    rw [x_forC1]
    simp only [List.set_cons_succ, List.set_cons_zero]
    rw [e, turn_nx, ← e2, encs_app]
    rfl
theorem block_ok (k : Nat) : ∀ (dp : Nat) (h : LH) (b d a : Nat) (ds : List Int) (L : LH) (body bodies : Nat) (mo : Nat), Bx h b d ds → mo ≤ 50 → body < bodies →
      ∃ a' blk, run (k + 3 + dp) i__law_block [.loc b, .int dp, .int mo, .int body, .int bodies] (adv h b d a ++ L) = .ok (.tup (Sm.encs blk)) (adv h b d a' ++ L) ∧ Sm.oks body bodies blk dp ∧ blk.length ≤ mo := by
  have key : ∀ (dp k : Nat), (∀ (h : LH) (b d a : Nat) (ds : List Int) (L : LH) (body bodies : Nat) (mo : Nat), Bx h b d ds → mo ≤ 50 → body < bodies → 0 < dp →
      ∃ a' blk, run (k + 2) i__law_block [.loc b, .int ((dp : Int) - 1), .int mo, .int body, .int bodies] (adv h b d a ++ L) = .ok (.tup (Sm.encs blk)) (adv h b d a' ++ L) ∧ Sm.oks body bodies blk (dp - 1) ∧ blk.length ≤ mo) →
      ∀ (h : LH) (b d a : Nat) (ds : List Int) (L : LH) (body bodies : Nat) (mo : Nat), Bx h b d ds → mo ≤ 50 → body < bodies →
      ∃ a' blk, run (k + 3) i__law_block [.loc b, .int dp, .int mo, .int body, .int bodies] (adv h b d a ++ L) = .ok (.tup (Sm.encs blk)) (adv h b d a' ++ L) ∧ Sm.oks body bodies blk dp ∧ blk.length ≤ mo := by
    intro dp k ih h b d a ds L body bodies mo B hm hb
    have B' := B.app a L
    have hd : (0 : Int) < (mo : Int) + 1 := by omega
    have g0 := drw_lo (ds := ds) (a := a) hd
    have g1 := drw_hi (ds := ds) (a := a) hd
    have e0 := draw_ok (k := k + 1) (a := a) (L := [.lst []]) B' hd
    generalize drw ds a ((mo : Int) + 1) = g at g0 g1 e0
    obtain ⟨n, rfl⟩ : ∃ n : Nat, g = n := ⟨g.toNat, by omega⟩
    obtain ⟨a2, blk, t, z7, z8, z9, o2, l2, e2⟩ := block_loop (most := (mo : Int)) ih B' hb (rng 0 n) (a + 1) [] trivial (by simp [rng_ln]; omega) none none none none
    refine ⟨a2, blk, ?_, o2, by simp [rng_ln] at l2; omega⟩
    rw [← adv_app (a := a) (a' := a2) B]
    have hs : adv (adv h b d a ++ L) b d a = adv h b d a ++ L := adv_app B L
    rw [hs, show k + 1 + 1 = k + 2 from rfl] at e0
    have hbig := fun h => rgO_nat h (n := n) (by omega)
    generalize adv h b d a ++ L = K at *
    have hf : (adv K b d a2 ++ [LO.lst (Sm.encs blk)])[K.length]? = some (.lst (Sm.encs blk)) := by simp
    simp only [Sm.encs] at e2
    rw [run__law_block]
    simp [fnRun, m__law_block, szL, e0, hbig, e2, f_tupL _ hf]
    simp only [fnEnd]
    rw [gc_adv B' (blk_pl _ _)]
  intro dp
  induction dp generalizing k with
  | zero => intro h b d a ds L body bodies mo B hm hb; exact key 0 k (fun _ _ _ _ _ _ _ _ _ _ _ _ h0 => absurd h0 (by omega)) h b d a ds L body bodies mo B hm hb
  | succ e ih =>
    intro h b d a ds L body bodies mo B hm hb
    have := key (e + 1) (k + (e + 1)) (fun h b d a ds L body bodies mo B hm hb _ => by
      obtain ⟨a', blk, e1, o1, l1⟩ := ih k h b d a ds L body bodies mo B hm hb
      refine ⟨a', blk, ?_, o1, l1⟩
      rw [← e1]
      have q1 : ((e + 1 : Nat) : Int) - 1 = (e : Int) := by omega
      have q2 : k + (e + 1) + 2 = k + 3 + e := by omega
      rw [q1, q2]) h b d a ds L body bodies mo B hm hb
    have q2 : k + (e + 1) + 3 = k + 3 + (e + 1) := by omega
    rw [q2] at this
    exact this
end Mi.T
namespace Mi.T
theorem weight_loop {k d : Nat} {h : LH} {s : Nat} {kvs : List (LKey × LV)} {z : Int → Int} (hs : h[s]? = some (.dct kvs)) (hz : ∀ t : Int, (kget kvs (.inl t)).getD (.int 1) = .int (z t))
    (ih : ∀ blk, 0 < d → OkW blk (d - 1) → run k i__law_weight [.tup (Sm.encs blk), .loc s] h = .ok (.int (1 + Sm.ws z blk)) h) :
    ∀ (blk : List Sm) (tot : Int) (x : Option LV) (b0 : LV), OkW blk d →
      ∃ x', forM always (gNm 3) (b__law_weight_0 (run k)) (Sm.encs blk) [some b0, some (.loc s), some (.int tot), x] h = .nx [some b0, some (.loc s), some (.int (tot + Sm.ws z blk)), x'] h
  | [], tot, x, b0, _ => ⟨x, by simp [Sm.encs, Sm.ws]⟩
  | m :: blk, tot, x, b0, ho => by
    have step : b__law_weight_0 (run k) [some b0, some (.loc s), some (.int tot), some (Sm.enc m)] h = .nx [some b0, some (.loc s), some (.int (tot + Sm.w z m)), some (Sm.enc m)] h := by
      cases m with
      | start t nm =>
        simp [Sm.enc, Sm.w, ix0, ix1, is_dct _ hs, m_get2 _ hs, hz]
        omega
      | try_ a b =>
        simp [Sm.enc, Sm.w, ix0, ix1, ix2, ih a ho.tr.1 ho.tr.2.1, ih b ho.tr.1 ho.tr.2.2]
        omega
      | rep n b =>
        simp [Sm.enc, Sm.w, ix0, ix1, ix2, ih b ho.rp.1 ho.rp.2.1, mu_l _ ho.rp.2.2.1 ho.rp.2.2.2]
        omega
      | _ => simp [Sm.enc, Sm.w, ix0]
    obtain ⟨x', e⟩ := weight_loop hs hz ih blk (tot + Sm.w z m) (some (Sm.enc m)) b0 ho.tl
    refine ⟨x', ?_⟩
    rw [Sm.encs, x_forC1]
    simp only [List.set_cons_succ, List.set_cons_zero]
    rw [step, turn_nx, e, Sm.ws, Int.add_assoc]
theorem weight_ok {h : LH} {s : Nat} {kvs : List (LKey × LV)} {z : Int → Int} (hs : h[s]? = some (.dct kvs)) (hz : ∀ t : Int, (kget kvs (.inl t)).getD (.int 1) = .int (z t)) (k : Nat) :
    ∀ (d : Nat) (blk : List Sm), OkW blk d → run (k + 1 + d) i__law_weight [.tup (Sm.encs blk), .loc s] h = .ok (.int (1 + Sm.ws z blk)) h
  | d, blk, ho => by
    have ih : ∀ blk, 0 < d → OkW blk (d - 1) → run (k + d) i__law_weight [.tup (Sm.encs blk), .loc s] h = .ok (.int (1 + Sm.ws z blk)) h := by
      intro blk hd hb
      have := weight_ok hs hz k (d - 1) blk hb
      have q : k + 1 + (d - 1) = k + d := by omega
      rw [q] at this; exact this
    obtain ⟨x', e⟩ := weight_loop hs hz ih blk 1 none (.tup (Sm.encs blk)) ho
    rw [show k + 1 + d = k + d + 1 by omega, run__law_weight]
    simp [fnRun, m__law_weight, e, end_rt_self]
termination_by d => d
end Mi.T
namespace Mi.T
theorem measure_loop {k d : Nat} {h : LH} {s : Nat} {kvs : List (LKey × LV)} {z : Int → Int} (hs : h[s]? = some (.dct kvs)) (hz : ∀ t : Int, (kget kvs (.inl t)).getD (.int 0) = .int (z t))
    (ih : ∀ blk, 0 < d → OkW blk (d - 1) → run k i__law_measure [.tup (Sm.encs blk), .loc s] h = .ok (.int (1 + Sm.ws z blk)) h) :
    ∀ (blk : List Sm) (tot : Int) (x : Option LV) (b0 : LV), OkW blk d →
      ∃ x', forM always (gNm 3) (b__law_measure_0 (run k)) (Sm.encs blk) [some b0, some (.loc s), some (.int tot), x] h = .nx [some b0, some (.loc s), some (.int (tot + Sm.ws z blk)), x'] h
  | [], tot, x, b0, _ => ⟨x, by simp [Sm.encs, Sm.ws]⟩
  | m :: blk, tot, x, b0, ho => by
    have step : b__law_measure_0 (run k) [some b0, some (.loc s), some (.int tot), some (Sm.enc m)] h = .nx [some b0, some (.loc s), some (.int (tot + Sm.w z m)), some (Sm.enc m)] h := by
      cases m with
      | start t nm =>
        simp [Sm.enc, Sm.w, ix0, ix1, is_dct _ hs, m_get2 _ hs, hz]
        omega
      | try_ a b =>
        simp [Sm.enc, Sm.w, ix0, ix1, ix2, ih a ho.tr.1 ho.tr.2.1, ih b ho.tr.1 ho.tr.2.2]
        omega
      | rep n b =>
        simp [Sm.enc, Sm.w, ix0, ix1, ix2, ih b ho.rp.1 ho.rp.2.1, mu_l _ ho.rp.2.2.1 ho.rp.2.2.2]
        omega
      | _ => simp [Sm.enc, Sm.w, ix0]
    obtain ⟨x', e⟩ := measure_loop hs hz ih blk (tot + Sm.w z m) (some (Sm.enc m)) b0 ho.tl
    refine ⟨x', ?_⟩
    rw [Sm.encs, x_forC1]
    simp only [List.set_cons_succ, List.set_cons_zero]
    rw [step, turn_nx, e, Sm.ws, Int.add_assoc]
theorem measure_ok {h : LH} {s : Nat} {kvs : List (LKey × LV)} {z : Int → Int} (hs : h[s]? = some (.dct kvs)) (hz : ∀ t : Int, (kget kvs (.inl t)).getD (.int 0) = .int (z t)) (k : Nat) :
    ∀ (d : Nat) (blk : List Sm), OkW blk d → run (k + 1 + d) i__law_measure [.tup (Sm.encs blk), .loc s] h = .ok (.int (1 + Sm.ws z blk)) h
  | d, blk, ho => by
    have ih : ∀ blk, 0 < d → OkW blk (d - 1) → run (k + d) i__law_measure [.tup (Sm.encs blk), .loc s] h = .ok (.int (1 + Sm.ws z blk)) h := by
      intro blk hd hb
      have := measure_ok hs hz k (d - 1) blk hb
      have q : k + 1 + (d - 1) = k + d := by omega
      rw [q] at this; exact this
    obtain ⟨x', e⟩ := measure_loop hs hz ih blk 1 none (.tup (Sm.encs blk)) ho
    rw [show k + 1 + d = k + d + 1 by omega, run__law_measure]
    simp [fnRun, m__law_measure, e, end_rt_self]
termination_by d => d
end Mi.T
namespace Mi.T
theorem count_loop {k d : Nat} {lo hi : Nat} {h : LH}
    (ih : ∀ blk, 0 < d → Sm.oks lo hi blk (d - 1) → run k i__law_count [.tup (Sm.encs blk)] h = .ok (.int (Sm.cnts blk)) h) :
    ∀ (blk : List Sm) (tot : Int) (x y : Option LV) (b0 : LV), Sm.oks lo hi blk d →
      ∃ x' y', forM always (gNm 2) (b__law_count_1 (run k)) (Sm.encs blk) [some b0, some (.int tot), x, y] h = .nx [some b0, some (.int (tot + Sm.cnts blk)), x', y'] h
  | [], tot, x, y, b0, _ => ⟨x, y, by simp [Sm.encs, Sm.cnts]⟩
  | m :: blk, tot, x, y, b0, ho => by
    simp only [Sm.oks] at ho
    have step : ∃ y', b__law_count_1 (run k) [some b0, some (.int tot), some (Sm.enc m), y] h = .nx [some b0, some (.int (tot + Sm.cnt m)), some (Sm.enc m), y'] h := by
      cases m with
      | try_ a b =>
        simp only [Sm.ok] at ho
        refine ⟨some (.tup (Sm.encs b)), ?_⟩
        simp [Sm.enc, Sm.cnt, cutL, sIx, x_forC1, ih a ho.1.1 ho.1.2.1, ih b ho.1.1 ho.1.2.2.1]
        omega
      | rep n b =>
        simp only [Sm.ok] at ho
        refine ⟨some (.tup (Sm.encs b)), ?_⟩
        simp [Sm.enc, Sm.cnt, cutL, sIx, x_forC1, ih b ho.1.1 ho.1.2.2.1]
        omega
      | start t nm => exact ⟨some (.str nm), by simp [Sm.enc, Sm.cnt, cutL, sIx, x_forC1]⟩
      | say nm => exact ⟨some (.str nm), by simp [Sm.enc, Sm.cnt, cutL, sIx, x_forC1]⟩
      | wait nm => exact ⟨some (.str nm), by simp [Sm.enc, Sm.cnt, cutL, sIx, x_forC1]⟩
      | adopt nm => exact ⟨some (.str nm), by simp [Sm.enc, Sm.cnt, cutL, sIx, x_forC1]⟩
      | _ => exact ⟨y, by simp [Sm.enc, Sm.cnt, cutL, sIx, x_forC1]⟩
    obtain ⟨y', step⟩ := step
    obtain ⟨x2, y2, e⟩ := count_loop ih blk (tot + Sm.cnt m) (some (Sm.enc m)) y' b0 ho.2
    refine ⟨x2, y2, ?_⟩
    rw [Sm.encs, x_forC1]
    simp only [List.set_cons_succ, List.set_cons_zero]
    rw [step, turn_nx, e, Sm.cnts, Int.add_assoc]
theorem count_ok {lo hi : Nat} {h : LH} (k : Nat) :
    ∀ (d : Nat) (blk : List Sm), Sm.oks lo hi blk d → run (k + 1 + d) i__law_count [.tup (Sm.encs blk)] h = .ok (.int (Sm.cnts blk)) h
  | d, blk, ho => by
    have ih : ∀ blk, 0 < d → Sm.oks lo hi blk (d - 1) → run (k + d) i__law_count [.tup (Sm.encs blk)] h = .ok (.int (Sm.cnts blk)) h := by
      intro blk hd hb
      have := count_ok (h := h) k (d - 1) blk hb
      have q : k + 1 + (d - 1) = k + d := by omega
      rw [q] at this; exact this
    obtain ⟨x', y', e⟩ := count_loop ih blk 0 none none (.tup (Sm.encs blk)) ho
    rw [show k + 1 + d = k + d + 1 by omega, run__law_count]
    simp [fnRun, m__law_count, e, end_rt_self]
termination_by d => d
end Mi.T
namespace Mi.T
theorem bsize_loop {k d : Nat} {hi : Nat} {h : LH} {s : Nat} {zs : List LV} {z : Int → Int} (hs : h[s]? = some (.lst zs)) (hz : ∀ t : Nat, t < hi → zs[t]? = some (.int (z (t : Int))))
    (ih : ∀ blk, 0 < d → OkW blk (d - 1) → Sm.tins hi blk = true → run k i__block_size [.tup (Sm.encs blk), .loc s] h = .ok (.int (1 + Sm.ws z blk)) h) :
    ∀ (blk : List Sm) (tot : Int) (x : Option LV) (b0 : LV), OkW blk d → Sm.tins hi blk = true →
      ∃ x', forM always (gNm 3) (b__block_size_0 (run (k + 1))) (Sm.encs blk) [some b0, some (.loc s), some (.int tot), x] h = .nx [some b0, some (.loc s), some (.int (tot + Sm.ws z blk)), x'] h
  | [], tot, x, b0, _, _ => ⟨x, by simp [Sm.encs, Sm.ws]⟩
  | m :: blk, tot, x, b0, ho, hti => by
    simp only [Sm.tins, Bool.and_eq_true] at hti
    have step : run (k + 1) i__statement_size [Sm.enc m, .loc s] h = .ok (.int (Sm.w z m)) h := by
      rw [run__statement_size]
      cases m with
      | start t nm =>
        simp only [Sm.tin, Bool.and_eq_true, decide_eq_true_eq] at hti
        obtain ⟨t, rfl⟩ : ∃ n : Nat, t = n := ⟨t.toNat, by omega⟩
        have hth : t < hi := by omega
        have ht : t < zs.length := by
          have := hz t hth
          exact (List.getElem?_eq_some_iff.mp this).1
        simp [fnRun, m__statement_size, Sm.enc, Sm.w, ix0, ix1, o_ixL _ hs, ixL_nat ht, hz t hth, end_rt_self]
      | try_ a b =>
        simp only [Sm.tin, Bool.and_eq_true] at hti
        simp [fnRun, m__statement_size, Sm.enc, Sm.w, ix0, ix1, ix2, ih a ho.tr.1 ho.tr.2.1 hti.1.1, ih b ho.tr.1 ho.tr.2.2 hti.1.2, end_rt_self]
      | rep n b =>
        simp only [Sm.tin] at hti
        simp [fnRun, m__statement_size, Sm.enc, Sm.w, ix0, ix1, ix2, ih b ho.rp.1 ho.rp.2.1 hti.1, mu_l _ ho.rp.2.2.1 ho.rp.2.2.2, end_rt_self]
      | _ => simp [fnRun, m__statement_size, Sm.enc, Sm.w, ix0, end_rt_self]
    obtain ⟨x', e⟩ := bsize_loop hs hz ih blk (tot + Sm.w z m) (some (Sm.enc m)) b0 ho.tl hti.2
    refine ⟨x', ?_⟩
    rw [Sm.encs, x_forC1]
    simp only [List.set_cons_succ, List.set_cons_zero]
    have st2 : b__block_size_0 (run (k + 1)) [some b0, some (.loc s), some (.int tot), some (Sm.enc m)] h = .nx [some b0, some (.loc s), some (.int (tot + Sm.w z m)), some (Sm.enc m)] h := by
      simp [step]
    rw [st2, turn_nx, e, Sm.ws, Int.add_assoc]
theorem bsize_ok {hi : Nat} {h : LH} {s : Nat} {zs : List LV} {z : Int → Int} (hs : h[s]? = some (.lst zs)) (hz : ∀ t : Nat, t < hi → zs[t]? = some (.int (z (t : Int)))) (k : Nat) :
    ∀ (d : Nat) (blk : List Sm), OkW blk d → Sm.tins hi blk = true → run (k + 2 + 2 * d) i__block_size [.tup (Sm.encs blk), .loc s] h = .ok (.int (1 + Sm.ws z blk)) h
  | d, blk, ho, ht => by
    have ih : ∀ blk, 0 < d → OkW blk (d - 1) → Sm.tins hi blk = true → run (k + 2 * d) i__block_size [.tup (Sm.encs blk), .loc s] h = .ok (.int (1 + Sm.ws z blk)) h := by
      intro blk hd hb ht
      have := bsize_ok hs hz k (d - 1) blk hb ht
      have q : k + 2 + 2 * (d - 1) = k + 2 * d := by omega
      rw [q] at this; exact this
    obtain ⟨x', e⟩ := bsize_loop hs hz ih blk 1 none (.tup (Sm.encs blk)) ho ht
    rw [show k + 2 + 2 * d = k + 2 * d + 1 + 1 by omega, run__block_size]
    simp [fnRun, m__block_size, e, end_rt_self]
termination_by d => d
end Mi.T
namespace Mi.T
theorem is_integer_ok {k : Nat} {h : LH} {x : LV} (hx : x.pn = true) : run (k + 1) i__law_is_integer [x] h = .ok (.bl (match x with | .int _ => true | _ => false)) h := by
  rw [run__law_is_integer]
  cases x with
  | loc n => cases hx
  | fn n => cases hx
  | _ => simp [fnRun, m__law_is_integer, end_rt_self]
theorem same_ok {k : Nat} : ∀ (d : Nat) (h : LH) (x y : LV), x.pn = true → y.pn = true → LV.dok d y → run (k + 2 + d) i__law_same [x, y] h = .ok (.bl (decide (x = y))) h
  | d, h, x, .tup bs, hx, hy, hd => by
    cases d with
    | zero => exact absurd hd (by simp [LV.dok])
    | succ d =>
      simp only [LV.dok] at hd
      rw [show k + 2 + (d + 1) = (k + 2 + d) + 1 by omega, run__law_same]
      cases x with
      | tup as =>
        by_cases hl : as.length = bs.length
        · have f := lc_map (h0 := h) (σ := [some (.tup as), some (.tup bs), none]) (g := gNm 2) (e := b__law_same_0 (run (k + 2 + d))) (D := h.length)
            (fun v => match v with | .int i => LV.bl (decide (as[i.toNat]? = bs[i.toNat]?)) | _ => LV.non) rfl (rng 0 bs.length) [] (by
              intro v hv
              simp [rng] at hv
              obtain ⟨i, hi, rfl⟩ := hv
              refine ⟨_, rfl, fun zs => ?_⟩
              have hia : i < as.length := by omega
              have ih := same_ok (k := k) d (h ++ [.lst zs]) as[i] bs[i] (pns_get (i := i) hx (by simp)) (pns_get (i := i) hy (by simp)) (hd.2 _ (by simp))
              have ha : ixL as.length (i : Int) = some i := ixL_nat hia
              have hb : ixL bs.length (i : Int) = some i := ixL_nat hi
              simp [ha, hb, hia, hi, ih]) (by simp [rng_ln, szL]; omega)
          have hbig := fun h => rgO_nat h (n := bs.length) (by omega)
          have hm : (rng 0 bs.length).map (fun v => match v with | .int i => LV.bl (decide (as[i.toNat]? = bs[i.toNat]?)) | _ => LV.non) = (List.range bs.length).map fun i => LV.bl (decide (as[i]? = bs[i]?)) := by simp [rng]
          rw [List.nil_append, hm] at f
          have f2 := f_allL (n := h.length) (h ++ [LO.lst ((List.range bs.length).map fun i => LV.bl (decide (as[i]? = bs[i]?)))]) (xs := (List.range bs.length).map fun i => LV.bl (decide (as[i]? = bs[i]?))) (by simp) (bls_map (fun i => decide (as[i]? = bs[i]?)) (List.range bs.length))
          have f3 := all_same as bs hl
          rw [List.all_map] at f2
          have f4 : ((List.range bs.length).all (id ∘ fun i => decide (as[i]? = bs[i]?))) = decide (as = bs) := f3
          rw [f4] at f2
          simp [fnRun, m__law_same, hl, hbig, wipeL, f, f2]
          have q : decide (LV.tup as = LV.tup bs) = decide (as = bs) := by simp
          exact end_rt_same rfl
        · have hne : ¬ as = bs := fun e => hl (by rw [e])
          have hl2 : ¬ (as.length : Int) = bs.length := by omega
          simp [fnRun, m__law_same, hl2, hl, hne, end_rt_self]
      | loc n => cases hx
      | fn n => cases hx
      | _ => simp [fnRun, m__law_same, end_rt_self]
  | d, h, x, .loc n, _, hy, _ => by cases hy
  | d, h, x, .fn n, _, hy, _ => by cases hy
  | d, h, x, .non, hx, _, _ => by
    rw [show k + 2 + d = (k + 1 + d) + 1 by omega, run__law_same]
    cases x with
    | loc n => cases hx
    | fn n => cases hx
    | _ => simp [fnRun, m__law_same, isN, end_rt_self]
  | d, h, x, .bl c, hx, _, _ => by
    rw [show k + 2 + d = (k + 1 + d) + 1 by omega, run__law_same]
    cases x with
    | loc n => cases hx
    | fn n => cases hx
    | _ => simp [fnRun, m__law_same, end_rt_self]
  | d, h, x, .int c, hx, _, _ => by
    rw [show k + 2 + d = (k + 1 + d) + 1 by omega, run__law_same]
    have e := fun h => is_integer_ok (k := k + d) (h := h) hx
    rw [show k + d + 1 = k + 1 + d by omega] at e
    cases x with
    | loc n => cases hx
    | fn n => cases hx
    | _ => simp [fnRun, m__law_same, e, end_rt_self]
  | d, h, x, .str c, hx, _, _ => by
    rw [show k + 2 + d = (k + 1 + d) + 1 by omega, run__law_same]
    cases x with
    | loc n => cases hx
    | fn n => cases hx
    | _ => simp [fnRun, m__law_same, end_rt_self]
end Mi.T
namespace Mi.T
/-- one body is drawn -/
theorem body_step {k : Nat} {h0 H : LH} {s f : Nat} {vs : List Int} {fi : Int} {n len : Nat} {p : List (List Sm)} {x2 x4 y8 : Option LV} (hs : h0[s]? = some (.rol (vs.map .int))) (K : Keep h0 H) (hf : H[f]? = some (.lst (encP p)))
    (hfl : h0.length ≤ f) (hfi : 0 ≤ fi) (hlen : len ≤ 50) (hp : okP n p) (hi : p.length < n) (hn : n ≤ 50) (x5 : LV) :
    ∃ (H' : LH) (b : List Sm), Keep h0 H' ∧ H'[f]? = some (.lst (encP (p ++ [b]))) ∧ okP n (p ++ [b]) ∧ H.length ≤ H'.length ∧
      b__law_program_0 (run (k + 5)) [some (.loc s), some (.int fi), x2, some (.int len), x4, some (.int n), some (.loc f), some (.int (p.length : Int)), y8] H
        = .nx [some (.loc s), some (.int fi), x2, some (.int len), x4, some (.int n), some (.loc f), some (.int (p.length : Int)), y8] H' := by
  obtain ⟨ds, eb⟩ := box_ok (k := k + 3) (h := H) (i := fi + 1 + (p.length : Int)) (K.get hs) (by omega)
  have hB : Bx (H ++ [.lst (ds.map .int), .lst [.loc H.length, .int 0]]) (H.length + 1) H.length ds := Bx.of (a := 0) (by simp) (by simp)
  have hfH : f < H.length := (List.getElem?_eq_some_iff.mp hf).1
  obtain ⟨a', b, e1, o1, l1⟩ := block_ok k 2 _ _ _ 0 ds [] p.length n len hB hlen hi
  have hadv : adv (H ++ [LO.lst (ds.map .int), LO.lst [LV.loc H.length, LV.int 0]]) (H.length + 1) H.length 0 = H ++ [.lst (ds.map .int), .lst [.loc H.length, .int 0]] := adv_self (by simp)
  rw [List.append_nil, List.append_nil, hadv] at e1
  have e1 : run (k + 5) i__law_block [.loc (H.length + 1), .int 2, .int (len : Int), .int (p.length : Int), .int (n : Int)] (H ++ [LO.lst (ds.map .int), LO.lst [LV.loc H.length, LV.int 0]]) = _ := e1
  have hf2 : (adv (H ++ [LO.lst (ds.map .int), LO.lst [LV.loc H.length, LV.int 0]]) (H.length + 1) H.length a')[f]? = some (.lst (encP p)) := by
    rw [adv_ne (by omega), List.getElem?_append_left hfH]; exact hf
  refine ⟨(adv (H ++ [LO.lst (ds.map .int), LO.lst [LV.loc H.length, LV.int 0]]) (H.length + 1) H.length a').set f (.lst (encP (p ++ [b]))), b, ((K.app _).adv (by have := K.len; omega)).set hfl, ?_, ?_, by simp, ?_⟩
  · rw [List.getElem?_set_self (by simp; omega)]
  · intro j c hj
    by_cases hjl : j < p.length
    · rw [List.getElem?_append_left hjl] at hj; exact hp j c hj
    · rw [List.getElem?_append_right (by omega)] at hj
      have : j - p.length = 0 := by
        by_cases h : j - p.length = 0
        · exact h
        · rw [List.getElem?_eq_none (by simp; omega)] at hj; cases hj
      rw [this] at hj; simp at hj; subst hj
      have : j = p.length := by omega
      subst this
      exact ⟨o1, by omega⟩
  · simp [is_lst _ hf, eb, e1, m_app _ hf2 (show (encP p).length < szL by rw [encP_len]; simp only [szL]; omega), encP_app, encP]
theorem body_loop {k : Nat} {h0 : LH} {s f : Nat} {vs : List Int} {fi : Int} {n len : Nat} {x2 x4 : Option LV} (hs : h0[s]? = some (.rol (vs.map .int)))
    (hfl : h0.length ≤ f) (hfi : 0 ≤ fi) (hlen : len ≤ 50) (hn : n ≤ 50) : ∀ (m : Nat) (p : List (List Sm)) (H : LH) (x7 y8 : Option LV), p.length + m = n → Keep h0 H → H[f]? = some (.lst (encP p)) → okP n p →
    ∃ (H' : LH) (q : List (List Sm)) (x7' : Option LV), Keep h0 H' ∧ H'[f]? = some (.lst (encP q)) ∧ okP n q ∧ q.length = n ∧
      forM always (gNm 7) (b__law_program_0 (run (k + 5))) (rg p.length m) [some (.loc s), some (.int fi), x2, some (.int len), x4, some (.int n), some (.loc f), x7, y8] H
        = .nx [some (.loc s), some (.int fi), x2, some (.int len), x4, some (.int n), some (.loc f), x7', y8] H'
  | 0, p, H, x7, y8, hm, K, hf, hp => ⟨H, p, x7, K, hf, hp, by omega, by simp [rg]⟩
  | m + 1, p, H, x7, y8, hm, K, hf, hp => by
    obtain ⟨H1, b, K1, hf1, hp1, _, e1⟩ := body_step (k := k) (x2 := x2) (x4 := x4) (y8 := y8) hs K hf hfl hfi hlen hp (by omega) hn (.int 0)
    obtain ⟨H2, q, x7', K2, hf2, hp2, hq, e2⟩ := body_loop hs hfl hfi hlen hn m (p ++ [b]) H1 (some (.int (p.length : Int))) y8 (by simp; omega) K1 hf1 hp1
    refine ⟨H2, q, x7', K2, hf2, hp2, hq, ?_⟩
    rw [rg_succ, x_forC1]
    simp only [List.set_cons_succ, List.set_cons_zero]
    rw [e1, turn_nx, ← e2, List.length_append, List.length_singleton]
theorem fix_step {room : Int} {n j : Nat} {p p' : List (List Sm)} {z : Int → Int} {b : List Sm} (hF : Fix room p (j + 1) z) (hp : okP n p) (hb : p'[j]? = some b) (hu : ∀ i, j < i → p'[i]? = p[i]?) (hr : 4 ≤ room → 1 + (1 + Sm.ws z b) ≤ room) (hob : Sm.oks j n b 2) :
    Fix room p' j (upd z j (1 + (1 + Sm.ws z b))) := by
  intro t c ht hc
  by_cases e : t = j
  · subst e
    rw [hb] at hc; cases hc
    have q : upd z t (1 + (1 + Sm.ws z b)) (t : Int) = 1 + (1 + Sm.ws z b) := by unfold upd; rw [if_pos rfl]
    rw [q]
    refine ⟨?_, hr⟩
    exact congrArg (fun v => 1 + (1 + v)) (ws_congr (z := z) (y := upd z t (1 + (1 + Sm.ws z b))) (lo := t) (hi := n) (fun u a _ => by unfold upd; rw [if_neg (by omega)]) b 2 hob)
  · rw [hu t (by omega)] at hc
    have q : upd z j (1 + (1 + Sm.ws z b)) (t : Int) = z (t : Int) := by unfold upd; rw [if_neg (by omega)]
    rw [q]
    obtain ⟨h1, h2⟩ := hF t c (by omega) hc
    refine ⟨?_, h2⟩
    rw [h1]
    exact congrArg (fun v => 1 + (1 + v)) (ws_congr (z := z) (y := upd z j (1 + (1 + Sm.ws z b))) (lo := t) (hi := n) (fun u a _ => by unfold upd; rw [if_neg (by omega)]) c 2 (hp t c hc).1)
/-- the sizes are told, what is too great is left out -/
theorem sizes_step {k : Nat} {h0 H : LH} {f q n j : Nat} {p : List (List Sm)} {kvs : List (LKey × LV)} {z : Int → Int} {room : Int} {x0 x1 x2 x3 x5 : Option LV} (K : Keep h0 H) (hf : H[f]? = some (.lst (encP p))) (hq : H[q]? = some (.dct kvs))
    (hfl : h0.length ≤ f) (hql : h0.length ≤ q) (hz : ∀ t : Int, (kget kvs (.inl t)).getD (.int 1) = .int (z t)) (hkl : kvs.length ≤ 50) (hp : okP n p) (hj : j < p.length) :
    ∃ (H' : LH) (p' : List (List Sm)) (kvs' : List (LKey × LV)) (z' : Int → Int), Keep h0 H' ∧ H'[f]? = some (.lst (encP p')) ∧ H'[q]? = some (.dct kvs') ∧ (∀ t : Int, (kget kvs' (.inl t)).getD (.int 1) = .int (z' t)) ∧ kvs'.length ≤ kvs.length + 1 ∧ okP n p' ∧ p'.length = p.length ∧ (∀ b, p'[j]? = some b → Sm.cnts b ≤ 24) ∧ (∀ i, i ≠ j → p'[i]? = p[i]?) ∧ (Fix room p (j + 1) z → j < n → n = p.length → Fix room p' j z') ∧
      b__law_program_1 (run (k + 5)) [x0, x1, x2, x3, some (.int room), x5, some (.loc f), some (.int (j : Int)), some (.loc q)] H
        = .nx [x0, x1, x2, x3, some (.int room), x5, some (.loc f), some (.int (j : Int)), some (.loc q)] H' := by
  have hne : f ≠ q := by intro e; subst e; rw [hf] at hq; cases hq
  have hfH : f < H.length := (List.getElem?_eq_some_iff.mp hf).1
  have hqH : q < H.length := (List.getElem?_eq_some_iff.mp hq).1
  have hpj : p[j]? = some p[j] := List.getElem?_eq_getElem hj
  have hz2 := fun v => kget_upd hz j v
  have ow := weight_ok hq hz (k + 2) 2 p[j] (.of (hp j _ hpj).1)
  have oc := count_ok (h := H) (k + 2) 2 p[j] (hp j _ hpj).1
  have ow : run (k + 5) i__law_weight _ _ = _ := ow
  have oc : run (k + 5) i__law_count _ _ = _ := oc
  have hixj : ixL p.length (j : Int) = some j := ixL_nat hj
  have hfj : opIx (.loc f) (.int (j : Int)) H = .ok (.tup (Sm.encs p[j])) H := by
    rw [o_ixL _ hf]; simp [hixj, encP_get, hpj]
  by_cases hc : room < 1 + Sm.ws z p[j] + 1 ∨ 24 < Sm.cnts p[j]
  · -- left out
    have hf1 : (H.set f (.lst (encP (p.set j [.say [97], .pause]))))[f]? = some (.lst (encP (p.set j [.say [97], .pause]))) := by rw [List.getElem?_set_self hfH]
    have hq1 : (H.set f (.lst (encP (p.set j [.say [97], .pause]))))[q]? = some (.dct kvs) := by rw [List.getElem?_set_ne hne]; exact hq
    have ok2 : Sm.oks j n [.say [97], .pause] 2 := by simp [Sm.oks, Sm.ok]
    have ow2 := weight_ok hq1 hz (k + 2) 2 [.say [97], .pause] (.of ok2)
    have ow2 : run (k + 5) i__law_weight _ _ = _ := ow2
    have hfj2 : opIx (.loc f) (.int (j : Int)) (H.set f (.lst (encP (p.set j [.say [97], .pause])))) = .ok (.tup (Sm.encs [.say [97], .pause])) (H.set f (.lst (encP (p.set j [.say [97], .pause])))) := by
      rw [o_ixL _ hf1]; simp [hixj, encP_get, hj]
    refine ⟨(H.set f (.lst (encP (p.set j [.say [97], .pause])))).set q (.dct (kput kvs (.inl (j : Int)) (.int (1 + (1 + Sm.ws z [.say [97], .pause]))))), p.set j [.say [97], .pause], kput kvs (.inl (j : Int)) (.int (1 + (1 + Sm.ws z [.say [97], .pause]))), _, (K.set hfl).set hql, ?_, ?_, hz2 _, kput_len _ _ _, ?_, by simp, ?_, ?_, ?_, ?_⟩
    · rw [List.getElem?_set_ne (Ne.symm hne)]; exact hf1
    · rw [List.getElem?_set_self (by simp; omega)]
    · intro i b hb
      by_cases e : j = i
      · subst e; rw [List.getElem?_set_self hj] at hb; injection hb with hb; subst hb; exact ⟨ok2, by decide⟩
      · rw [List.getElem?_set_ne e] at hb; exact hp i b hb
    · intro b hb; rw [List.getElem?_set_self hj] at hb; injection hb with hb; subst hb; simp [Sm.cnts, Sm.cnt]
    · intro i hi; rw [List.getElem?_set_ne (Ne.symm hi)]
    · intro hF hjn hnl
      exact fix_step hF hp (j := j) (b := [.say [97], .pause]) (by simp [hj]) (fun i hi => by rw [List.getElem?_set_ne (by omega)]) (fun h4 => by simp [Sm.ws, Sm.w]; omega) ok2
    · have hs1 : stIx (.loc f) (.int (j : Int)) (.tup [.tup [.str [115, 97, 121], .str [97]], .tup [.str [112, 97, 117, 115, 101]]]) H = .ok () (H.set f (.lst (encP (p.set j [.say [97], .pause])))) := by
        rw [s_lst _ hf (j := j) (by simp; exact hixj)]; simp [encP_set, Sm.encs, Sm.enc]
      have hs2 := fun v => s_dct (i := (j : Int)) (v := v) _ hq1 (by simp [szL]; omega)
      generalize H.set f (.lst (encP (p.set j [.say [97], .pause]))) = H2 at *
      rcases hc with hc | hc
      · simp [hfj, ow, hc, hs1, hfj2, ow2, hs2, szL]
      · by_cases hc1 : room < 1 + Sm.ws z p[j] + 1
        · simp [hfj, ow, hc1, hs1, hfj2, ow2, hs2, szL]
        · simp [hfj, ow, oc, hc, hc1, hs1, hfj2, ow2, hs2, szL]
  · have hc1 : ¬ room < 1 + Sm.ws z p[j] + 1 := fun a => hc (.inl a)
    have hc2 : ¬ 24 < Sm.cnts p[j] := fun a => hc (.inr a)
    refine ⟨H.set q (.dct (kput kvs (.inl (j : Int)) (.int (1 + (1 + Sm.ws z p[j]))))), p, kput kvs (.inl (j : Int)) (.int (1 + (1 + Sm.ws z p[j]))), _, K.set hql, ?_, ?_, hz2 _, kput_len _ _ _, hp, rfl, ?_, fun _ _ => rfl, ?_, ?_⟩
    · rw [List.getElem?_set_ne (Ne.symm hne)]; exact hf
    · rw [List.getElem?_set_self hqH]
    · intro b hb; rw [hpj] at hb; injection hb with hb; subst hb; omega
    · intro hF hjn hnl
      exact fix_step hF hp (j := j) (b := p[j]) hpj (fun i hi => rfl) (fun h4 => by omega) (hp j _ hpj).1
    · have hs2 := fun v => s_dct (i := (j : Int)) (v := v) _ hq (by simp [szL]; omega)
      simp [hfj, ow, oc, hc1, hc2, hs2, szL]
theorem sizes_loop {k : Nat} {h0 : LH} {f q n : Nat} {room : Int} {x0 x1 x2 x3 x5 : Option LV} (hfl : h0.length ≤ f) (hql : h0.length ≤ q) :
    ∀ (m : Nat) (p : List (List Sm)) (H : LH) (kvs : List (LKey × LV)) (z : Int → Int) (x7 : Option LV), m ≤ p.length → kvs.length + m ≤ 50 → Keep h0 H → H[f]? = some (.lst (encP p)) → H[q]? = some (.dct kvs) → (∀ t : Int, (kget kvs (.inl t)).getD (.int 1) = .int (z t)) → okP n p →
    ∃ (H' : LH) (p' : List (List Sm)) (x7' : Option LV), Keep h0 H' ∧ H'[f]? = some (.lst (encP p')) ∧ okP n p' ∧ p'.length = p.length ∧ (∀ i b, i < m → p'[i]? = some b → Sm.cnts b ≤ 24) ∧ (∀ i, m ≤ i → p'[i]? = p[i]?) ∧ (Fix room p m z → n = p.length → ∃ G, Fix room p' 0 G) ∧
      forM always (gNm 7) (b__law_program_1 (run (k + 5))) (rng 0 m).reverse [x0, x1, x2, x3, some (.int room), x5, some (.loc f), x7, some (.loc q)] H
        = .nx [x0, x1, x2, x3, some (.int room), x5, some (.loc f), x7', some (.loc q)] H'
  | 0, p, H, kvs, z, x7, hm, hk, K, hf, hq, hz, hp => ⟨H, p, x7, K, hf, hp, rfl, fun i b h => absurd h (by omega), fun _ _ => rfl, fun hF _ => ⟨z, hF⟩, by simp [rng]⟩
  | m + 1, p, H, kvs, z, x7, hm, hk, K, hf, hq, hz, hp => by
    obtain ⟨H1, p1, kvs1, z1, K1, hf1, hq1, hz1, hl1, hp1, hpl1, hc1, hu1, hx1, e1⟩ := sizes_step (k := k) (room := room) (x0 := x0) (x1 := x1) (x2 := x2) (x3 := x3) (x5 := x5) K hf hq hfl hql hz (by omega) hp (j := m) (by omega)
    obtain ⟨H2, p2, x7', K2, hf2, hp2, hpl2, hc2, hu2, hx2, e2⟩ := sizes_loop hfl hql m p1 H1 kvs1 z1 (some (.int (m : Int))) (by omega) (by omega) K1 hf1 hq1 hz1 hp1
    refine ⟨H2, p2, x7', K2, hf2, hp2, by omega, ?_, ?_, fun hF hn => hx2 (hx1 hF (by omega) hn) (by omega), ?_⟩
    · intro i b hi hb
      by_cases e : i < m
      · exact hc2 i b e hb
      · have : i = m := by omega
        subst this
        rw [hu2 i (Nat.le_refl _)] at hb
        exact hc1 b hb
    · intro i hi; rw [hu2 i (by omega), hu1 i (by omega)]
    rw [rng_rev, x_forC1]
    simp only [List.set_cons_succ, List.set_cons_zero]
    rw [e1, turn_nx, e2]
theorem program_ok {k : Nat} {h : LH} {s : Nat} {vs : List Int} {fi room : Int} {most len : Nat} (hs : h[s]? = some (.rol (vs.map .int))) (hfi : 0 ≤ fi) (hm : 0 < most) (hm2 : most ≤ 40) (hlen : len ≤ 50) :
    ∃ p : List (List Sm), okP p.length p ∧ 1 ≤ p.length ∧ p.length ≤ most ∧ (∀ b ∈ p, Sm.cnts b ≤ 24) ∧ (∃ G, Fix room p 0 G) ∧
      run (k + 6) i__law_program [.loc s, .int fi, .int most, .int len, .int room] h = .ok (.tup (encP p)) h := by
  obtain ⟨ds, eb⟩ := box_ok (k := k + 3) (h := h) (i := fi) hs hfi
  have hB : Bx (h ++ [.lst (ds.map .int), .lst [.loc h.length, .int 0]]) (h.length + 1) h.length ds := Bx.of (a := 0) (by simp) (by simp)
  have hadv : adv (h ++ [LO.lst (ds.map .int), LO.lst [LV.loc h.length, LV.int 0]]) (h.length + 1) h.length 0 = h ++ [.lst (ds.map .int), .lst [.loc h.length, .int 0]] := adv_self (by simp)
  have hd : (0 : Int) < (most : Int) := by omega
  have g0 := drw_lo (ds := ds) (a := 0) hd
  have g1 := drw_hi (ds := ds) (a := 0) hd
  have e0 := draw_ok0 (k := k + 4) (a := 0) hB hd
  rw [hadv, show k + 4 + 1 = k + 5 from rfl] at e0
  generalize drw ds 0 (most : Int) = g at g0 g1 e0
  obtain ⟨n, rfl⟩ : ∃ n : Nat, g = n := ⟨g.toNat, by omega⟩
  have K0 : Keep h (adv (h ++ [LO.lst (ds.map .int), LO.lst [LV.loc h.length, LV.int 0]]) (h.length + 1) h.length (0 + 1)) := (Keep.refl.app _).adv (by omega)
  generalize hH : adv (h ++ [LO.lst (ds.map .int), LO.lst [LV.loc h.length, LV.int 0]]) (h.length + 1) h.length (0 + 1) = H at e0 K0
  have hfl : h.length ≤ H.length := K0.len
  obtain ⟨H1, q, x7, K1, hf1, hp1, hq1, e1⟩ := body_loop (k := k) (f := H.length) (x2 := some (.int most)) (x4 := some (.int room)) (n := n + 1) hs hfl hfi hlen (by omega) (n + 1) [] (H ++ [.lst []]) none none (by simp) (K0.app _) (by simp) (by intro i b h; simp at h)
  have hq2 : H1.length ≥ H.length := by
    have := (List.getElem?_eq_some_iff.mp hf1).1; omega
  have hf2 : (H1 ++ [LO.dct []])[H.length]? = some (.lst (encP q)) := by
    rw [List.getElem?_append_left (List.getElem?_eq_some_iff.mp hf1).1]; exact hf1
  obtain ⟨H2, p2, x8, K2, hf3, hp2, hpl2, hc2, _, hx2, e2⟩ := sizes_loop (k := k) (f := H.length) (q := H1.length) (n := n + 1) (room := room) (x0 := some (.loc s)) (x1 := some (.int fi)) (x2 := some (.int most)) (x3 := some (.int len)) (x5 := some (.int ((n + 1 : Nat) : Int))) hfl (by omega) (n + 1) q (H1 ++ [.dct []]) [] (fun _ => 1) x7 (by omega) (by simp; omega) (K1.app _) hf2 (by simp) (by simp [kget]) hp1
  have e0' : (1 : Int) + (n : Int) = ((n + 1 : Nat) : Int) := by omega
  refine ⟨p2, by rw [hpl2, hq1]; exact hp2, by omega, by omega, ?_, hx2 (fun t b h1 h2 => absurd (List.getElem?_eq_some_iff.mp h2).1 (by omega)) (by omega), ?_⟩
  · intro b hb
    obtain ⟨i, hi, rfl⟩ := List.getElem_of_mem hb
    exact hc2 i _ (by omega) (List.getElem?_eq_getElem hi)
  rw [run__law_program]
  simp only [List.length_nil] at e1
  have hr1 : ∀ h', rgO ((n + 1 : Nat) : Int) h' = .ok (rng 0 (n + 1), always) h' := fun h' => rgO_nat h' (by omega)
  have hr2 : ∀ h', rgR ((n + 1 : Nat) : Int) h' = .ok ((rng 0 (n + 1)).reverse, always) h' := fun h' => rgR_nat h' (by omega)
  rw [← rng_rg] at e1
  simp only [fnRun, m__law_program]
  generalize hN : ((n + 1 : Nat) : Int) = N at *
  simp [eb, e0, e0', hr1, hr2, e1, e2, f_tupL _ hf3]
  exact K2.end_ (encP_pl p2)
end Mi.T
namespace Mi.T
theorem lsizes_loop {k : Nat} {h : LH} {p : List (List Sm)} (hp : ∀ (i : Nat) (b : List Sm), p[i]? = some b → OkW b 2) :
    ∀ (m : Nat) (kvs : List (LKey × LV)) (z : Int → Int) (x2 : Option LV), m ≤ p.length → kvs.length + m ≤ 50 → (∀ t : Int, (kget kvs (.inl t)).getD (.int 0) = .int (z t)) →
    ∃ (kvs' : List (LKey × LV)) (x2' : Option LV), (∀ t : Int, (kget kvs' (.inl t)).getD (.int 0) = .int (zrun p m z t)) ∧ (∀ t : Nat, t < m ∨ (kget kvs (.inl (t : Int))).isSome → (kget kvs' (.inl (t : Int))).isSome) ∧
      forM always (gNm 2) (b__law_sizes_0 (run (k + 3))) (rng 0 m).reverse [some (.tup (encP p)), some (.loc h.length), x2] (h ++ [.dct kvs])
        = .nx [some (.tup (encP p)), some (.loc h.length), x2'] (h ++ [.dct kvs'])
  | 0, kvs, z, x2, hm, hk, hz => ⟨kvs, x2, hz, by intro t ht; rcases ht with ht | ht; omega; exact ht, by simp [rng]⟩
  | m + 1, kvs, z, x2, hm, hk, hz => by
    have hq : (h ++ [LO.dct kvs])[h.length]? = some (.dct kvs) := by simp
    have hpm : p[m]? = some p[m] := List.getElem?_eq_getElem (by omega)
    have om : run (k + 3) i__law_measure _ _ = _ := measure_ok hq hz k 2 p[m] (hp m _ hpm)
    obtain ⟨kvs2, x3, hz2, hp2, e2⟩ := lsizes_loop (k := k) (h := h) hp m (kput kvs (.inl (m : Int)) (.int (1 + (1 + Sm.ws z p[m])))) (upd z m (1 + (1 + Sm.ws z p[m]))) (some (.int (m : Int))) (by omega) (by have := kput_len kvs (.inl (m : Int)) (.int (1 + (1 + Sm.ws z p[m]))); omega) (kget_upd hz m _)
    refine ⟨kvs2, x3, ?_, ?_, ?_⟩
    · rw [zrun, hpm, Option.getD_some]; exact hz2
    · intro t ht
      apply hp2
      by_cases e : t < m
      · exact .inl e
      · right
        rw [kget_put]
        by_cases e2 : t = m
        · subst e2; simp
        · have : ¬ (Sum.inl (t : Int) : LKey) = Sum.inl (m : Int) := by intro h; injection h with h; omega
          rw [if_neg this]
          rcases ht with ht | ht
          · omega
          · exact ht
    · rw [rng_rev, x_forC1]
      simp only [List.set_cons_succ, List.set_cons_zero]
      have hix : ixL p.length (m : Int) = some m := ixL_nat (by omega)
      have hs2 := fun v => s_dct (i := (m : Int)) (v := v) _ hq (by simp [szL]; omega)
      have st : b__law_sizes_0 (run (k + 3)) [some (.tup (encP p)), some (.loc h.length), some (.int (m : Int))] (h ++ [.dct kvs]) = .nx [some (.tup (encP p)), some (.loc h.length), some (.int (m : Int))] (h ++ [.dct (kput kvs (.inl (m : Int)) (.int (1 + (1 + Sm.ws z p[m]))))]) := by
        simp [hix, encP_get, hpm, om, hs2]
      rw [st, turn_nx, e2]
theorem lsizes_ok {k : Nat} {h : LH} {p : List (List Sm)} (hp : ∀ (i : Nat) (b : List Sm), p[i]? = some b → OkW b 2) (hl : p.length ≤ 50) :
    ∃ kvs, run (k + 4) i__law_sizes [.tup (encP p)] h = .ok (.loc (h.length + 1)) (h ++ [.dct kvs, .lst (zl (zrun p p.length fun _ => 0) p.length)]) := by
  obtain ⟨kvs, x2, hz, hs, e⟩ := lsizes_loop (k := k) (h := h) hp p.length [] (fun _ => 0) none (Nat.le_refl _) (by simp; omega) (by simp [kget])
  refine ⟨kvs, ?_⟩
  generalize zrun p p.length (fun _ => 0) = zf at *
  have f := lc_map (h0 := h ++ [.dct kvs]) (σ := [some (.tup (encP p)), some (.loc h.length), none]) (g := gNm 2) (e := b__law_sizes_1 (run (k + 3))) (D := h.length + 1)
    (fun v => match v with | .int i => LV.int (zf i) | _ => LV.non) (by simp) (rng 0 p.length) [] (by
      intro v hv
      simp [rng] at hv
      obtain ⟨i, hi, rfl⟩ := hv
      refine ⟨_, rfl, fun zs => ?_⟩
      have hq : (h ++ [LO.dct kvs, LO.lst zs])[h.length]? = some (.dct kvs) := by simp
      have h1 := hs i (.inl hi)
      have h2 := hz i
      obtain ⟨v, hv⟩ := Option.isSome_iff_exists.mp h1
      rw [hv] at h2
      simp at h2
      subst h2
      simp [o_ixD _ hq, hv]) (by simp [rng_ln, szL]; omega)
  have hm : (rng 0 p.length).map (fun v => match v with | .int i => LV.int (zf i) | _ => LV.non) = zl zf p.length := by simp [rng, zl]
  rw [List.nil_append, hm] at f
  have hbig := fun h => rgO_nat h (n := p.length) (by omega)
  have hbig2 := fun h => rgR_nat h (n := p.length) (by omega)
  rw [show k + 4 = (k + 3) + 1 from rfl, run__law_sizes]
  simp at f
  simp [fnRun, m__law_sizes, hbig, hbig2, e, wipeL, f]
  simp only [fnEnd]
  rw [gc_none (by simp) (by simp)]
end Mi.T
namespace Mi.T
theorem bsizes_loop {k : Nat} {h : LH} {s : Nat} {p : List (List Sm)} (hp : okQ1 p) :
    ∀ (m : Nat) (H : LH) (z : Int → Int) (x2 : Option LV), m ≤ p.length → Keep h H → h.length ≤ s → H[s]? = some (.lst (zl z (p.length + 1))) →
    ∃ (H' : LH) (x2' : Option LV), Keep h H' ∧ H'[s]? = some (.lst (zl (zrun p m z) (p.length + 1))) ∧
      forM always (gNm 2) (b_body_sizes_0 (run (k + 6))) (rng 0 m).reverse [some (.tup (encP p)), some (.loc s), x2] H
        = .nx [some (.tup (encP p)), some (.loc s), x2'] H'
  | 0, H, z, x2, hm, K, hl, hs => ⟨H, x2, K, hs, by simp [rng]⟩
  | m + 1, H, z, x2, hm, K, hl, hs => by
    have hpm : p[m]? = some p[m] := List.getElem?_eq_getElem (by omega)
    have om : run (k + 6) i__block_size _ _ = _ := bsize_ok hs (z := z) (hi := p.length + 1) (fun t ht => zl_get z (by omega)) k 2 p[m] (hp m _ hpm).w (hp m _ hpm).t
    have hset : H.set s (.lst (zl (upd z m (1 + (1 + Sm.ws z p[m]))) (p.length + 1))) = H.set s (.lst ((zl z (p.length + 1)).set m (.int (1 + (1 + Sm.ws z p[m]))))) := by rw [zl_set]
    have hsl : s < H.length := (List.getElem?_eq_some_iff.mp hs).1
    obtain ⟨H2, x3, K2, hs2, e2⟩ := bsizes_loop (k := k) hp m (H.set s (.lst (zl (upd z m (1 + (1 + Sm.ws z p[m]))) (p.length + 1)))) (upd z m (1 + (1 + Sm.ws z p[m]))) (some (.int (m : Int))) (by omega) (K.set hl) hl (by rw [List.getElem?_set_self hsl])
    refine ⟨H2, x3, K2, ?_, ?_⟩
    · rw [zrun, hpm, Option.getD_some]; exact hs2
    · rw [rng_rev, x_forC1]
      simp only [List.set_cons_succ, List.set_cons_zero]
      have hix : ixL p.length (m : Int) = some m := ixL_nat (by omega)
      have hix2 : ixL (zl z (p.length + 1)).length (m : Int) = some m := ixL_nat (by simp; omega)
      have hs2 := fun v => s_lst (i := (m : Int)) (v := v) _ hs hix2
      have st : b_body_sizes_0 (run (k + 6)) [some (.tup (encP p)), some (.loc s), some (.int (m : Int))] H = .nx [some (.tup (encP p)), some (.loc s), some (.int (m : Int))] (H.set s (.lst (zl (upd z m (1 + (1 + Sm.ws z p[m]))) (p.length + 1)))) := by
        rw [hset]
        simp [hix, encP_get, hpm, om, hs2]
      rw [st, turn_nx, e2]
theorem zl_zero (m : Nat) : (List.replicate m [LV.int 0]).flatten = zl (fun _ => 0) m := by
  apply List.ext_getElem?
  intro i
  have hl : (List.replicate m [LV.int 0]).flatten = List.replicate m (LV.int 0) := by
    induction m with
    | zero => rfl
    | succ m ih => rw [List.replicate_succ, List.flatten_cons, ih]; rfl
  rw [hl]
  by_cases hi : i < m
  · rw [zl_get _ hi]; simp [hi]
  · rw [List.getElem?_eq_none (by simp; omega), List.getElem?_eq_none (by simp; omega)]
theorem body_sizes_ok {k : Nat} {h : LH} {p : List (List Sm)} (hp : okQ1 p) (hl : p.length ≤ 50) :
    run (k + 7) i_body_sizes [.tup (encP p)] h = .ok (.tup (zl (zrun p p.length fun _ => 0) p.length)) h := by
  obtain ⟨H, x2, K, hs, e⟩ := bsizes_loop (k := k) (h := h) (s := h.length + 1) hp p.length (h ++ [.lst [.int 0], .lst (zl (fun _ => 0) (p.length + 1))]) (fun _ => 0) none (Nat.le_refl _) (Keep.refl.app _) (by omega) (by simp)
  have hbig2 := fun h => rgR_nat h (n := p.length) (by omega)
  generalize zrun p p.length (fun _ => 0) = zf at *
  have hcut : cutL (zl zf (p.length + 1)) none (some (-1)) = zl zf p.length := by
    simp [cutL, sIx]
    rw [show ((p.length : Int) + 1 + -1).toNat = p.length by omega]
    apply List.ext_getElem?
    intro i
    by_cases hi : i < p.length
    · rw [List.getElem?_take_of_lt hi, zl_get _ (by omega), zl_get _ hi]
    · rw [List.getElem?_eq_none (by simp; omega), List.getElem?_eq_none (by simp; omega)]
  have hr : rdL (h.length + 1) H = some (zl zf (p.length + 1)) := by simp only [rdL, hs]
  have hq : ((p.length : Int) + 1).toNat = p.length + 1 := by omega
  have hmul : opMul (.loc h.length) (.int ((p.length : Int) + 1)) (h ++ [.lst [.int 0]]) = .ok (.loc (h.length + 1)) (h ++ [.lst [.int 0], .lst (zl (fun _ => 0) (p.length + 1))]) := by
    rw [o_mulL, show (h ++ [LO.lst [.int 0]])[h.length]? = some (.lst [.int 0]) by simp]
    simp only [hq]
    rw [if_pos ⟨by omega, by omega, by simp only [List.length_singleton, szL]; omega⟩, zl_zero]
    simp
  have hz2 : 1 ≤ szL := by decide
  rw [show k + 7 = (k + 6) + 1 from rfl, run_body_sizes]
  simp [fnRun, m_body_sizes, hbig2, hmul, e, hz2, o_slL _ hr, hcut]
  have hf : (H ++ [LO.lst (zl zf p.length)])[H.length]? = some (.lst (zl zf p.length)) := by simp
  rw [f_tupL _ hf]
  simp
  exact (K.app _).end_ (lims_all (by intro x hx; simp [zl] at hx; obtain ⟨a, _, rfl⟩ := hx; rfl))
end Mi.T
namespace Mi.T
/-- a draw of starts -/
theorem starts_lc {k : Nat} {h : LH} {b d : Nat} {ds : List Int} (B : Bx h b d ds) {j : Nat} (hj : j < 7) {x1 x2 x4 : Option LV} {G : LH} : ∀ (m a : Nat) (i0 : Nat) (blk : List Sm), Sm.oks j 8 blk 2 → blk.length + m ≤ 50 →
    ∃ (a' : Nat) (blk' : List Sm), Sm.oks j 8 blk' 2 ∧ blk'.length = blk.length + m ∧
      lcM always (gNm 5) bYes (b__law_chain_0 (run (k + 1))) [some (.loc b), x1, x2, some (.int (j : Int)), x4, none] (h.length + G.length) (rg i0 m) (adv h b d a ++ (G ++ [.lst (Sm.encs blk)])) = .ok () (adv h b d a' ++ (G ++ [.lst (Sm.encs blk')]))
  | 0, a, i0, blk, ho, hl => ⟨a, blk, ho, rfl, by simp [rg, lcM, always]⟩
  | m + 1, a, i0, blk, ho, hl => by
    have hm : (0 : Int) < 7 - (j : Int) := by omega
    have g0 := drw_lo (ds := ds) (a := a) hm
    have g1 := drw_hi (ds := ds) (a := a) hm
    have e0 := draw_ok (k := k) (a := a) (L := G ++ [.lst (Sm.encs blk)]) B hm
    generalize drw ds a (7 - (j : Int)) = g at g0 g1 e0
    obtain ⟨a2, blk2, o2, l2, e2⟩ := starts_lc (k := k) B hj (x1 := x1) (x2 := x2) (x4 := x4) (G := G) m (a + 1) (i0 + 1) (blk ++ [.start ((j : Int) + 1 + g) [97]]) (oks_app _ _ _ _ _ ho (by simp [Sm.oks, Sm.ok]; omega)) (by simp; omega)
    refine ⟨a2, blk2, o2, by simp at l2; omega, ?_⟩
    have hD : (adv h b d (a + 1) ++ (G ++ [LO.lst (Sm.encs blk)]))[h.length + G.length]? = some (.lst (Sm.encs blk)) := by
      rw [List.getElem?_append_right (by simp), List.getElem?_append_right (by simp)]; simp
    have hset : ∀ o, (adv h b d (a + 1) ++ (G ++ [LO.lst (Sm.encs blk)])).set (h.length + G.length) o = adv h b d (a + 1) ++ (G ++ [o]) := by
      intro o
      rw [List.set_append_right _ _ (by simp), List.set_append_right _ _ (by simp)]; simp
    rw [rg_succ, lcM, ← e2, encs_app]
    have hl1 : (Sm.encs blk).length < szL := by rw [encs_len]; simp only [szL]; omega
    simp [always, bYes, e0, hD, hset, hl1, Sm.encs, Sm.enc, szL]
/-- one body of a chain -/
theorem chain_step {k : Nat} {h : LH} {b d a : Nat} {ds : List Int} (B : Bx h b d ds) {j : Nat} (hj : j < 8) {q : List (List Sm)} (hq8 : q.length + j = 7) (hq : ∀ i blk, q[i]? = some blk → Sm.oks (j + 1 + i) 8 blk 2 ∧ blk.length ≤ 50)
    {G : LH} {kvs : List (LKey × LV)} {z : Int → Int} (hG : G[0]? = some (.dct kvs)) (hz : ∀ t : Int, (kget kvs (.inl t)).getD (.int 1) = .int (z t)) (hkl : kvs.length ≤ 50) (x4 x5 : Option LV) :
    ∃ (a' : Nat) (G' : LH) (blk : List Sm) (kvs' : List (LKey × LV)) (z' : Int → Int) (y4 y5 : Option LV), Sm.oks j 8 blk 2 ∧ blk.length ≤ 50 ∧ G'[0]? = some (.dct kvs') ∧ (∀ t : Int, (kget kvs' (.inl t)).getD (.int 1) = .int (z' t)) ∧ kvs'.length ≤ kvs.length + 1 ∧
      b__law_chain_1 (run (k + 5)) [some (.loc b), some (.tup (encP q)), some (.loc h.length), some (.int (j : Int)), x4, x5] (adv h b d a ++ G)
        = .nx [some (.loc b), some (.tup (encP (blk :: q))), some (.loc h.length), some (.int (j : Int)), y4, y5] (adv h b d a' ++ G') := by
  have hGl : 0 < G.length := (List.getElem?_eq_some_iff.mp hG).1
  have hd0 : ∀ a' (L : LH), (adv h b d a' ++ (G ++ L))[h.length]? = some (.dct kvs) := by
    intro a' L
    rw [List.getElem?_append_right (by simp)]; simp
    rw [List.getElem?_append_left hGl]; exact hG
  -- the second half
  have fin : ∀ (a' : Nat) (L : LH) (blk : List Sm) (y5 : Option LV), Sm.oks j 8 blk 2 → blk.length ≤ 50 →
      ∃ (G' : LH) (blk' : List Sm) (kvs' : List (LKey × LV)) (z' : Int → Int) (y4 : Option LV), Sm.oks j 8 blk' 2 ∧ blk'.length ≤ 50 ∧ G'[0]? = some (.dct kvs') ∧ (∀ t : Int, (kget kvs' (.inl t)).getD (.int 1) = .int (z' t)) ∧ kvs'.length ≤ kvs.length + 1 ∧
      (sSeq (sIf (bE (mOp opGt (mOp opAdd (mC (.int 1)) (mCall (run (k + 5)) i__law_weight (aCons (mVar 4) (aCons (mVar 2) aNil)))) (mC (.int 600)))) (sSet 4 (mTup aNil)) sNext)
    (sSeq (sSub (mVar 2) (mVar 3) (mOp opAdd (mC (.int 1)) (mCall (run (k + 5)) i__law_weight (aCons (mVar 4) (aCons (mVar 2) aNil)))))
    (sSet 1 (mOp opAdd (mTup (aCons (mVar 4) aNil)) (mVar 1))))) [some (.loc b), some (.tup (encP q)), some (.loc h.length), some (.int (j : Int)), some (.tup (Sm.encs blk)), y5] (adv h b d a' ++ (G ++ L))
        = .nx [some (.loc b), some (.tup (encP (blk' :: q))), some (.loc h.length), some (.int (j : Int)), y4, y5] (adv h b d a' ++ G') := by
    intro a' L blk y5 ho hbl
    have hs2 := fun v => s_dct (i := (j : Int)) (v := v) _ (hd0 a' L) (by simp [szL]; omega)
    have hset : ∀ o, (adv h b d a' ++ (G ++ L)).set h.length o = adv h b d a' ++ (G ++ L).set 0 o := by
      intro o; rw [List.set_append_right _ _ (by simp)]; simp
    have hsz : 1 ≤ szL := by decide
    have hsz2 : q.length + 1 ≤ szL := by simp only [szL]; omega
    have hG0 : ∀ o, ((G ++ L).set 0 o)[0]? = some o := by intro o; rw [List.getElem?_set_self (by simp; omega)]
    have ow : run (k + 5) i__law_weight _ _ = _ := weight_ok (hd0 a' L) hz (k + 2) 2 blk (.of ho)
    have ow0 : run (k + 5) i__law_weight _ _ = _ := weight_ok (hd0 a' L) hz (k + 2) 2 [] (.of (lo := j) (hi := 8) trivial)
    simp only [Sm.encs] at ow0
    by_cases hc : 600 < 1 + (1 + Sm.ws z blk)
    · refine ⟨(G ++ L).set 0 (.dct (kput kvs (.inl (j : Int)) (.int (1 + (1 + Sm.ws z []))))), [], kput kvs (.inl (j : Int)) (.int (1 + (1 + Sm.ws z []))), _, some (.tup []), trivial, by simp, hG0 _, kget_upd hz j _, kput_len _ _ _, ?_⟩
      simp [ow, hc, ow0, hs2, hset, hsz, hsz2, encP, Sm.encs, Nat.add_comm]
    · refine ⟨(G ++ L).set 0 (.dct (kput kvs (.inl (j : Int)) (.int (1 + (1 + Sm.ws z blk))))), blk, kput kvs (.inl (j : Int)) (.int (1 + (1 + Sm.ws z blk))), _, some (.tup (Sm.encs blk)), ho, hbl, hG0 _, kget_upd hz j _, kput_len _ _ _, ?_⟩
      simp [ow, hc, hs2, hset, hsz, hsz2, encP, Nat.add_comm]
  by_cases h7 : j < 7
  · have g0 := drw_lo (ds := ds) (a := a) (m := 4) (by decide)
    have g1 := drw_hi (ds := ds) (a := a) (m := 4) (by decide)
    have e0 := draw_ok (k := k + 4) (a := a) (L := G) B (show (0 : Int) < 4 by decide)
    generalize drw ds a 4 = g at g0 g1 e0
    obtain ⟨n, rfl⟩ : ∃ n : Nat, g = n := ⟨g.toNat, by omega⟩
    obtain ⟨a1, blk, o1, l1, e1⟩ := starts_lc (k := k + 4) B h7 (x1 := some (.tup (encP q))) (x2 := some (.loc h.length)) (x4 := some (.tup [])) (G := G) n (a + 1) 0 [] trivial (by simp; omega)
    obtain ⟨G', blk', kvs', z', y4, r1, r2, r3, r4, r5, e2⟩ := fin a1 [.lst (Sm.encs blk)] blk x5 o1 (by simp at l1; omega)
    refine ⟨a1, G', blk', kvs', z', y4, x5, r1, r2, r3, r4, r5, ?_⟩
    rw [← e2]
    have hbig := fun h => rgO_nat h (n := n) (by omega)
    have hf : (adv h b d a1 ++ (G ++ [LO.lst (Sm.encs blk)]))[h.length + G.length]? = some (.lst (Sm.encs blk)) := by
      rw [List.getElem?_append_right (by simp), List.getElem?_append_right (by simp)]; simp
    have h7' : (j : Int) < 7 := by omega
    rw [← rng_rg] at e1
    simp only [Sm.encs] at e1
    simp [szL, h7', e0, hbig, wipeL, e1, f_tupL _ hf]
  · have h7' : ¬ (j : Int) < 7 := by omega
    obtain ⟨G', blk', kvs', z', y4, r1, r2, r3, r4, r5, e2⟩ := fin a [] [] x5 trivial (by simp)
    refine ⟨a, G', blk', kvs', z', y4, x5, r1, r2, r3, r4, r5, ?_⟩
    rw [← e2]
    simp [szL, h7', Sm.encs]
theorem chain_loop {k : Nat} {h : LH} {b d : Nat} {ds : List Int} (B : Bx h b d ds) : ∀ (m a : Nat) (q : List (List Sm)) (G : LH) (kvs : List (LKey × LV)) (z : Int → Int) (x3 x4 x5 : Option LV), q.length + m = 8 → (∀ i blk, q[i]? = some blk → Sm.oks (m + i) 8 blk 2 ∧ blk.length ≤ 50) →
    G[0]? = some (.dct kvs) → (∀ t : Int, (kget kvs (.inl t)).getD (.int 1) = .int (z t)) → kvs.length + m ≤ 50 →
    ∃ (a' : Nat) (G' : LH) (q' : List (List Sm)) (y3 y4 y5 : Option LV), okP 8 q' ∧ q'.length = 8 ∧
      forM always (gNm 3) (b__law_chain_1 (run (k + 5))) (rng 0 m).reverse [some (.loc b), some (.tup (encP q)), some (.loc h.length), x3, x4, x5] (adv h b d a ++ G)
        = .nx [some (.loc b), some (.tup (encP q')), some (.loc h.length), y3, y4, y5] (adv h b d a' ++ G')
  | 0, a, q, G, kvs, z, x3, x4, x5, hl, hq, hG, hz, hk => ⟨a, G, q, x3, x4, x5, fun i blk hi => by have := hq i blk hi; rw [Nat.zero_add] at this; exact this, by omega, by simp [rng]⟩
  | m + 1, a, q, G, kvs, z, x3, x4, x5, hl, hq, hG, hz, hk => by
    obtain ⟨a1, G1, blk, kvs1, z1, y4, y5, r1, r2, r3, r4, r5, e1⟩ := chain_step (k := k) (a := a) B (j := m) (by omega) (q := q) (by omega) hq hG hz (by omega) x4 x5
    obtain ⟨a2, G2, q2, w3, w4, w5, s1, s2, e2⟩ := chain_loop B m a1 (blk :: q) G1 kvs1 z1 (some (.int (m : Int))) y4 y5 (by simp; omega) (by
      intro i c hi
      cases i with
      | zero => simp at hi; subst hi; exact ⟨r1, r2⟩
      | succ i => simp at hi; have := hq i c hi; rw [show m + (i + 1) = m + 1 + i by omega]; exact this) r3 r4 (by omega)
    refine ⟨a2, G2, q2, w3, w4, w5, s1, s2, ?_⟩
    rw [rng_rev, x_forC1]
    simp only [List.set_cons_succ, List.set_cons_zero]
    rw [e1, turn_nx, e2]
theorem chain_ok {k : Nat} {h : LH} {b d a : Nat} {ds : List Int} (B : Bx h b d ds) :
    ∃ (a' : Nat) (q : List (List Sm)), okP q.length q ∧ q.length = 8 ∧ run (k + 6) i__law_chain [.loc b] (adv h b d a) = .ok (.tup (encP q)) (adv h b d a') := by
  obtain ⟨a', G', q, y3, y4, y5, s1, s2, e⟩ := chain_loop (k := k) B 8 a [] [.dct []] [] (fun _ => 1) none none none (by simp) (by simp) (by simp) (by simp [kget]) (by simp)
  refine ⟨a', q, by rw [s2]; exact s1, s2, ?_⟩
  have hbig := fun h => rgR_big h (show big 8 = true by decide)
  rw [show k + 6 = (k + 5) + 1 from rfl, run__law_chain]
  rw [encP_nil] at e
  have B2 : Bx (adv h b d a) b d ds := Bx.of (a := a) (by have := adv_b (a := a) B []; rw [List.append_nil] at this; exact this) (by have := adv_d (a := a) B []; rw [List.append_nil] at this; exact this)
  simp [fnRun, m__law_chain, szL, hbig, e]
  have q : adv h b d a' = adv (adv h b d a) b d a' := by unfold adv; simp
  simp only [fnEnd]
  rw [q, gc_adv B2 (pl_lim (encP_pl _) _)]
end Mi.T
namespace Mi.T
theorem same_sizes {k : Nat} {h : LH} {p : List (List Sm)} (hp : okP p.length p) (hl : p.length ≤ 50) :
    ∃ h', b_law_0 (run (k + 8)) [some (.loc 0), some (.tup (encP p))] h = .nx [some (.loc 0), some (.tup (encP p))] h' := by
  have e1 := body_sizes_ok (k := k + 1) (h := h) (okQ.to1 (okQ.of hp)) hl
  obtain ⟨kvs, e2⟩ := lsizes_ok (k := k + 4) (h := h) (fun i b e => OkW.of (hp i b e).1) hl
  have f := f_tupL (n := h.length + 1) (h ++ [LO.dct kvs, LO.lst (zl (zrun p p.length fun _ => 0) p.length)]) (xs := zl (zrun p p.length fun _ => 0) p.length) (by simp)
  have e3 := same_ok (k := k + 5) 1 (h ++ [LO.dct kvs, LO.lst (zl (zrun p p.length fun _ => 0) p.length)]) (.tup (zl (zrun p p.length fun _ => 0) p.length)) (.tup (zl (zrun p p.length fun _ => 0) p.length)) (zl_pn _ _) (zl_pn _ _)
    ⟨by simp; omega, by intro x hx; simp [zl] at hx; obtain ⟨a, _, rfl⟩ := hx; exact trivial⟩
  refine ⟨h ++ [LO.dct kvs, LO.lst (zl (zrun p p.length fun _ => 0) p.length)], ?_⟩
  rw [show k + 1 + 7 = k + 8 by omega] at e1
  rw [show k + 4 + 4 = k + 8 by omega] at e2
  rw [show k + 5 + 2 + 1 = k + 8 by omega] at e3
  simp [e1, e2, f, e3]
theorem law_holds_k (k : Nat) : Law run (k + 9) i_law := by
  intro ns _
  have hs : ([LO.rol (ns.map LV.int)] : LH)[0]? = some (.rol (ns.map .int)) := rfl
  obtain ⟨p, hp, hp1, hp5, _, _, e1⟩ := program_ok (k := k + 2) (fi := 0) (room := 590) (most := 5) (len := 6) hs (by decide) (by decide) (by decide) (by decide)
  have e1 : run (k + 8) i__law_program [.loc 0, .int 0, .int 5, .int 6, .int 590] _ = _ := e1
  obtain ⟨ds, eb⟩ := box_ok (k := k + 6) (h := [LO.rol (ns.map LV.int)]) (i := 9) hs (by decide)
  have hB : Bx ([LO.rol (ns.map LV.int)] ++ [.lst (ds.map .int), .lst [.loc 1, .int 0]]) 2 1 ds := Bx.of (a := 0) (by simp) (by simp)
  have hadv : adv ([LO.rol (ns.map LV.int)] ++ [.lst (ds.map .int), .lst [.loc 1, .int 0]]) 2 1 0 = [LO.rol (ns.map LV.int)] ++ [.lst (ds.map .int), .lst [.loc 1, .int 0]] := adv_self (by simp)
  obtain ⟨a', q, hq, hq8, e2⟩ := chain_ok (k := k + 2) (a := 0) hB
  rw [hadv] at e2
  have e2 : run (k + 8) i__law_chain [.loc 2] _ = _ := e2
  have eb : run (k + 8) i__law_box [.loc 0, .int 9] [LO.rol (ns.map LV.int)] = .ok (.loc 2) ([LO.rol (ns.map LV.int)] ++ [.lst (ds.map .int), .lst [.loc 1, .int 0]]) := eb
  obtain ⟨h1, s1⟩ := same_sizes (k := k) (h := adv ([LO.rol (ns.map LV.int)] ++ [.lst (ds.map .int), .lst [.loc 1, .int 0]]) 2 1 a') hp (by omega)
  obtain ⟨h2, s2⟩ := same_sizes (k := k) (h := h1) hq (by omega)
  rw [show k + 9 = (k + 8) + 1 from rfl, run_law]
  generalize [LO.rol (ns.map LV.int)] ++ [LO.lst (ds.map .int), .lst [.loc 1, .int 0]] = H at *
  simp only [fnRun, m_law]
  refine ⟨gc (fun n => LV.lim n (.bl true)) [LO.rol (ns.map LV.int)] h2, ?_⟩
  have z : 2 ≤ szL := by decide
  have t : ∀ o : O, o = .rt (.bl true) h2 → fnEnd [LO.rol (ns.map LV.int)] o = .ok (.bl true) (gc (fun n => LV.lim n (.bl true)) [LO.rol (ns.map LV.int)] h2) := by
    intro o e; subst e; rfl
  apply t
  have loop : forM always (gNm 1) (b_law_0 (run (k + 8))) [.tup (encP p), .tup (encP q)] [some (.loc 0), none] (adv H 2 1 a') = .nx [some (.loc 0), some (.tup (encP q))] h2 := by
    rw [x_forC1]
    simp only [List.set_cons_succ, List.set_cons_zero]
    rw [s1, turn_nx, x_forC1]
    simp only [List.set_cons_succ, List.set_cons_zero]
    rw [s2, turn_nx, x_forN']
  simp [e1, eb, e2, z, loop]
abbrev dep : Nat := 59
theorem law_holds : Law run (dep + 1) i_law := law_holds_k 51
end Mi.T
namespace Mi.T
open PySem PySem.Spec PyProof.Rows L2
def top (i : Nat) : Stmt := PySem.Challenge.pw_sameticks_k01_sizes.main.body.getD i (.Pass ⟨0, 0, 0, 0⟩)
abbrev s_body_sizes : Stmt := top 1
abbrev N_body_sizes : List Str := ["program", "sizes", "number"]
theorem sc_body_sizes : FnScope N_body_sizes ["program"] (defScope s_body_sizes) := ⟨rfl, rfl, rfl, by decide +kernel, rfl, by decide +kernel, by decide +kernel⟩
abbrev s__block_size : Stmt := top 2
abbrev N__block_size : List Str := ["block", "sizes", "total", "statement"]
theorem sc__block_size : FnScope N__block_size ["block", "sizes"] (defScope s__block_size) := ⟨rfl, rfl, rfl, by decide +kernel, rfl, by decide +kernel, by decide +kernel⟩
abbrev s__statement_size : Stmt := top 3
abbrev N__statement_size : List Str := ["statement", "sizes", "kind"]
theorem sc__statement_size : FnScope N__statement_size ["statement", "sizes"] (defScope s__statement_size) := ⟨rfl, rfl, rfl, by decide +kernel, rfl, by decide +kernel, by decide +kernel⟩
abbrev s__law_cell : Stmt := top 5
abbrev N__law_cell : List Str := ["script", "k"]
theorem sc__law_cell : FnScope N__law_cell ["script", "k"] (defScope s__law_cell) := ⟨rfl, rfl, rfl, by decide +kernel, rfl, by decide +kernel, by decide +kernel⟩
abbrev s__law_digits : Stmt := top 6
abbrev N__law_digits : List Str := ["cell", "at", "digits", "turn", "seed"]
theorem sc__law_digits : FnScope N__law_digits ["cell", "at"] (defScope s__law_digits) := ⟨rfl, rfl, rfl, by decide +kernel, rfl, by decide +kernel, by decide +kernel⟩
abbrev s__law_box : Stmt := top 7
abbrev N__law_box : List Str := ["script", "at"]
theorem sc__law_box : FnScope N__law_box ["script", "at"] (defScope s__law_box) := ⟨rfl, rfl, rfl, by decide +kernel, rfl, by decide +kernel, by decide +kernel⟩
abbrev s__law_draw : Stmt := top 8
abbrev N__law_draw : List Str := ["box", "many", "at"]
theorem sc__law_draw : FnScope N__law_draw ["box", "many"] (defScope s__law_draw) := ⟨rfl, rfl, rfl, by decide +kernel, rfl, by decide +kernel, by decide +kernel⟩
abbrev s__law_is_integer : Stmt := top 9
abbrev N__law_is_integer : List Str := ["actual"]
theorem sc__law_is_integer : FnScope N__law_is_integer ["actual"] (defScope s__law_is_integer) := ⟨rfl, rfl, rfl, by decide +kernel, rfl, by decide +kernel, by decide +kernel⟩
abbrev s__law_same : Stmt := top 10
abbrev N__law_same : List Str := ["actual", "due", "at"]
theorem sc__law_same : FnScope N__law_same ["actual", "due"] (defScope s__law_same) := ⟨rfl, rfl, rfl, by decide +kernel, rfl, by decide +kernel, by decide +kernel⟩
abbrev s__law_word : Stmt := top 11
abbrev N__law_word : List Str := ["box"]
theorem sc__law_word : FnScope N__law_word ["box"] (defScope s__law_word) := ⟨rfl, rfl, rfl, by decide +kernel, rfl, by decide +kernel, by decide +kernel⟩
abbrev s__law_block : Stmt := top 12
abbrev N__law_block : List Str := ["box", "depth", "most", "body", "bodies", "found", "turn", "kind", "name", "first"]
theorem sc__law_block : FnScope N__law_block ["box", "depth", "most", "body", "bodies"] (defScope s__law_block) := ⟨rfl, rfl, rfl, by decide +kernel, rfl, by decide +kernel, by decide +kernel⟩
abbrev s__law_count : Stmt := top 13
abbrev N__law_count : List Str := ["block", "found", "item", "part"]
theorem sc__law_count : FnScope N__law_count ["block"] (defScope s__law_count) := ⟨rfl, rfl, rfl, by decide +kernel, rfl, by decide +kernel, by decide +kernel⟩
abbrev s__law_weight : Stmt := top 14
abbrev N__law_weight : List Str := ["block", "sizes", "total", "statement"]
theorem sc__law_weight : FnScope N__law_weight ["block", "sizes"] (defScope s__law_weight) := ⟨rfl, rfl, rfl, by decide +kernel, rfl, by decide +kernel, by decide +kernel⟩
abbrev s__law_program : Stmt := top 15
abbrev N__law_program : List Str := ["script", "first", "most", "length", "room", "bodies", "found", "body", "sizes"]
theorem sc__law_program : FnScope N__law_program ["script", "first", "most", "length", "room"] (defScope s__law_program) := ⟨rfl, rfl, rfl, by decide +kernel, rfl, by decide +kernel, by decide +kernel⟩
abbrev s__law_measure : Stmt := top 16
abbrev N__law_measure : List Str := ["block", "sizes", "total", "item"]
theorem sc__law_measure : FnScope N__law_measure ["block", "sizes"] (defScope s__law_measure) := ⟨rfl, rfl, rfl, by decide +kernel, rfl, by decide +kernel, by decide +kernel⟩
abbrev s__law_sizes : Stmt := top 17
abbrev N__law_sizes : List Str := ["bodies", "sizes", "body"]
theorem sc__law_sizes : FnScope N__law_sizes ["bodies"] (defScope s__law_sizes) := ⟨rfl, rfl, rfl, by decide +kernel, rfl, by decide +kernel, by decide +kernel⟩
abbrev s__law_chain : Stmt := top 18
abbrev N__law_chain : List Str := ["box", "found", "sizes", "body", "block", "k"]
theorem sc__law_chain : FnScope N__law_chain ["box"] (defScope s__law_chain) := ⟨rfl, rfl, rfl, by decide +kernel, rfl, by decide +kernel, by decide +kernel⟩
abbrev s_law : Stmt := top 19
abbrev N_law : List Str := ["script", "program"]
theorem sc_law : FnScope N_law ["script"] (defScope s_law) := ⟨rfl, rfl, rfl, by decide +kernel, rfl, by decide +kernel, by decide +kernel⟩
/-- what the top leaves: the built-ins stand, the constants -/
structure Txt (K : PySem.W.Frag) (mg : Str → Option Value) (fa ca : Nat → Addr) : Prop where
  n_all : mg "all" = none
  n_bool : mg "bool" = none
  n_int : mg "int" = none
  n_isinstance : mg "isinstance" = none
  n_len : mg "len" = none
  n_range : mg "range" = none
  n_reversed : mg "reversed" = none
  n_str : mg "str" = none
  n_tuple : mg "tuple" = none
structure Ds (P : Program) (w : World) (K : PySem.W.Frag) (mg : Str → Option Value) (base : Heap) (g : GG) (k : Nat) (C : Or) : Prop where
  d0 : Df P w K mg base g k 0 "body_sizes" 1 C
  d1 : Df P w K mg base g k 1 "_block_size" 2 C
  d2 : Df P w K mg base g k 2 "_statement_size" 2 C
  d3 : Df P w K mg base g k 3 "_law_cell" 2 C
  d4 : Df P w K mg base g k 4 "_law_digits" 2 C
  d5 : Df P w K mg base g k 5 "_law_box" 2 C
  d6 : Df P w K mg base g k 6 "_law_draw" 2 C
  d7 : Df P w K mg base g k 7 "_law_is_integer" 1 C
  d8 : Df P w K mg base g k 8 "_law_same" 2 C
  d9 : Df P w K mg base g k 9 "_law_word" 1 C
  d10 : Df P w K mg base g k 10 "_law_block" 5 C
  d11 : Df P w K mg base g k 11 "_law_count" 1 C
  d12 : Df P w K mg base g k 12 "_law_weight" 2 C
  d13 : Df P w K mg base g k 13 "_law_program" 5 C
  d14 : Df P w K mg base g k 14 "_law_measure" 2 C
  d15 : Df P w K mg base g k 15 "_law_sizes" 1 C
  d16 : Df P w K mg base g k 16 "_law_chain" 1 C
  d17 : Df P w K mg base g k 17 "law" 1 C
section
variable {P : Program} {w : World} {K : PySem.W.Frag} {mg : Str → Option Value} {base : Heap} {fa ca : Nat → Addr}
theorem ok_body_sizes {k : Nat} {C : Or} {f : Addr} {fd : FuncData} (T : Txt K mg fa ca) (D : Ds P w K mg base ⟨K, fa, ca⟩ k C) (F : Fun K "body_sizes" "body_sizes" s_body_sizes f fd) : FnOk P w K mg base (L2.CX P w) (k + 1) f fd ["program"] (spOf ⟨K, fa, ca⟩ 1 (fnRun 3 (m_body_sizes C))) :=
  fn_ok (N := N_body_sizes) F sc_body_sizes rfl fun cdv A outer s H E LW hr tk po =>
    (q_scons (q_set 1 sc_body_sizes.nd (q_mul (q_lst (q_cons q_int q_nil)) (q_add (q_len rfl T.n_len (q_var 0)) q_int)))
    (q_scons (q_for po rfl (q_iRev1 rfl T.n_reversed rfl T.n_range (q_len rfl T.n_len (q_var 0))) (pg_name (i := 2) sc_body_sizes.nd rfl (by first | exact Or.inl rfl | exact Or.inr rfl)) g_nm (q_sone (q_put (hu_of hr) (q_add q_int (q_callD tk D.d1 hr rfl (q_cons (q_ix (hu_of hr) (q_var 0) (q_var 2)) (q_cons (q_var 1) q_nil)) rfl (al_cons (al_cons al_nil)))) (q_var 1) (q_var 2))))
    (q_sone (q_ret (q_tuple rfl T.n_tuple (q_slice (q_var 1) q_oNone (q_oSome (q_neg q_int))))))))
theorem ok__block_size {k : Nat} {C : Or} {f : Addr} {fd : FuncData} (T : Txt K mg fa ca) (D : Ds P w K mg base ⟨K, fa, ca⟩ k C) (F : Fun K "_block_size" "_block_size" s__block_size f fd) : FnOk P w K mg base (L2.CX P w) (k + 1) f fd ["block", "sizes"] (spOf ⟨K, fa, ca⟩ 2 (fnRun 4 (m__block_size C))) :=
  fn_ok (N := N__block_size) F sc__block_size rfl fun cdv A outer s H E LW hr tk po =>
    (q_scons (q_set 2 sc__block_size.nd q_int)
    (q_scons (q_for po rfl (q_iSeq (q_var 0)) (pg_name (i := 3) sc__block_size.nd rfl (by first | exact Or.inl rfl | exact Or.inr rfl)) g_nm (q_sone (q_aug 2 sc__block_size.nd (or_iaddX rfl) os_iaddX (q_callD tk D.d2 hr rfl (q_cons (q_var 3) (q_cons (q_var 1) q_nil)) rfl (al_cons (al_cons al_nil))))))
    (q_sone (q_ret (q_var 2)))))
theorem ok__statement_size {k : Nat} {C : Or} {f : Addr} {fd : FuncData} (T : Txt K mg fa ca) (D : Ds P w K mg base ⟨K, fa, ca⟩ k C) (F : Fun K "_statement_size" "_statement_size" s__statement_size f fd) : FnOk P w K mg base (L2.CX P w) (k + 1) f fd ["statement", "sizes"] (spOf ⟨K, fa, ca⟩ 2 (fnRun 3 (m__statement_size C))) :=
  fn_ok (N := N__statement_size) F sc__statement_size rfl fun cdv A outer s H E LW hr tk po =>
    (q_scons (q_set 2 sc__statement_size.nd (q_ix (hu_of hr) (q_var 0) q_int))
    (q_scons (q_sif (q_teq hr (q_var 2) (q_str (by decide +kernel))) (q_sone (q_ret (q_add q_int (q_ix (hu_of hr) (q_var 1) (q_ix (hu_of hr) (q_var 0) q_int))))) q_snil)
    (q_scons (q_sif (q_teq hr (q_var 2) (q_str (by decide +kernel))) (q_sone (q_ret (q_add (q_add q_int (q_callD tk D.d1 hr rfl (q_cons (q_ix (hu_of hr) (q_var 0) q_int) (q_cons (q_var 1) q_nil)) rfl (al_cons (al_cons al_nil)))) (q_callD tk D.d1 hr rfl (q_cons (q_ix (hu_of hr) (q_var 0) q_int) (q_cons (q_var 1) q_nil)) rfl (al_cons (al_cons al_nil)))))) q_snil)
    (q_scons (q_sif (q_teq hr (q_var 2) (q_str (by decide +kernel))) (q_sone (q_ret (q_add q_int (q_mul (q_ix (hu_of hr) (q_var 0) q_int) (q_add q_int (q_callD tk D.d1 hr rfl (q_cons (q_ix (hu_of hr) (q_var 0) q_int) (q_cons (q_var 1) q_nil)) rfl (al_cons (al_cons al_nil)))))))) q_snil)
    (q_sone (q_ret q_int))))))
theorem ok__law_cell {k : Nat} {C : Or} {f : Addr} {fd : FuncData} (T : Txt K mg fa ca) (D : Ds P w K mg base ⟨K, fa, ca⟩ k C) (F : Fun K "_law_cell" "_law_cell" s__law_cell f fd) : FnOk P w K mg base (L2.CX P w) (k + 1) f fd ["script", "k"] (spOf ⟨K, fa, ca⟩ 2 (fnRun 2 (m__law_cell C))) :=
  fn_ok (N := N__law_cell) F sc__law_cell rfl fun cdv A outer s H E LW hr tk po =>
    (q_scons (q_sif (q_tlt (q_var 1) (q_len rfl T.n_len (q_var 0))) (q_sone (q_ret (q_int1 rfl T.n_int (q_ix (hu_of hr) (q_var 0) (q_var 1))))) q_snil)
    (q_sone (q_ret q_int)))
theorem ok__law_digits {k : Nat} {C : Or} {f : Addr} {fd : FuncData} (T : Txt K mg fa ca) (D : Ds P w K mg base ⟨K, fa, ca⟩ k C) (F : Fun K "_law_digits" "_law_digits" s__law_digits f fd) : FnOk P w K mg base (L2.CX P w) (k + 1) f fd ["cell", "at"] (spOf ⟨K, fa, ca⟩ 2 (fnRun 5 (m__law_digits C))) :=
  fn_ok (N := N__law_digits) F sc__law_digits rfl fun cdv A outer s H E LW hr tk po =>
    (q_scons (q_set 2 sc__law_digits.nd (q_lst q_nil))
    (q_scons (q_sif (q_tlt (q_var 0) q_int) (q_sone (q_set 0 sc__law_digits.nd (q_sub q_int (q_mul q_int (q_var 0))))) q_snil)
    (q_scons (q_sif (q_tge (q_var 0) (q_pow q_int q_int)) (q_sone (q_for po rfl (q_iRange1 rfl T.n_range q_int) (pg_name (i := 3) sc__law_digits.nd rfl (by first | exact Or.inl rfl | exact Or.inr rfl)) g_nm (q_sone (q_sif (q_tgt (q_var 0) q_int) (q_scons (q_expr (q_append (q_var 2) (q_mod (q_int1 rfl T.n_int (q_var 0)) q_int)))
    (q_sone (q_set 0 sc__law_digits.nd (q_div (q_var 0) q_int)))) q_snil)))) (q_scons (q_set 4 sc__law_digits.nd (q_mod (q_int1 rfl T.n_int (q_add (q_add (q_mul (q_var 0) q_int) (q_mul (q_var 1) q_int)) q_int)) q_int))
    (q_sone (q_for po rfl (q_iRange1 rfl T.n_range q_int) (pg_name (i := 3) sc__law_digits.nd rfl (by first | exact Or.inl rfl | exact Or.inr rfl)) g_nm (q_scons (q_set 4 sc__law_digits.nd (q_mod (q_int1 rfl T.n_int (q_add (q_add (q_mul (q_var 4) q_int) (q_mul q_int (q_var 3))) q_int)) q_int))
    (q_sone (q_expr (q_append (q_var 2) (q_mod (q_int1 rfl T.n_int (q_div (q_var 4) q_int)) q_int)))))))))
    (q_sone (q_ret (q_var 2))))))
theorem ok__law_box {k : Nat} {C : Or} {f : Addr} {fd : FuncData} (T : Txt K mg fa ca) (D : Ds P w K mg base ⟨K, fa, ca⟩ k C) (F : Fun K "_law_box" "_law_box" s__law_box f fd) : FnOk P w K mg base (L2.CX P w) (k + 1) f fd ["script", "at"] (spOf ⟨K, fa, ca⟩ 2 (fnRun 2 (m__law_box C))) :=
  fn_ok (N := N__law_box) F sc__law_box rfl fun cdv A outer s H E LW hr tk po =>
    (q_sone (q_ret (q_lst (q_cons (q_callD tk D.d4 hr rfl (q_cons (q_callD tk D.d3 hr rfl (q_cons (q_var 0) (q_cons (q_var 1) q_nil)) rfl (al_cons (al_cons al_nil))) (q_cons (q_var 1) q_nil)) rfl (al_cons (al_cons al_nil))) (q_cons q_int q_nil)))))
theorem ok__law_draw {k : Nat} {C : Or} {f : Addr} {fd : FuncData} (T : Txt K mg fa ca) (D : Ds P w K mg base ⟨K, fa, ca⟩ k C) (F : Fun K "_law_draw" "_law_draw" s__law_draw f fd) : FnOk P w K mg base (L2.CX P w) (k + 1) f fd ["box", "many"] (spOf ⟨K, fa, ca⟩ 2 (fnRun 3 (m__law_draw C))) :=
  fn_ok (N := N__law_draw) F sc__law_draw rfl fun cdv A outer s H E LW hr tk po =>
    (q_scons (q_set 2 sc__law_draw.nd (q_ix (hu_of hr) (q_var 0) q_int))
    (q_scons (q_put (hu_of hr) (q_add (q_var 2) q_int) (q_var 0) q_int)
    (q_scons (q_sif (q_tlt (q_var 2) (q_len rfl T.n_len (q_ix (hu_of hr) (q_var 0) q_int))) (q_sone (q_ret (q_mod (q_int1 rfl T.n_int (q_ix (hu_of hr) (q_ix (hu_of hr) (q_var 0) q_int) (q_var 2))) (q_var 1)))) q_snil)
    (q_sone (q_ret q_int)))))
theorem ok__law_is_integer {k : Nat} {C : Or} {f : Addr} {fd : FuncData} (T : Txt K mg fa ca) (D : Ds P w K mg base ⟨K, fa, ca⟩ k C) (F : Fun K "_law_is_integer" "_law_is_integer" s__law_is_integer f fd) : FnOk P w K mg base (L2.CX P w) (k + 1) f fd ["actual"] (spOf ⟨K, fa, ca⟩ 1 (fnRun 1 (m__law_is_integer C))) :=
  fn_ok (N := N__law_is_integer) F sc__law_is_integer rfl fun cdv A outer s H E LW hr tk po =>
    (q_sone (q_ret (q_and (q_isTy .int rfl T.n_isinstance (q_var 0) rfl T.n_int (by decide +kernel)) (q_one (q_not (q_isTy .bool rfl T.n_isinstance (q_var 0) rfl T.n_bool (by decide +kernel)))))))
theorem ok__law_same {k : Nat} {C : Or} {f : Addr} {fd : FuncData} (T : Txt K mg fa ca) (D : Ds P w K mg base ⟨K, fa, ca⟩ k C) (F : Fun K "_law_same" "_law_same" s__law_same f fd) : FnOk P w K mg base (L2.CX P w) (k + 1) f fd ["actual", "due"] (spOf ⟨K, fa, ca⟩ 2 (fnRun 3 (m__law_same C))) :=
  fn_ok (N := N__law_same) F sc__law_same rfl fun cdv A outer s H E LW hr tk po =>
    (q_scons (q_sif (q_tru (q_isTy .tuple rfl T.n_isinstance (q_var 1) rfl T.n_tuple (by decide +kernel))) (q_scons (q_sif (L2.PW.pt (q_tor (q_tnot (q_tru (q_isTy .tuple rfl T.n_isinstance (q_var 0) rfl T.n_tuple (by decide +kernel)))) (q_or1 (q_tne hr (q_len rfl T.n_len (q_var 0)) (q_len rfl T.n_len (q_var 1)))))) (q_sone (q_ret q_bl)) q_snil)
    (q_sone (q_ret (q_all rfl rfl T.n_all (q_lc (own := [("at", 2)]) rfl sc__law_same.nd (q_iRange1 rfl T.n_range (q_len rfl T.n_len (q_var 1))) (blkOk_by (N := N__law_same) (sc := defScope s__law_same) (own := [("at", 2)]) (by decide +kernel)) g_nm (by decide) (fun _ _ _ _ _ => (pg_name (i := 2) sc__law_same.nd rfl (by first | exact Or.inl rfl | exact Or.inr rfl))) (fun _ _ _ _ _ => q_ptsN) (fun _ _ _ _ _ => (q_callD tkno D.d8 hr rfl (q_cons (q_ix (hu_of hr) (q_var 0) (q_var 2)) (q_cons (q_ix (hu_of hr) (q_var 1) (q_var 2)) q_nil)) rfl (al_cons (al_cons al_nil))))))))) q_snil)
    (q_scons (q_sif (q_tru (q_isTy .bool rfl T.n_isinstance (q_var 1) rfl T.n_bool (by decide +kernel))) (q_sone (q_ret (q_and (q_isTy .bool rfl T.n_isinstance (q_var 0) rfl T.n_bool (by decide +kernel)) (q_one (q_eq hr (q_var 0) (q_var 1)))))) q_snil)
    (q_scons (q_sif (q_tru (q_isTy .int rfl T.n_isinstance (q_var 1) rfl T.n_int (by decide +kernel))) (q_sone (q_ret (q_and (q_callD tk D.d7 hr rfl (q_cons (q_var 0) q_nil) rfl (al_cons al_nil)) (q_one (q_eq hr (q_var 0) (q_var 1)))))) q_snil)
    (q_scons (q_sif (q_tru (q_isTy .str rfl T.n_isinstance (q_var 1) rfl T.n_str (by decide +kernel))) (q_sone (q_ret (q_and (q_isTy .str rfl T.n_isinstance (q_var 0) rfl T.n_str (by decide +kernel)) (q_one (q_eq hr (q_var 0) (q_var 1)))))) q_snil)
    (q_sone (q_ret (q_and (q_isN (q_var 0)) (q_one (q_isN (q_var 1))))))))))
theorem ok__law_word {k : Nat} {C : Or} {f : Addr} {fd : FuncData} (T : Txt K mg fa ca) (D : Ds P w K mg base ⟨K, fa, ca⟩ k C) (F : Fun K "_law_word" "_law_word" s__law_word f fd) : FnOk P w K mg base (L2.CX P w) (k + 1) f fd ["box"] (spOf ⟨K, fa, ca⟩ 1 (fnRun 1 (m__law_word C))) :=
  fn_ok (N := N__law_word) F sc__law_word rfl fun cdv A outer s H E LW hr tk po =>
    (q_sone (q_ret (q_ix (hu_of hr) (q_tup (q_cons (q_str (by decide +kernel)) (q_cons (q_str (by decide +kernel)) (q_cons (q_str (by decide +kernel)) (q_cons (q_str (by decide +kernel)) (q_cons (q_str (by decide +kernel)) (q_cons (q_str (by decide +kernel)) (q_cons (q_str (by decide +kernel)) (q_cons (q_str (by decide +kernel)) q_nil))))))))) (q_callD tk D.d6 hr rfl (q_cons (q_var 0) (q_cons q_int q_nil)) rfl (al_cons (al_cons al_nil))))))
theorem ok__law_block {k : Nat} {C : Or} {f : Addr} {fd : FuncData} (T : Txt K mg fa ca) (D : Ds P w K mg base ⟨K, fa, ca⟩ k C) (F : Fun K "_law_block" "_law_block" s__law_block f fd) : FnOk P w K mg base (L2.CX P w) (k + 1) f fd ["box", "depth", "most", "body", "bodies"] (spOf ⟨K, fa, ca⟩ 5 (fnRun 10 (m__law_block C))) :=
  fn_ok (N := N__law_block) F sc__law_block rfl fun cdv A outer s H E LW hr tk po =>
    (q_scons (q_set 5 sc__law_block.nd (q_lst q_nil))
    (q_scons (q_for po rfl (q_iRange1 rfl T.n_range (q_callD tk D.d6 hr rfl (q_cons (q_var 0) (q_cons (q_add (q_var 2) q_int) q_nil)) rfl (al_cons (al_cons al_nil)))) (pg_name (i := 6) sc__law_block.nd rfl (by first | exact Or.inl rfl | exact Or.inr rfl)) g_nm (q_scons (q_set 7 sc__law_block.nd (q_callD tk D.d6 hr rfl (q_cons (q_var 0) (q_cons q_int q_nil)) rfl (al_cons (al_cons al_nil))))
    (q_scons (q_set 8 sc__law_block.nd (q_ix (hu_of hr) (q_tup (q_cons (q_str (by decide +kernel)) (q_cons (q_str (by decide +kernel)) (q_cons (q_str (by decide +kernel)) (q_cons (q_str (by decide +kernel)) (q_cons (q_str (by decide +kernel)) (q_cons (q_str (by decide +kernel)) q_nil))))))) (q_callD tk D.d6 hr rfl (q_cons (q_var 0) (q_cons q_int q_nil)) rfl (al_cons (al_cons al_nil)))))
    (q_sone (q_sif (q_tlt (q_var 7) q_int) (q_sone (q_expr (q_append (q_var 5) (q_tup (q_cons (q_str (by decide +kernel)) (q_cons (q_callD tk D.d9 hr rfl (q_cons (q_var 0) q_nil) rfl (al_cons al_nil)) q_nil)))))) (q_sone (q_sif (q_tlt (q_var 7) q_int) (q_sone (q_expr (q_append (q_var 5) (q_tup (q_cons (q_str (by decide +kernel)) q_nil))))) (q_sone (q_sif (L2.PW.pt (q_tand (q_tlt (q_var 7) q_int) (q_and1 (q_tlt (q_add (q_var 3) q_int) (q_var 4))))) (q_sone (q_expr (q_append (q_var 5) (q_tup (q_cons (q_str (by decide +kernel)) (q_cons (q_add (q_add (q_var 3) q_int) (q_callD tk D.d6 hr rfl (q_cons (q_var 0) (q_cons (q_sub (q_sub (q_var 4) (q_var 3)) q_int) q_nil)) rfl (al_cons (al_cons al_nil)))) (q_cons (q_var 8) q_nil))))))) (q_sone (q_sif (q_tlt (q_var 7) q_int) (q_sone (q_expr (q_append (q_var 5) (q_tup (q_cons (q_str (by decide +kernel)) (q_cons (q_var 8) q_nil)))))) (q_sone (q_sif (q_teq hr (q_var 7) q_int) (q_sone (q_expr (q_append (q_var 5) (q_ix (hu_of hr) (q_tup (q_cons (q_tup (q_cons (q_str (by decide +kernel)) (q_cons (q_var 8) q_nil))) (q_cons (q_tup (q_cons (q_str (by decide +kernel)) q_nil)) (q_cons (q_tup (q_cons (q_str (by decide +kernel)) q_nil)) (q_cons (q_tup (q_cons (q_str (by decide +kernel)) q_nil)) q_nil))))) (q_callD tk D.d6 hr rfl (q_cons (q_var 0) (q_cons q_int q_nil)) rfl (al_cons (al_cons al_nil))))))) (q_sone (q_sif (L2.PW.pt (q_tand (q_tlt (q_var 7) q_int) (q_and1 (q_tgt (q_var 1) q_int)))) (q_scons (q_set 9 sc__law_block.nd (q_callD tk D.d10 hr rfl (q_cons (q_var 0) (q_cons (q_sub (q_var 1) q_int) (q_cons q_int (q_cons (q_var 3) (q_cons (q_var 4) q_nil))))) rfl (al_cons (al_cons (al_cons (al_cons (al_cons al_nil)))))))
    (q_sone (q_expr (q_append (q_var 5) (q_tup (q_cons (q_str (by decide +kernel)) (q_cons (q_var 9) (q_cons (q_callD tk D.d10 hr rfl (q_cons (q_var 0) (q_cons (q_sub (q_var 1) q_int) (q_cons q_int (q_cons (q_var 3) (q_cons (q_var 4) q_nil))))) rfl (al_cons (al_cons (al_cons (al_cons (al_cons al_nil)))))) q_nil)))))))) (q_sone (q_sif (q_tgt (q_var 1) q_int) (q_sone (q_expr (q_append (q_var 5) (q_tup (q_cons (q_str (by decide +kernel)) (q_cons (q_callD tk D.d6 hr rfl (q_cons (q_var 0) (q_cons q_int q_nil)) rfl (al_cons (al_cons al_nil))) (q_cons (q_callD tk D.d10 hr rfl (q_cons (q_var 0) (q_cons (q_sub (q_var 1) q_int) (q_cons q_int (q_cons (q_var 3) (q_cons (q_var 4) q_nil))))) rfl (al_cons (al_cons (al_cons (al_cons (al_cons al_nil)))))) q_nil))))))) (q_sone (q_expr (q_append (q_var 5) (q_tup (q_cons (q_str (by decide +kernel)) (q_cons (q_callD tk D.d9 hr rfl (q_cons (q_var 0) q_nil) rfl (al_cons al_nil)) q_nil)))))))))))))))))))))))
    (q_sone (q_ret (q_tuple rfl T.n_tuple (q_var 5))))))
theorem ok__law_count {k : Nat} {C : Or} {f : Addr} {fd : FuncData} (T : Txt K mg fa ca) (D : Ds P w K mg base ⟨K, fa, ca⟩ k C) (F : Fun K "_law_count" "_law_count" s__law_count f fd) : FnOk P w K mg base (L2.CX P w) (k + 1) f fd ["block"] (spOf ⟨K, fa, ca⟩ 1 (fnRun 4 (m__law_count C))) :=
  fn_ok (N := N__law_count) F sc__law_count rfl fun cdv A outer s H E LW hr tk po =>
    (q_scons (q_set 1 sc__law_count.nd q_int)
    (q_scons (q_for po rfl (q_iSeq (q_var 0)) (pg_name (i := 2) sc__law_count.nd rfl (by first | exact Or.inl rfl | exact Or.inr rfl)) g_nm (q_scons (q_set 1 sc__law_count.nd (q_add (q_var 1) q_int))
    (q_sone (q_for po rfl (q_iSeq (q_slice (q_var 2) (q_oSome q_int) q_oNone)) (pg_name (i := 3) sc__law_count.nd rfl (by first | exact Or.inl rfl | exact Or.inr rfl)) g_nm (q_sone (q_sif (q_tru (q_isTy .tuple rfl T.n_isinstance (q_var 3) rfl T.n_tuple (by decide +kernel))) (q_sone (q_set 1 sc__law_count.nd (q_add (q_var 1) (q_callD tk D.d11 hr rfl (q_cons (q_var 3) q_nil) rfl (al_cons al_nil))))) q_snil))))))
    (q_sone (q_ret (q_var 1)))))
theorem ok__law_weight {k : Nat} {C : Or} {f : Addr} {fd : FuncData} (T : Txt K mg fa ca) (D : Ds P w K mg base ⟨K, fa, ca⟩ k C) (F : Fun K "_law_weight" "_law_weight" s__law_weight f fd) : FnOk P w K mg base (L2.CX P w) (k + 1) f fd ["block", "sizes"] (spOf ⟨K, fa, ca⟩ 2 (fnRun 4 (m__law_weight C))) :=
  fn_ok (N := N__law_weight) F sc__law_weight rfl fun cdv A outer s H E LW hr tk po =>
    (q_scons (q_set 2 sc__law_weight.nd q_int)
    (q_scons (q_for po rfl (q_iSeq (q_var 0)) (pg_name (i := 3) sc__law_weight.nd rfl (by first | exact Or.inl rfl | exact Or.inr rfl)) g_nm (q_sone (q_sif (q_teq hr (q_ix (hu_of hr) (q_var 3) q_int) (q_str (by decide +kernel))) (q_sone (q_set 2 sc__law_weight.nd (q_add (q_add (q_var 2) q_int) (q_get2 (hu_of hr) (q_var 1) (q_ix (hu_of hr) (q_var 3) q_int) q_int)))) (q_sone (q_sif (q_teq hr (q_ix (hu_of hr) (q_var 3) q_int) (q_str (by decide +kernel))) (q_sone (q_set 2 sc__law_weight.nd (q_add (q_add (q_add (q_var 2) q_int) (q_callD tk D.d12 hr rfl (q_cons (q_ix (hu_of hr) (q_var 3) q_int) (q_cons (q_var 1) q_nil)) rfl (al_cons (al_cons al_nil)))) (q_callD tk D.d12 hr rfl (q_cons (q_ix (hu_of hr) (q_var 3) q_int) (q_cons (q_var 1) q_nil)) rfl (al_cons (al_cons al_nil)))))) (q_sone (q_sif (q_teq hr (q_ix (hu_of hr) (q_var 3) q_int) (q_str (by decide +kernel))) (q_sone (q_set 2 sc__law_weight.nd (q_add (q_add (q_var 2) q_int) (q_mul (q_ix (hu_of hr) (q_var 3) q_int) (q_add q_int (q_callD tk D.d12 hr rfl (q_cons (q_ix (hu_of hr) (q_var 3) q_int) (q_cons (q_var 1) q_nil)) rfl (al_cons (al_cons al_nil)))))))) (q_sone (q_set 2 sc__law_weight.nd (q_add (q_var 2) q_int))))))))))
    (q_sone (q_ret (q_var 2)))))
theorem ok__law_program {k : Nat} {C : Or} {f : Addr} {fd : FuncData} (T : Txt K mg fa ca) (D : Ds P w K mg base ⟨K, fa, ca⟩ k C) (F : Fun K "_law_program" "_law_program" s__law_program f fd) : FnOk P w K mg base (L2.CX P w) (k + 1) f fd ["script", "first", "most", "length", "room"] (spOf ⟨K, fa, ca⟩ 5 (fnRun 9 (m__law_program C))) :=
  fn_ok (N := N__law_program) F sc__law_program rfl fun cdv A outer s H E LW hr tk po =>
    (q_scons (q_set 5 sc__law_program.nd (q_add q_int (q_callD tk D.d6 hr rfl (q_cons (q_callD tk D.d5 hr rfl (q_cons (q_var 0) (q_cons (q_var 1) q_nil)) rfl (al_cons (al_cons al_nil))) (q_cons (q_var 2) q_nil)) rfl (al_cons (al_cons al_nil)))))
    (q_scons (q_set 6 sc__law_program.nd (q_lst q_nil))
    (q_scons (q_for po rfl (q_iRange1 rfl T.n_range (q_var 5)) (pg_name (i := 7) sc__law_program.nd rfl (by first | exact Or.inl rfl | exact Or.inr rfl)) g_nm (q_sone (q_expr (q_append (q_var 6) (q_callD tk D.d10 hr rfl (q_cons (q_callD tk D.d5 hr rfl (q_cons (q_var 0) (q_cons (q_add (q_add (q_var 1) q_int) (q_var 7)) q_nil)) rfl (al_cons (al_cons al_nil))) (q_cons q_int (q_cons (q_var 3) (q_cons (q_var 7) (q_cons (q_var 5) q_nil))))) rfl (al_cons (al_cons (al_cons (al_cons (al_cons al_nil))))))))))
    (q_scons (q_set 8 sc__law_program.nd q_dct)
    (q_scons (q_for po rfl (q_iRev1 rfl T.n_reversed rfl T.n_range (q_var 5)) (pg_name (i := 7) sc__law_program.nd rfl (by first | exact Or.inl rfl | exact Or.inr rfl)) g_nm (q_scons (q_sif (L2.PW.pt (q_tor (q_tgt (q_add (q_callD tk D.d12 hr rfl (q_cons (q_ix (hu_of hr) (q_var 6) (q_var 7)) (q_cons (q_var 8) q_nil)) rfl (al_cons (al_cons al_nil))) q_int) (q_var 4)) (q_or1 (q_tgt (q_callD tk D.d11 hr rfl (q_cons (q_ix (hu_of hr) (q_var 6) (q_var 7)) q_nil) rfl (al_cons al_nil)) q_int)))) (q_sone (q_put (hu_of hr) (q_tup (q_cons (q_tup (q_cons (q_str (by decide +kernel)) (q_cons (q_str (by decide +kernel)) q_nil))) (q_cons (q_tup (q_cons (q_str (by decide +kernel)) q_nil)) q_nil))) (q_var 6) (q_var 7))) q_snil)
    (q_sone (q_put (hu_of hr) (q_add q_int (q_callD tk D.d12 hr rfl (q_cons (q_ix (hu_of hr) (q_var 6) (q_var 7)) (q_cons (q_var 8) q_nil)) rfl (al_cons (al_cons al_nil)))) (q_var 8) (q_var 7)))))
    (q_sone (q_ret (q_tuple rfl T.n_tuple (q_var 6)))))))))
theorem ok__law_measure {k : Nat} {C : Or} {f : Addr} {fd : FuncData} (T : Txt K mg fa ca) (D : Ds P w K mg base ⟨K, fa, ca⟩ k C) (F : Fun K "_law_measure" "_law_measure" s__law_measure f fd) : FnOk P w K mg base (L2.CX P w) (k + 1) f fd ["block", "sizes"] (spOf ⟨K, fa, ca⟩ 2 (fnRun 4 (m__law_measure C))) :=
  fn_ok (N := N__law_measure) F sc__law_measure rfl fun cdv A outer s H E LW hr tk po =>
    (q_scons (q_set 2 sc__law_measure.nd q_int)
    (q_scons (q_for po rfl (q_iSeq (q_var 0)) (pg_name (i := 3) sc__law_measure.nd rfl (by first | exact Or.inl rfl | exact Or.inr rfl)) g_nm (q_sone (q_sif (q_teq hr (q_ix (hu_of hr) (q_var 3) q_int) (q_str (by decide +kernel))) (q_sone (q_set 2 sc__law_measure.nd (q_add (q_add (q_var 2) q_int) (q_get2 (hu_of hr) (q_var 1) (q_ix (hu_of hr) (q_var 3) q_int) q_int)))) (q_sone (q_sif (q_teq hr (q_ix (hu_of hr) (q_var 3) q_int) (q_str (by decide +kernel))) (q_sone (q_set 2 sc__law_measure.nd (q_add (q_add (q_add (q_var 2) q_int) (q_callD tk D.d14 hr rfl (q_cons (q_ix (hu_of hr) (q_var 3) q_int) (q_cons (q_var 1) q_nil)) rfl (al_cons (al_cons al_nil)))) (q_callD tk D.d14 hr rfl (q_cons (q_ix (hu_of hr) (q_var 3) q_int) (q_cons (q_var 1) q_nil)) rfl (al_cons (al_cons al_nil)))))) (q_sone (q_sif (q_teq hr (q_ix (hu_of hr) (q_var 3) q_int) (q_str (by decide +kernel))) (q_sone (q_set 2 sc__law_measure.nd (q_add (q_add (q_var 2) q_int) (q_mul (q_ix (hu_of hr) (q_var 3) q_int) (q_add q_int (q_callD tk D.d14 hr rfl (q_cons (q_ix (hu_of hr) (q_var 3) q_int) (q_cons (q_var 1) q_nil)) rfl (al_cons (al_cons al_nil)))))))) (q_sone (q_set 2 sc__law_measure.nd (q_add (q_var 2) q_int))))))))))
    (q_sone (q_ret (q_var 2)))))
theorem ok__law_sizes {k : Nat} {C : Or} {f : Addr} {fd : FuncData} (T : Txt K mg fa ca) (D : Ds P w K mg base ⟨K, fa, ca⟩ k C) (F : Fun K "_law_sizes" "_law_sizes" s__law_sizes f fd) : FnOk P w K mg base (L2.CX P w) (k + 1) f fd ["bodies"] (spOf ⟨K, fa, ca⟩ 1 (fnRun 3 (m__law_sizes C))) :=
  fn_ok (N := N__law_sizes) F sc__law_sizes rfl fun cdv A outer s H E LW hr tk po =>
    (q_scons (q_set 1 sc__law_sizes.nd q_dct)
    (q_scons (q_for po rfl (q_iRev1 rfl T.n_reversed rfl T.n_range (q_len rfl T.n_len (q_var 0))) (pg_name (i := 2) sc__law_sizes.nd rfl (by first | exact Or.inl rfl | exact Or.inr rfl)) g_nm (q_sone (q_put (hu_of hr) (q_add q_int (q_callD tk D.d14 hr rfl (q_cons (q_ix (hu_of hr) (q_var 0) (q_var 2)) (q_cons (q_var 1) q_nil)) rfl (al_cons (al_cons al_nil)))) (q_var 1) (q_var 2))))
    (q_sone (q_ret (q_lc (own := [("body", 2)]) rfl sc__law_sizes.nd (q_iRange1 rfl T.n_range (q_len rfl T.n_len (q_var 0))) (blkOk_by (N := N__law_sizes) (sc := defScope s__law_sizes) (own := [("body", 2)]) (by decide +kernel)) g_nm (by decide) (fun _ _ _ _ _ => (pg_name (i := 2) sc__law_sizes.nd rfl (by first | exact Or.inl rfl | exact Or.inr rfl))) (fun _ _ _ _ _ => q_ptsN) (fun _ _ _ _ _ => (q_ix (hu_of hr) (q_var 1) (q_var 2))))))))
theorem ok__law_chain {k : Nat} {C : Or} {f : Addr} {fd : FuncData} (T : Txt K mg fa ca) (D : Ds P w K mg base ⟨K, fa, ca⟩ k C) (F : Fun K "_law_chain" "_law_chain" s__law_chain f fd) : FnOk P w K mg base (L2.CX P w) (k + 1) f fd ["box"] (spOf ⟨K, fa, ca⟩ 1 (fnRun 6 (m__law_chain C))) :=
  fn_ok (N := N__law_chain) F sc__law_chain rfl fun cdv A outer s H E LW hr tk po =>
    (q_scons (q_set 1 sc__law_chain.nd (q_tup q_nil))
    (q_scons (q_set 2 sc__law_chain.nd q_dct)
    (q_scons (q_for po rfl (q_iRev1 rfl T.n_reversed rfl T.n_range q_int) (pg_name (i := 3) sc__law_chain.nd rfl (by first | exact Or.inl rfl | exact Or.inr rfl)) g_nm (q_scons (q_set 4 sc__law_chain.nd (q_tup q_nil))
    (q_scons (q_sif (q_tlt (q_var 3) q_int) (q_sone (q_set 4 sc__law_chain.nd (q_tuple rfl T.n_tuple (q_lc (own := [("k", 5)]) rfl sc__law_chain.nd (q_iRange1 rfl T.n_range (q_callD tk D.d6 hr rfl (q_cons (q_var 0) (q_cons q_int q_nil)) rfl (al_cons (al_cons al_nil)))) (blkOk_by (N := N__law_chain) (sc := defScope s__law_chain) (own := [("k", 5)]) (by decide +kernel)) g_nm (by decide) (fun _ _ _ _ _ => (pg_name (i := 5) sc__law_chain.nd rfl (by first | exact Or.inl rfl | exact Or.inr rfl))) (fun _ _ _ _ _ => q_ptsN) (fun _ _ _ _ _ => (q_tup (q_cons (q_str (by decide +kernel)) (q_cons (q_add (q_add (q_var 3) q_int) (q_callD tkno D.d6 hr rfl (q_cons (q_var 0) (q_cons (q_sub q_int (q_var 3)) q_nil)) rfl (al_cons (al_cons al_nil)))) (q_cons (q_str (by decide +kernel)) q_nil))))))))) q_snil)
    (q_scons (q_sif (q_tgt (q_add q_int (q_callD tk D.d12 hr rfl (q_cons (q_var 4) (q_cons (q_var 2) q_nil)) rfl (al_cons (al_cons al_nil)))) q_int) (q_sone (q_set 4 sc__law_chain.nd (q_tup q_nil))) q_snil)
    (q_scons (q_put (hu_of hr) (q_add q_int (q_callD tk D.d12 hr rfl (q_cons (q_var 4) (q_cons (q_var 2) q_nil)) rfl (al_cons (al_cons al_nil)))) (q_var 2) (q_var 3))
    (q_sone (q_set 1 sc__law_chain.nd (q_add (q_tup (q_cons (q_var 4) q_nil)) (q_var 1)))))))))
    (q_sone (q_ret (q_var 1))))))
theorem ok_law {k : Nat} {C : Or} {f : Addr} {fd : FuncData} (T : Txt K mg fa ca) (D : Ds P w K mg base ⟨K, fa, ca⟩ k C) (F : Fun K "law" "law" s_law f fd) : FnOk P w K mg base (L2.CX P w) (k + 1) f fd ["script"] (spOf ⟨K, fa, ca⟩ 1 (fnRun 2 (m_law C))) :=
  fn_ok (N := N_law) F sc_law rfl fun cdv A outer s H E LW hr tk po =>
    (q_scons (q_for po rfl (q_iSeq (q_tup (q_cons (q_callD tk D.d13 hr rfl (q_cons (q_var 0) (q_cons q_int (q_cons q_int (q_cons q_int (q_cons q_int q_nil))))) rfl (al_cons (al_cons (al_cons (al_cons (al_cons al_nil)))))) (q_cons (q_callD tk D.d16 hr rfl (q_cons (q_callD tk D.d5 hr rfl (q_cons (q_var 0) (q_cons q_int q_nil)) rfl (al_cons (al_cons al_nil))) q_nil) rfl (al_cons al_nil)) q_nil)))) (pg_name (i := 1) sc_law.nd rfl (by first | exact Or.inl rfl | exact Or.inr rfl)) g_nm (q_sone (q_sif (q_tnot (q_tru (q_callD tk D.d8 hr rfl (q_cons (q_callD tk D.d0 hr rfl (q_cons (q_var 1) q_nil) rfl (al_cons al_nil)) (q_cons (q_tuple rfl T.n_tuple (q_callD tk D.d15 hr rfl (q_cons (q_var 1) q_nil) rfl (al_cons al_nil))) q_nil)) rfl (al_cons (al_cons al_nil))))) (q_sone (q_ret q_bl)) q_snil)))
    (q_sone (q_ret q_bl)))
structure Fs (K : PySem.W.Frag) (mg : Str → Option Value) (fa : Nat → Addr) (fd : Nat → FuncData) : Prop where
  m0 : mg "body_sizes" = some (.ref (fa 0))
  f0 : Fun K "body_sizes" "body_sizes" s_body_sizes (fa 0) (fd 0)
  m1 : mg "_block_size" = some (.ref (fa 1))
  f1 : Fun K "_block_size" "_block_size" s__block_size (fa 1) (fd 1)
  m2 : mg "_statement_size" = some (.ref (fa 2))
  f2 : Fun K "_statement_size" "_statement_size" s__statement_size (fa 2) (fd 2)
  m3 : mg "_law_cell" = some (.ref (fa 3))
  f3 : Fun K "_law_cell" "_law_cell" s__law_cell (fa 3) (fd 3)
  m4 : mg "_law_digits" = some (.ref (fa 4))
  f4 : Fun K "_law_digits" "_law_digits" s__law_digits (fa 4) (fd 4)
  m5 : mg "_law_box" = some (.ref (fa 5))
  f5 : Fun K "_law_box" "_law_box" s__law_box (fa 5) (fd 5)
  m6 : mg "_law_draw" = some (.ref (fa 6))
  f6 : Fun K "_law_draw" "_law_draw" s__law_draw (fa 6) (fd 6)
  m7 : mg "_law_is_integer" = some (.ref (fa 7))
  f7 : Fun K "_law_is_integer" "_law_is_integer" s__law_is_integer (fa 7) (fd 7)
  m8 : mg "_law_same" = some (.ref (fa 8))
  f8 : Fun K "_law_same" "_law_same" s__law_same (fa 8) (fd 8)
  m9 : mg "_law_word" = some (.ref (fa 9))
  f9 : Fun K "_law_word" "_law_word" s__law_word (fa 9) (fd 9)
  m10 : mg "_law_block" = some (.ref (fa 10))
  f10 : Fun K "_law_block" "_law_block" s__law_block (fa 10) (fd 10)
  m11 : mg "_law_count" = some (.ref (fa 11))
  f11 : Fun K "_law_count" "_law_count" s__law_count (fa 11) (fd 11)
  m12 : mg "_law_weight" = some (.ref (fa 12))
  f12 : Fun K "_law_weight" "_law_weight" s__law_weight (fa 12) (fd 12)
  m13 : mg "_law_program" = some (.ref (fa 13))
  f13 : Fun K "_law_program" "_law_program" s__law_program (fa 13) (fd 13)
  m14 : mg "_law_measure" = some (.ref (fa 14))
  f14 : Fun K "_law_measure" "_law_measure" s__law_measure (fa 14) (fd 14)
  m15 : mg "_law_sizes" = some (.ref (fa 15))
  f15 : Fun K "_law_sizes" "_law_sizes" s__law_sizes (fa 15) (fd 15)
  m16 : mg "_law_chain" = some (.ref (fa 16))
  f16 : Fun K "_law_chain" "_law_chain" s__law_chain (fa 16) (fd 16)
  m17 : mg "law" = some (.ref (fa 17))
  f17 : Fun K "law" "law" s_law (fa 17) (fd 17)
theorem b_body_sizes {f : Addr} {fd : FuncData} (F : Fun K "body_sizes" "body_sizes" s_body_sizes f fd) : Binds K fd ["program"] [] := F.binds (ps := ["program"]) fun _ _ _ _ _ _ us hl => match us, hl with | [_], _ => rfl
theorem b__block_size {f : Addr} {fd : FuncData} (F : Fun K "_block_size" "_block_size" s__block_size f fd) : Binds K fd ["block", "sizes"] [] := F.binds (ps := ["block", "sizes"]) fun _ _ _ _ _ _ us hl => match us, hl with | [_, _], _ => rfl
theorem b__statement_size {f : Addr} {fd : FuncData} (F : Fun K "_statement_size" "_statement_size" s__statement_size f fd) : Binds K fd ["statement", "sizes"] [] := F.binds (ps := ["statement", "sizes"]) fun _ _ _ _ _ _ us hl => match us, hl with | [_, _], _ => rfl
theorem b__law_cell {f : Addr} {fd : FuncData} (F : Fun K "_law_cell" "_law_cell" s__law_cell f fd) : Binds K fd ["script", "k"] [] := F.binds (ps := ["script", "k"]) fun _ _ _ _ _ _ us hl => match us, hl with | [_, _], _ => rfl
theorem b__law_digits {f : Addr} {fd : FuncData} (F : Fun K "_law_digits" "_law_digits" s__law_digits f fd) : Binds K fd ["cell", "at"] [] := F.binds (ps := ["cell", "at"]) fun _ _ _ _ _ _ us hl => match us, hl with | [_, _], _ => rfl
theorem b__law_box {f : Addr} {fd : FuncData} (F : Fun K "_law_box" "_law_box" s__law_box f fd) : Binds K fd ["script", "at"] [] := F.binds (ps := ["script", "at"]) fun _ _ _ _ _ _ us hl => match us, hl with | [_, _], _ => rfl
theorem b__law_draw {f : Addr} {fd : FuncData} (F : Fun K "_law_draw" "_law_draw" s__law_draw f fd) : Binds K fd ["box", "many"] [] := F.binds (ps := ["box", "many"]) fun _ _ _ _ _ _ us hl => match us, hl with | [_, _], _ => rfl
theorem b__law_is_integer {f : Addr} {fd : FuncData} (F : Fun K "_law_is_integer" "_law_is_integer" s__law_is_integer f fd) : Binds K fd ["actual"] [] := F.binds (ps := ["actual"]) fun _ _ _ _ _ _ us hl => match us, hl with | [_], _ => rfl
theorem b__law_same {f : Addr} {fd : FuncData} (F : Fun K "_law_same" "_law_same" s__law_same f fd) : Binds K fd ["actual", "due"] [] := F.binds (ps := ["actual", "due"]) fun _ _ _ _ _ _ us hl => match us, hl with | [_, _], _ => rfl
theorem b__law_word {f : Addr} {fd : FuncData} (F : Fun K "_law_word" "_law_word" s__law_word f fd) : Binds K fd ["box"] [] := F.binds (ps := ["box"]) fun _ _ _ _ _ _ us hl => match us, hl with | [_], _ => rfl
theorem b__law_block {f : Addr} {fd : FuncData} (F : Fun K "_law_block" "_law_block" s__law_block f fd) : Binds K fd ["box", "depth", "most", "body", "bodies"] [] := F.binds (ps := ["box", "depth", "most", "body", "bodies"]) fun _ _ _ _ _ _ us hl => match us, hl with | [_, _, _, _, _], _ => rfl
theorem b__law_count {f : Addr} {fd : FuncData} (F : Fun K "_law_count" "_law_count" s__law_count f fd) : Binds K fd ["block"] [] := F.binds (ps := ["block"]) fun _ _ _ _ _ _ us hl => match us, hl with | [_], _ => rfl
theorem b__law_weight {f : Addr} {fd : FuncData} (F : Fun K "_law_weight" "_law_weight" s__law_weight f fd) : Binds K fd ["block", "sizes"] [] := F.binds (ps := ["block", "sizes"]) fun _ _ _ _ _ _ us hl => match us, hl with | [_, _], _ => rfl
theorem b__law_program {f : Addr} {fd : FuncData} (F : Fun K "_law_program" "_law_program" s__law_program f fd) : Binds K fd ["script", "first", "most", "length", "room"] [] := F.binds (ps := ["script", "first", "most", "length", "room"]) fun _ _ _ _ _ _ us hl => match us, hl with | [_, _, _, _, _], _ => rfl
theorem b__law_measure {f : Addr} {fd : FuncData} (F : Fun K "_law_measure" "_law_measure" s__law_measure f fd) : Binds K fd ["block", "sizes"] [] := F.binds (ps := ["block", "sizes"]) fun _ _ _ _ _ _ us hl => match us, hl with | [_, _], _ => rfl
theorem b__law_sizes {f : Addr} {fd : FuncData} (F : Fun K "_law_sizes" "_law_sizes" s__law_sizes f fd) : Binds K fd ["bodies"] [] := F.binds (ps := ["bodies"]) fun _ _ _ _ _ _ us hl => match us, hl with | [_], _ => rfl
theorem b__law_chain {f : Addr} {fd : FuncData} (F : Fun K "_law_chain" "_law_chain" s__law_chain f fd) : Binds K fd ["box"] [] := F.binds (ps := ["box"]) fun _ _ _ _ _ _ us hl => match us, hl with | [_], _ => rfl
theorem b_law {f : Addr} {fd : FuncData} (F : Fun K "law" "law" s_law f fd) : Binds K fd ["script"] [] := F.binds (ps := ["script"]) fun _ _ _ _ _ _ us hl => match us, hl with | [_], _ => rfl
theorem all_ok {fd : Nat → FuncData} (T : Txt K mg fa ca) (F : Fs K mg fa fd) : ∀ k, Ds P w K mg base ⟨K, fa, ca⟩ k (run k)
  | 0 => ⟨Df.zero (g := ⟨K, fa, ca⟩) (i := 0) F.m0 F.f0 (b_body_sizes F.f0) rfl (fun _ _ => rfl), Df.zero (g := ⟨K, fa, ca⟩) (i := 1) F.m1 F.f1 (b__block_size F.f1) rfl (fun _ _ => rfl), Df.zero (g := ⟨K, fa, ca⟩) (i := 2) F.m2 F.f2 (b__statement_size F.f2) rfl (fun _ _ => rfl), Df.zero (g := ⟨K, fa, ca⟩) (i := 3) F.m3 F.f3 (b__law_cell F.f3) rfl (fun _ _ => rfl), Df.zero (g := ⟨K, fa, ca⟩) (i := 4) F.m4 F.f4 (b__law_digits F.f4) rfl (fun _ _ => rfl), Df.zero (g := ⟨K, fa, ca⟩) (i := 5) F.m5 F.f5 (b__law_box F.f5) rfl (fun _ _ => rfl), Df.zero (g := ⟨K, fa, ca⟩) (i := 6) F.m6 F.f6 (b__law_draw F.f6) rfl (fun _ _ => rfl), Df.zero (g := ⟨K, fa, ca⟩) (i := 7) F.m7 F.f7 (b__law_is_integer F.f7) rfl (fun _ _ => rfl), Df.zero (g := ⟨K, fa, ca⟩) (i := 8) F.m8 F.f8 (b__law_same F.f8) rfl (fun _ _ => rfl), Df.zero (g := ⟨K, fa, ca⟩) (i := 9) F.m9 F.f9 (b__law_word F.f9) rfl (fun _ _ => rfl), Df.zero (g := ⟨K, fa, ca⟩) (i := 10) F.m10 F.f10 (b__law_block F.f10) rfl (fun _ _ => rfl), Df.zero (g := ⟨K, fa, ca⟩) (i := 11) F.m11 F.f11 (b__law_count F.f11) rfl (fun _ _ => rfl), Df.zero (g := ⟨K, fa, ca⟩) (i := 12) F.m12 F.f12 (b__law_weight F.f12) rfl (fun _ _ => rfl), Df.zero (g := ⟨K, fa, ca⟩) (i := 13) F.m13 F.f13 (b__law_program F.f13) rfl (fun _ _ => rfl), Df.zero (g := ⟨K, fa, ca⟩) (i := 14) F.m14 F.f14 (b__law_measure F.f14) rfl (fun _ _ => rfl), Df.zero (g := ⟨K, fa, ca⟩) (i := 15) F.m15 F.f15 (b__law_sizes F.f15) rfl (fun _ _ => rfl), Df.zero (g := ⟨K, fa, ca⟩) (i := 16) F.m16 F.f16 (b__law_chain F.f16) rfl (fun _ _ => rfl), Df.zero (g := ⟨K, fa, ca⟩) (i := 17) F.m17 F.f17 (b_law F.f17) rfl (fun _ _ => rfl)⟩
  | k + 1 => by
    have D := all_ok (fd := fd) T F k
    exact ⟨⟨_, _, _, F.m0, rfl, ok_body_sizes T D F.f0, rfl, F.f0.kp, b_body_sizes F.f0⟩, ⟨_, _, _, F.m1, rfl, ok__block_size T D F.f1, rfl, F.f1.kp, b__block_size F.f1⟩, ⟨_, _, _, F.m2, rfl, ok__statement_size T D F.f2, rfl, F.f2.kp, b__statement_size F.f2⟩, ⟨_, _, _, F.m3, rfl, ok__law_cell T D F.f3, rfl, F.f3.kp, b__law_cell F.f3⟩, ⟨_, _, _, F.m4, rfl, ok__law_digits T D F.f4, rfl, F.f4.kp, b__law_digits F.f4⟩, ⟨_, _, _, F.m5, rfl, ok__law_box T D F.f5, rfl, F.f5.kp, b__law_box F.f5⟩, ⟨_, _, _, F.m6, rfl, ok__law_draw T D F.f6, rfl, F.f6.kp, b__law_draw F.f6⟩, ⟨_, _, _, F.m7, rfl, ok__law_is_integer T D F.f7, rfl, F.f7.kp, b__law_is_integer F.f7⟩, ⟨_, _, _, F.m8, rfl, ok__law_same T D F.f8, rfl, F.f8.kp, b__law_same F.f8⟩, ⟨_, _, _, F.m9, rfl, ok__law_word T D F.f9, rfl, F.f9.kp, b__law_word F.f9⟩, ⟨_, _, _, F.m10, rfl, ok__law_block T D F.f10, rfl, F.f10.kp, b__law_block F.f10⟩, ⟨_, _, _, F.m11, rfl, ok__law_count T D F.f11, rfl, F.f11.kp, b__law_count F.f11⟩, ⟨_, _, _, F.m12, rfl, ok__law_weight T D F.f12, rfl, F.f12.kp, b__law_weight F.f12⟩, ⟨_, _, _, F.m13, rfl, ok__law_program T D F.f13, rfl, F.f13.kp, b__law_program F.f13⟩, ⟨_, _, _, F.m14, rfl, ok__law_measure T D F.f14, rfl, F.f14.kp, b__law_measure F.f14⟩, ⟨_, _, _, F.m15, rfl, ok__law_sizes T D F.f15, rfl, F.f15.kp, b__law_sizes F.f15⟩, ⟨_, _, _, F.m16, rfl, ok__law_chain T D F.f16, rfl, F.f16.kp, b__law_chain F.f16⟩, ⟨_, _, _, F.m17, rfl, ok_law T D F.f17, rfl, F.f17.kp, b_law F.f17⟩⟩
end
theorem all_mk {dep : Nat} (hlaw : Law run (dep + 1) 17) {l : PySem.W.OpenLaw} {w : World} {K : PySem.W.Frag} {h : Heap} {mg : Str → Option Value} {fl f0 f1 f2 f3 f4 f5 f6 f7 f8 f9 f10 f11 f12 f13 f14 f15 f16 f17 : Addr} (X : K.In h) (G : h.Ns mainGlobals mg) (hfa : mg "law" = some (.ref fl))
    {od0 an0 od1 an1 od2 an2 od3 an3 od4 an4 od5 an5 od6 an6 od7 an7 od8 an8 od9 an9 od10 an10 od11 an11 od12 an12 od13 an13 od14 an14 od15 an15 od16 an16 od17 an17 : Option Addr} {sl0 sl1 sl2 sl3 sl4 sl5 sl6 sl7 sl8 sl9 sl10 sl11 sl12 sl13 sl14 sl15 sl16 sl17 : Array (Option Value)} {oc0 kV0 dc0 pm0 cd0 ct0 oc1 kV1 dc1 pm1 cd1 ct1 oc2 kV2 dc2 pm2 cd2 ct2 oc3 kV3 dc3 pm3 cd3 ct3 oc4 kV4 dc4 pm4 cd4 ct4 oc5 kV5 dc5 pm5 cd5 ct5 oc6 kV6 dc6 pm6 cd6 ct6 oc7 kV7 dc7 pm7 cd7 ct7 oc8 kV8 dc8 pm8 cd8 ct8 oc9 kV9 dc9 pm9 cd9 ct9 oc10 kV10 dc10 pm10 cd10 ct10 oc11 kV11 dc11 pm11 cd11 ct11 oc12 kV12 dc12 pm12 cd12 ct12 oc13 kV13 dc13 pm13 cd13 ct13 oc14 kV14 dc14 pm14 cd14 ct14 oc15 kV15 dc15 pm15 cd15 ct15 oc16 kV16 dc16 pm16 cd16 ct16 oc17 kV17 dc17 pm17 cd17 ct17 : Value}
    (a0 : PySem.W.nsIn K mainGlobals "body_sizes" = some (some (.ref f0))) (l0 : K.lookup f0 = some ⟨oc0, od0, .func (PySem.W.fnOf "body_sizes" "body_sizes" (defArgs s_body_sizes) (defBody s_body_sizes) (defScope s_body_sizes) .none kV0 dc0 pm0 an0 cd0 ct0), sl0⟩) (c0 : PySem.W.codeIn K cd0 "body_sizes" = true) (k0 : PySem.W.keepIn K (.ref f0) = true)
    (a1 : PySem.W.nsIn K mainGlobals "_block_size" = some (some (.ref f1))) (l1 : K.lookup f1 = some ⟨oc1, od1, .func (PySem.W.fnOf "_block_size" "_block_size" (defArgs s__block_size) (defBody s__block_size) (defScope s__block_size) .none kV1 dc1 pm1 an1 cd1 ct1), sl1⟩) (c1 : PySem.W.codeIn K cd1 "_block_size" = true) (k1 : PySem.W.keepIn K (.ref f1) = true)
    (a2 : PySem.W.nsIn K mainGlobals "_statement_size" = some (some (.ref f2))) (l2 : K.lookup f2 = some ⟨oc2, od2, .func (PySem.W.fnOf "_statement_size" "_statement_size" (defArgs s__statement_size) (defBody s__statement_size) (defScope s__statement_size) .none kV2 dc2 pm2 an2 cd2 ct2), sl2⟩) (c2 : PySem.W.codeIn K cd2 "_statement_size" = true) (k2 : PySem.W.keepIn K (.ref f2) = true)
    (a3 : PySem.W.nsIn K mainGlobals "_law_cell" = some (some (.ref f3))) (l3 : K.lookup f3 = some ⟨oc3, od3, .func (PySem.W.fnOf "_law_cell" "_law_cell" (defArgs s__law_cell) (defBody s__law_cell) (defScope s__law_cell) .none kV3 dc3 pm3 an3 cd3 ct3), sl3⟩) (c3 : PySem.W.codeIn K cd3 "_law_cell" = true) (k3 : PySem.W.keepIn K (.ref f3) = true)
    (a4 : PySem.W.nsIn K mainGlobals "_law_digits" = some (some (.ref f4))) (l4 : K.lookup f4 = some ⟨oc4, od4, .func (PySem.W.fnOf "_law_digits" "_law_digits" (defArgs s__law_digits) (defBody s__law_digits) (defScope s__law_digits) .none kV4 dc4 pm4 an4 cd4 ct4), sl4⟩) (c4 : PySem.W.codeIn K cd4 "_law_digits" = true) (k4 : PySem.W.keepIn K (.ref f4) = true)
    (a5 : PySem.W.nsIn K mainGlobals "_law_box" = some (some (.ref f5))) (l5 : K.lookup f5 = some ⟨oc5, od5, .func (PySem.W.fnOf "_law_box" "_law_box" (defArgs s__law_box) (defBody s__law_box) (defScope s__law_box) .none kV5 dc5 pm5 an5 cd5 ct5), sl5⟩) (c5 : PySem.W.codeIn K cd5 "_law_box" = true) (k5 : PySem.W.keepIn K (.ref f5) = true)
    (a6 : PySem.W.nsIn K mainGlobals "_law_draw" = some (some (.ref f6))) (l6 : K.lookup f6 = some ⟨oc6, od6, .func (PySem.W.fnOf "_law_draw" "_law_draw" (defArgs s__law_draw) (defBody s__law_draw) (defScope s__law_draw) .none kV6 dc6 pm6 an6 cd6 ct6), sl6⟩) (c6 : PySem.W.codeIn K cd6 "_law_draw" = true) (k6 : PySem.W.keepIn K (.ref f6) = true)
    (a7 : PySem.W.nsIn K mainGlobals "_law_is_integer" = some (some (.ref f7))) (l7 : K.lookup f7 = some ⟨oc7, od7, .func (PySem.W.fnOf "_law_is_integer" "_law_is_integer" (defArgs s__law_is_integer) (defBody s__law_is_integer) (defScope s__law_is_integer) .none kV7 dc7 pm7 an7 cd7 ct7), sl7⟩) (c7 : PySem.W.codeIn K cd7 "_law_is_integer" = true) (k7 : PySem.W.keepIn K (.ref f7) = true)
    (a8 : PySem.W.nsIn K mainGlobals "_law_same" = some (some (.ref f8))) (l8 : K.lookup f8 = some ⟨oc8, od8, .func (PySem.W.fnOf "_law_same" "_law_same" (defArgs s__law_same) (defBody s__law_same) (defScope s__law_same) .none kV8 dc8 pm8 an8 cd8 ct8), sl8⟩) (c8 : PySem.W.codeIn K cd8 "_law_same" = true) (k8 : PySem.W.keepIn K (.ref f8) = true)
    (a9 : PySem.W.nsIn K mainGlobals "_law_word" = some (some (.ref f9))) (l9 : K.lookup f9 = some ⟨oc9, od9, .func (PySem.W.fnOf "_law_word" "_law_word" (defArgs s__law_word) (defBody s__law_word) (defScope s__law_word) .none kV9 dc9 pm9 an9 cd9 ct9), sl9⟩) (c9 : PySem.W.codeIn K cd9 "_law_word" = true) (k9 : PySem.W.keepIn K (.ref f9) = true)
    (a10 : PySem.W.nsIn K mainGlobals "_law_block" = some (some (.ref f10))) (l10 : K.lookup f10 = some ⟨oc10, od10, .func (PySem.W.fnOf "_law_block" "_law_block" (defArgs s__law_block) (defBody s__law_block) (defScope s__law_block) .none kV10 dc10 pm10 an10 cd10 ct10), sl10⟩) (c10 : PySem.W.codeIn K cd10 "_law_block" = true) (k10 : PySem.W.keepIn K (.ref f10) = true)
    (a11 : PySem.W.nsIn K mainGlobals "_law_count" = some (some (.ref f11))) (l11 : K.lookup f11 = some ⟨oc11, od11, .func (PySem.W.fnOf "_law_count" "_law_count" (defArgs s__law_count) (defBody s__law_count) (defScope s__law_count) .none kV11 dc11 pm11 an11 cd11 ct11), sl11⟩) (c11 : PySem.W.codeIn K cd11 "_law_count" = true) (k11 : PySem.W.keepIn K (.ref f11) = true)
    (a12 : PySem.W.nsIn K mainGlobals "_law_weight" = some (some (.ref f12))) (l12 : K.lookup f12 = some ⟨oc12, od12, .func (PySem.W.fnOf "_law_weight" "_law_weight" (defArgs s__law_weight) (defBody s__law_weight) (defScope s__law_weight) .none kV12 dc12 pm12 an12 cd12 ct12), sl12⟩) (c12 : PySem.W.codeIn K cd12 "_law_weight" = true) (k12 : PySem.W.keepIn K (.ref f12) = true)
    (a13 : PySem.W.nsIn K mainGlobals "_law_program" = some (some (.ref f13))) (l13 : K.lookup f13 = some ⟨oc13, od13, .func (PySem.W.fnOf "_law_program" "_law_program" (defArgs s__law_program) (defBody s__law_program) (defScope s__law_program) .none kV13 dc13 pm13 an13 cd13 ct13), sl13⟩) (c13 : PySem.W.codeIn K cd13 "_law_program" = true) (k13 : PySem.W.keepIn K (.ref f13) = true)
    (a14 : PySem.W.nsIn K mainGlobals "_law_measure" = some (some (.ref f14))) (l14 : K.lookup f14 = some ⟨oc14, od14, .func (PySem.W.fnOf "_law_measure" "_law_measure" (defArgs s__law_measure) (defBody s__law_measure) (defScope s__law_measure) .none kV14 dc14 pm14 an14 cd14 ct14), sl14⟩) (c14 : PySem.W.codeIn K cd14 "_law_measure" = true) (k14 : PySem.W.keepIn K (.ref f14) = true)
    (a15 : PySem.W.nsIn K mainGlobals "_law_sizes" = some (some (.ref f15))) (l15 : K.lookup f15 = some ⟨oc15, od15, .func (PySem.W.fnOf "_law_sizes" "_law_sizes" (defArgs s__law_sizes) (defBody s__law_sizes) (defScope s__law_sizes) .none kV15 dc15 pm15 an15 cd15 ct15), sl15⟩) (c15 : PySem.W.codeIn K cd15 "_law_sizes" = true) (k15 : PySem.W.keepIn K (.ref f15) = true)
    (a16 : PySem.W.nsIn K mainGlobals "_law_chain" = some (some (.ref f16))) (l16 : K.lookup f16 = some ⟨oc16, od16, .func (PySem.W.fnOf "_law_chain" "_law_chain" (defArgs s__law_chain) (defBody s__law_chain) (defScope s__law_chain) .none kV16 dc16 pm16 an16 cd16 ct16), sl16⟩) (c16 : PySem.W.codeIn K cd16 "_law_chain" = true) (k16 : PySem.W.keepIn K (.ref f16) = true)
    (a17 : PySem.W.nsIn K mainGlobals "law" = some (some (.ref f17))) (l17 : K.lookup f17 = some ⟨oc17, od17, .func (PySem.W.fnOf "law" "law" (defArgs s_law) (defBody s_law) (defScope s_law) .none kV17 dc17 pm17 an17 cd17 ct17), sl17⟩) (c17 : PySem.W.codeIn K cd17 "law" = true) (k17 : PySem.W.keepIn K (.ref f17) = true)
    (z0 : PySem.W.nsIn K mainGlobals "all" = some none)
    (z1 : PySem.W.nsIn K mainGlobals "bool" = some none)
    (z2 : PySem.W.nsIn K mainGlobals "int" = some none)
    (z3 : PySem.W.nsIn K mainGlobals "isinstance" = some none)
    (z4 : PySem.W.nsIn K mainGlobals "len" = some none)
    (z5 : PySem.W.nsIn K mainGlobals "range" = some none)
    (z6 : PySem.W.nsIn K mainGlobals "reversed" = some none)
    (z7 : PySem.W.nsIn K mainGlobals "str" = some none)
    (z8 : PySem.W.nsIn K mainGlobals "tuple" = some none)
    : ∃ (fd : FuncData), (∀ (s : Shared) (v : Value), BindsTo s fd ⟨[v], []⟩ [("script", v)]) ∧ ∀ base : Heap, K.In base → base.Ns mainGlobals mg → FnOk l.prog w K mg base (L2.CX l.prog w) (dep + 1) fl fd ["script"] (spLaw K) := by
  have e := hfa.symm.trans (PySem.W.mg_of X G a17)
  cases e
  let fa : Nat → Addr := fun n => match n with | 0 => f0 | 1 => f1 | 2 => f2 | 3 => f3 | 4 => f4 | 5 => f5 | 6 => f6 | 7 => f7 | 8 => f8 | 9 => f9 | 10 => f10 | 11 => f11 | 12 => f12 | 13 => f13 | 14 => f14 | 15 => f15 | 16 => f16 | 17 => fl | _ => 0
  let fd : Nat → FuncData := fun n => match n with | 0 => PySem.W.fnOf "body_sizes" "body_sizes" (defArgs s_body_sizes) (defBody s_body_sizes) (defScope s_body_sizes) .none kV0 dc0 pm0 an0 cd0 ct0 | 1 => PySem.W.fnOf "_block_size" "_block_size" (defArgs s__block_size) (defBody s__block_size) (defScope s__block_size) .none kV1 dc1 pm1 an1 cd1 ct1 | 2 => PySem.W.fnOf "_statement_size" "_statement_size" (defArgs s__statement_size) (defBody s__statement_size) (defScope s__statement_size) .none kV2 dc2 pm2 an2 cd2 ct2 | 3 => PySem.W.fnOf "_law_cell" "_law_cell" (defArgs s__law_cell) (defBody s__law_cell) (defScope s__law_cell) .none kV3 dc3 pm3 an3 cd3 ct3 | 4 => PySem.W.fnOf "_law_digits" "_law_digits" (defArgs s__law_digits) (defBody s__law_digits) (defScope s__law_digits) .none kV4 dc4 pm4 an4 cd4 ct4 | 5 => PySem.W.fnOf "_law_box" "_law_box" (defArgs s__law_box) (defBody s__law_box) (defScope s__law_box) .none kV5 dc5 pm5 an5 cd5 ct5 | 6 => PySem.W.fnOf "_law_draw" "_law_draw" (defArgs s__law_draw) (defBody s__law_draw) (defScope s__law_draw) .none kV6 dc6 pm6 an6 cd6 ct6 | 7 => PySem.W.fnOf "_law_is_integer" "_law_is_integer" (defArgs s__law_is_integer) (defBody s__law_is_integer) (defScope s__law_is_integer) .none kV7 dc7 pm7 an7 cd7 ct7 | 8 => PySem.W.fnOf "_law_same" "_law_same" (defArgs s__law_same) (defBody s__law_same) (defScope s__law_same) .none kV8 dc8 pm8 an8 cd8 ct8 | 9 => PySem.W.fnOf "_law_word" "_law_word" (defArgs s__law_word) (defBody s__law_word) (defScope s__law_word) .none kV9 dc9 pm9 an9 cd9 ct9 | 10 => PySem.W.fnOf "_law_block" "_law_block" (defArgs s__law_block) (defBody s__law_block) (defScope s__law_block) .none kV10 dc10 pm10 an10 cd10 ct10 | 11 => PySem.W.fnOf "_law_count" "_law_count" (defArgs s__law_count) (defBody s__law_count) (defScope s__law_count) .none kV11 dc11 pm11 an11 cd11 ct11 | 12 => PySem.W.fnOf "_law_weight" "_law_weight" (defArgs s__law_weight) (defBody s__law_weight) (defScope s__law_weight) .none kV12 dc12 pm12 an12 cd12 ct12 | 13 => PySem.W.fnOf "_law_program" "_law_program" (defArgs s__law_program) (defBody s__law_program) (defScope s__law_program) .none kV13 dc13 pm13 an13 cd13 ct13 | 14 => PySem.W.fnOf "_law_measure" "_law_measure" (defArgs s__law_measure) (defBody s__law_measure) (defScope s__law_measure) .none kV14 dc14 pm14 an14 cd14 ct14 | 15 => PySem.W.fnOf "_law_sizes" "_law_sizes" (defArgs s__law_sizes) (defBody s__law_sizes) (defScope s__law_sizes) .none kV15 dc15 pm15 an15 cd15 ct15 | 16 => PySem.W.fnOf "_law_chain" "_law_chain" (defArgs s__law_chain) (defBody s__law_chain) (defScope s__law_chain) .none kV16 dc16 pm16 an16 cd16 ct16 | 17 => PySem.W.fnOf "law" "law" (defArgs s_law) (defBody s_law) (defScope s_law) .none kV17 dc17 pm17 an17 cd17 ct17 | _ => PySem.W.fnOf "law" "law" (defArgs s_law) (defBody s_law) (defScope s_law) .none kV0 dc0 pm0 an0 cd0 ct0
  let ca : Nat → Addr := fun n => 0
  have T : Txt K mg fa ca := ⟨PySem.W.mg_none_of X G z0, PySem.W.mg_none_of X G z1, PySem.W.mg_none_of X G z2, PySem.W.mg_none_of X G z3, PySem.W.mg_none_of X G z4, PySem.W.mg_none_of X G z5, PySem.W.mg_none_of X G z6, PySem.W.mg_none_of X G z7, PySem.W.mg_none_of X G z8⟩
  have F : Fs K mg fa fd := ⟨PySem.W.mg_of X G a0, fun_mk (st := s_body_sizes) l0 c0 k0, PySem.W.mg_of X G a1, fun_mk (st := s__block_size) l1 c1 k1, PySem.W.mg_of X G a2, fun_mk (st := s__statement_size) l2 c2 k2, PySem.W.mg_of X G a3, fun_mk (st := s__law_cell) l3 c3 k3, PySem.W.mg_of X G a4, fun_mk (st := s__law_digits) l4 c4 k4, PySem.W.mg_of X G a5, fun_mk (st := s__law_box) l5 c5 k5, PySem.W.mg_of X G a6, fun_mk (st := s__law_draw) l6 c6 k6, PySem.W.mg_of X G a7, fun_mk (st := s__law_is_integer) l7 c7 k7, PySem.W.mg_of X G a8, fun_mk (st := s__law_same) l8 c8 k8, PySem.W.mg_of X G a9, fun_mk (st := s__law_word) l9 c9 k9, PySem.W.mg_of X G a10, fun_mk (st := s__law_block) l10 c10 k10, PySem.W.mg_of X G a11, fun_mk (st := s__law_count) l11 c11 k11, PySem.W.mg_of X G a12, fun_mk (st := s__law_weight) l12 c12 k12, PySem.W.mg_of X G a13, fun_mk (st := s__law_program) l13 c13 k13, PySem.W.mg_of X G a14, fun_mk (st := s__law_measure) l14 c14 k14, PySem.W.mg_of X G a15, fun_mk (st := s__law_sizes) l15 c15 k15, PySem.W.mg_of X G a16, fun_mk (st := s__law_chain) l16 c16 k16, PySem.W.mg_of X G a17, fun_mk (st := s_law) l17 c17 k17⟩
  exact ⟨fd 17, fun s v => .of_eq rfl, fun base _ _ => (ok_law (ca := ca) T (all_ok T F dep) F.f17).imp (law_sp hlaw)⟩
end Mi.T
open PySem PySem.W PyProof.Rows
set_option maxRecDepth 100000 in
set_option maxHeartbeats 0 in
theorem PySem.Challenge.cw_sameticks_k01_sizes_holds : PySem.Challenge.rw_sameticks_k01_sizes.Holds := by
  w_on; o_law; k_head; (case hw => w_witness2)
  k_fill
  refine Mi.walk_law (l := PySem.Challenge.rw_sameticks_k01_sizes) (dep := Mi.T.dep + 1) ⟨rfl, by decide, by decide⟩ rfl rfl (fun w h Y => PySem.W.kIn_of Y) ?F
  case F =>
    intro w mg fa h KX G hmg
    refine' Mi.T.all_mk Mi.T.law_holds KX G hmg ?a0 ?l0 ?c0 ?k0 ?a1 ?l1 ?c1 ?k1 ?a2 ?l2 ?c2 ?k2 ?a3 ?l3 ?c3 ?k3 ?a4 ?l4 ?c4 ?k4 ?a5 ?l5 ?c5 ?k5 ?a6 ?l6 ?c6 ?k6 ?a7 ?l7 ?c7 ?k7 ?a8 ?l8 ?c8 ?k8 ?a9 ?l9 ?c9 ?k9 ?a10 ?l10 ?c10 ?k10 ?a11 ?l11 ?c11 ?k11 ?a12 ?l12 ?c12 ?k12 ?a13 ?l13 ?c13 ?k13 ?a14 ?l14 ?c14 ?k14 ?a15 ?l15 ?c15 ?k15 ?a16 ?l16 ?c16 ?k16 ?a17 ?l17 ?c17 ?k17 ?z0 ?z1 ?z2 ?z3 ?z4 ?z5 ?z6 ?z7 ?z8
    (case a0 => k_is)
    (case l0 => k_is)
    (case c0 => k_is)
    (case k0 => k_is)
    (case a1 => k_is)
    (case l1 => k_is)
    (case c1 => k_is)
    (case k1 => k_is)
    (case a2 => k_is)
    (case l2 => k_is)
    (case c2 => k_is)
    (case k2 => k_is)
    (case a3 => k_is)
    (case l3 => k_is)
    (case c3 => k_is)
    (case k3 => k_is)
    (case a4 => k_is)
    (case l4 => k_is)
    (case c4 => k_is)
    (case k4 => k_is)
    (case a5 => k_is)
    (case l5 => k_is)
    (case c5 => k_is)
    (case k5 => k_is)
    (case a6 => k_is)
    (case l6 => k_is)
    (case c6 => k_is)
    (case k6 => k_is)
    (case a7 => k_is)
    (case l7 => k_is)
    (case c7 => k_is)
    (case k7 => k_is)
    (case a8 => k_is)
    (case l8 => k_is)
    (case c8 => k_is)
    (case k8 => k_is)
    (case a9 => k_is)
    (case l9 => k_is)
    (case c9 => k_is)
    (case k9 => k_is)
    (case a10 => k_is)
    (case l10 => k_is)
    (case c10 => k_is)
    (case k10 => k_is)
    (case a11 => k_is)
    (case l11 => k_is)
    (case c11 => k_is)
    (case k11 => k_is)
    (case a12 => k_is)
    (case l12 => k_is)
    (case c12 => k_is)
    (case k12 => k_is)
    (case a13 => k_is)
    (case l13 => k_is)
    (case c13 => k_is)
    (case k13 => k_is)
    (case a14 => k_is)
    (case l14 => k_is)
    (case c14 => k_is)
    (case k14 => k_is)
    (case a15 => k_is)
    (case l15 => k_is)
    (case c15 => k_is)
    (case k15 => k_is)
    (case a16 => k_is)
    (case l16 => k_is)
    (case c16 => k_is)
    (case k16 => k_is)
    (case a17 => k_is)
    (case l17 => k_is)
    (case c17 => k_is)
    (case k17 => k_is)
    (case z0 => k_is)
    (case z1 => k_is)
    (case z2 => k_is)
    (case z3 => k_is)
    (case z4 => k_is)
    (case z5 => k_is)
    (case z6 => k_is)
    (case z7 => k_is)
    (case z8 => k_is)
