import PyProof.Rows.All
import Wide.All
import OpenK.AllK
import Wide.FinOn
import HandS.ForMost
import HandS.ForExc
import HandS.Deep
import HandS.Star
import HandS.IsInst
import HandS.FStr
import HandS.Rev
import HandS.WordsExc
import HandS.Defaults
import HandS.CallSlots
import HandS.Comp
import HandS.Text
import HandS.ClsMeth
import HandS.Zip
import HandS.HeadEnd
import HandS.Head2
import HandS.Head3
import HandS.HeadHook4
import HandS.HeadNt
import HandS.ExcInit
import HandS.Exc
import HandS.ExcField
import HandS.TryOnly
import HandS.ExcOwn
import KE.GoesEnum
import KE.KItemsList
import HandS.ListItems
import HandS.DictComp
import KE.KExcIs
import HandS.ExcIs
import HandS.Codes
import PySem.Challenge.RW_heldcalls_k76_error_classes
set_option Elab.async false
set_option linter.all false
set_option maxRecDepth 100000
set_option maxHeartbeats 0
/-! The value layer, 1: data as trees, marks (c: settled for ever; o: the owner's alone, may be changed; b: lent, read only), the state of a frame. -/
namespace Vl
open PySem PySem.Spec PyProof.Rows L2

inductive Mk | c | o | b
  deriving DecidableEq
inductive Kd
  | lst | tup | scr | dct (ks : List Key) | dtt (ks : List (List Key)) | ins (C : Str) (fs : List Str) | exn (C : Str) (fs : List Str)
  deriving DecidableEq
/-- a value as a tree; α: what stands at each node (nothing, or the node's addresses) -/
inductive T (α : Type) where
  | non | bl (b : Bool) | int (i : Int) | str (x : Str)
  | nd (k : Kd) (m : Mk) (a : α) (xs : List (T α))
abbrev D := T Unit
abbrev AA := Addr × Addr
abbrev A := T AA

section
variable {α β : Type}
mutual
def T.map (f : α → β) : T α → T β
  | .non => .non
  | .bl b => .bl b
  | .int i => .int i
  | .str x => .str x
  | .nd k m a xs => .nd k m (f a) (mapL f xs)
def mapL (f : α → β) : List (T α) → List (T β)
  | [] => []
  | x :: xs => x.map f :: mapL f xs
end
theorem mapL_eq (f : α → β) : ∀ xs : List (T α), mapL f xs = xs.map (T.map f)
  | [] => rfl
  | x :: xs => by rw [mapL, mapL_eq f xs, List.map_cons]
/- marks turned by g -/
mutual
def T.mk (g : Mk → Mk) : T α → T α
  | .non => .non
  | .bl b => .bl b
  | .int i => .int i
  | .str x => .str x
  | .nd k m a xs => .nd k (g m) a (mkL g xs)
def mkL (g : Mk → Mk) : List (T α) → List (T α)
  | [] => []
  | x :: xs => x.mk g :: mkL g xs
end
theorem mkL_eq (g : Mk → Mk) : ∀ xs : List (T α), mkL g xs = xs.map (T.mk g)
  | [] => rfl
  | x :: xs => by rw [mkL, mkL_eq g xs, List.map_cons]
/- every mark is one that p takes -/
mutual
def T.all (p : Mk → Bool) : T α → Bool
  | .nd _ m _ xs => p m && allL p xs
  | _ => true
def allL (p : Mk → Bool) : List (T α) → Bool
  | [] => true
  | x :: xs => x.all p && allL p xs
end
theorem allL_eq (p : Mk → Bool) : ∀ xs : List (T α), allL p xs = xs.all (T.all p)
  | [] => rfl
  | x :: xs => by rw [allL, allL_eq p xs, List.all_cons]
end
def lend : Mk → Mk
  | .o => .b
  | m => m
def calm : Mk → Mk := fun _ => .c
def isC : Mk → Bool
  | .c => true
  | _ => false
def notB : Mk → Bool
  | .b => false
  | _ => true
/-- settled -/
abbrev T.cold {α : Type} (d : T α) : Bool := d.all isC
abbrev T.nob {α : Type} (d : T α) : Bool := d.all notB
/-- a look at it: what is owned is lent -/
abbrev T.vw {α : Type} (d : T α) : T α := d.mk lend
/-- settled for ever -/
abbrev T.fz {α : Type} (d : T α) : T α := d.mk calm
section
variable {α β : Type}
mutual
theorem T.mk_cold {g : Mk → Mk} (hg : g .c = .c) : ∀ {d : T α}, d.cold = true → d.mk g = d
  | .non, _ => rfl
  | .bl _, _ => rfl
  | .int _, _ => rfl
  | .str _, _ => rfl
  | .nd k m a xs, h => by
    rw [T.cold, T.all, Bool.and_eq_true] at h
    have e : m = .c := by cases m <;> first | rfl | exact absurd h.1 Bool.false_ne_true
    rw [T.mk, e, hg, mkL_cold hg h.2]
theorem mkL_cold {g : Mk → Mk} (hg : g .c = .c) : ∀ {xs : List (T α)}, allL isC xs = true → mkL g xs = xs
  | [], _ => rfl
  | x :: xs, h => by
    rw [allL, Bool.and_eq_true] at h
    rw [mkL, T.mk_cold hg h.1, mkL_cold hg h.2]
end
mutual
theorem T.map_mk (f : α → β) (g : Mk → Mk) : ∀ d : T α, (d.mk g).map f = (d.map f).mk g
  | .non => rfl
  | .bl _ => rfl
  | .int _ => rfl
  | .str _ => rfl
  | .nd k m a xs => by rw [T.mk, T.map, T.map, T.mk, mapL_mkL f g xs]
theorem mapL_mkL (f : α → β) (g : Mk → Mk) : ∀ xs : List (T α), mapL f (mkL g xs) = mkL g (mapL f xs)
  | [] => rfl
  | x :: xs => by rw [mkL, mapL, mapL, mkL, T.map_mk f g x, mapL_mkL f g xs]
end
mutual
theorem T.all_map (f : α → β) (p : Mk → Bool) : ∀ d : T α, (d.map f).all p = d.all p
  | .non => rfl
  | .bl _ => rfl
  | .int _ => rfl
  | .str _ => rfl
  | .nd k m a xs => by rw [T.map, T.all, T.all, allL_mapL f p xs]
theorem allL_mapL (f : α → β) (p : Mk → Bool) : ∀ xs : List (T α), allL p (mapL f xs) = allL p xs
  | [] => rfl
  | x :: xs => by rw [mapL, allL, allL, T.all_map f p x, allL_mapL f p xs]
end
mutual
theorem T.all_mk (g : Mk → Mk) (p : Mk → Bool) : ∀ d : T α, (d.mk g).all p = d.all (fun m => p (g m))
  | .non => rfl
  | .bl _ => rfl
  | .int _ => rfl
  | .str _ => rfl
  | .nd k m a xs => by rw [T.mk, T.all, T.all, allL_mkL g p xs]
theorem allL_mkL (g : Mk → Mk) (p : Mk → Bool) : ∀ xs : List (T α), allL p (mkL g xs) = allL (fun m => p (g m)) xs
  | [] => rfl
  | x :: xs => by rw [mkL, allL, allL, T.all_mk g p x, allL_mkL g p xs]
end
mutual
theorem T.all_imp {p q : Mk → Bool} (h : ∀ m, p m = true → q m = true) : ∀ {d : T α}, d.all p = true → d.all q = true
  | .non, _ => rfl
  | .bl _, _ => rfl
  | .int _, _ => rfl
  | .str _, _ => rfl
  | .nd k m a xs, z => by
    rw [T.all, Bool.and_eq_true] at z
    rw [T.all, Bool.and_eq_true]
    exact ⟨h _ z.1, allL_imp h z.2⟩
theorem allL_imp {p q : Mk → Bool} (h : ∀ m, p m = true → q m = true) : ∀ {xs : List (T α)}, allL p xs = true → allL q xs = true
  | [], _ => rfl
  | x :: xs, z => by
    rw [allL, Bool.and_eq_true] at z
    rw [allL, Bool.and_eq_true]
    exact ⟨T.all_imp h z.1, allL_imp h z.2⟩
end
end
/-! ### with addresses -/
abbrev er (x : A) : D := x.map fun _ => ()
def val : A → V
  | .non => .non
  | .bl b => .bl b
  | .int i => .int i
  | .str x => .str x
  | .nd _ _ a _ => .ref a.1
def ndA (k : Kd) (a : AA) : List Addr := match k with
  | .ins _ _ => [a.1, a.2]
  | .exn _ _ => [a.1, a.2]
  | _ => [a.1]
/- the addresses of the nodes with mark m -/
mutual
def adr (q : Mk) : A → List Addr
  | .nd k m a xs => (if m = q then ndA k a else []) ++ adrL q xs
  | _ => []
def adrL (q : Mk) : List A → List Addr
  | [] => []
  | x :: xs => adr q x ++ adrL q xs
end
theorem adrL_eq (q : Mk) : ∀ xs : List A, adrL q xs = xs.flatMap (adr q)
  | [] => rfl
  | x :: xs => by rw [adrL, adrL_eq q xs, List.flatMap_cons]
abbrev own (x : A) : List Addr := adr .o x
abbrev bor (x : A) : List Addr := adr .b x
/-- what stands at a node -/
def cont (ca : Str → Addr) (k : Kd) (a : AA) (vs : List V) : HO := match k with
  | .lst => .lst vs
  | .scr => .lst vs
  | .tup => .tup vs
  | .dct ks => .dK (ks.zip vs)
  | .dtt ks => .dT (ks.zip vs)
  | .ins C fs => .ins (ca C) a.2 (fs.zip vs)
  | .exn _ _ => .tup []
/-- the lengths that a node's kind asks -/
def shp (k : Kd) (n : Nat) : Prop := match k with
  | .dct ks => ks.length = n ∧ ks.Nodup
  | .dtt ks => ks.length = n ∧ ks.Nodup
  | .ins _ fs => fs.length = n ∧ fs.Nodup
  | .exn _ fs => fs.length = n
  | _ => True
/-- a node as it can be read in H -/
def At (K : PySem.W.Frag) (ca : Str → Addr) (H : Hp) (k : Kd) (a : AA) (vs : List V) : Prop := match k with
  | .lst => H a.1 = some (.lst vs)
  | .scr => SqL K H a.1 vs
  | .tup => SqT K H a.1 vs
  | .dct ks => Rd H a.1 (.dK (ks.zip vs))
  | .dtt ks => Rd H a.1 (.dT (ks.zip vs))
  | .ins C fs => H a.1 = some (.ins (ca C) a.2 (fs.zip vs)) ∧ H a.2 = some (.own a.1)
  | .exn _ fs => fs = [] ∨ ∃ gs, H a.2 = some (.xd gs) ∧ ∀ f, gs.lookup f = (fs.zip vs).lookup f
/-- a node as it can be written in H -/
def Full (ca : Str → Addr) (H : Hp) (k : Kd) (a : AA) (vs : List V) : Prop :=
  H a.1 = some (cont ca k a vs) ∧ match k with
    | .ins _ _ => H a.2 = some (.own a.1)
    | .exn _ _ => False
    | _ => True
structure Ctx where
  K : PySem.W.Frag
  ca : Str → Addr
  fix : List (Nat × V)
  cells : List (Addr × HO)
  known : List A
/-- the classes' addresses; the slots that keep their values; settled objects and values that are known by themselves (a caught exception's) -/
structure Ca where
  f : Str → Addr
  fix : List (Nat × V)
  cells : List (Addr × HO)
  known : List A
instance : CoeFun Ca (fun _ => Str → Addr) := ⟨Ca.f⟩
instance : Coe Ca (Str → Addr) := ⟨Ca.f⟩
section
variable (X : Ctx) (F H : Hp)
def Nd (k : Kd) (m : Mk) (a : AA) (xs : List A) : Prop := shp k xs.length ∧ match m with
  | .c => At X.K X.ca F k a (xs.map val) ∧ allL isC xs = true
  | .o => Full X.ca H k a (xs.map val) ∧ (∀ p ∈ ndA k a, F p = none) ∧ allL notB xs = true
  | .b => At X.K X.ca H k a (xs.map val) ∧ adrL .o xs = [] ∧ ∀ p ∈ ndA k a, H p ≠ none
mutual
def Ok : A → Prop
  | .nd k m a xs => Nd X F H k m a xs ∧ OkL xs
  | _ => True
def OkL : List A → Prop
  | [] => True
  | x :: xs => Ok x ∧ OkL xs
end
end
theorem OkL_iff {X : Ctx} {F H : Hp} : ∀ {xs : List A}, OkL X F H xs ↔ ∀ x ∈ xs, Ok X F H x
  | [] => by simp [OkL]
  | x :: xs => by
    rw [OkL, OkL_iff]
    simp
/-- what is settled stands in the heap (a dict may be locked by a walk) -/
def Sub (F H : Hp) : Prop := ∀ a u, F a = some u → H a = some u ∨ ∃ ob kvs, u = .dK kvs ∧ H a = some (.frz ob u)
theorem Sub.refl (H : Hp) : Sub H H := fun _ _ h => .inl h
theorem Sub.rd {F H : Hp} (s : Sub F H) {a : Addr} {u : HO} (h : Rd F a u) (hu : ∀ ob v, u ≠ .frz ob v) : Rd H a u := by
  rcases h with h | ⟨o, h⟩
  · rcases s a u h with q | ⟨ob, kvs, e, q⟩
    · exact .inl q
    · exact .inr ⟨ob, q⟩
  · rcases s a _ h with q | ⟨ob, kvs, e, q⟩
    · exact .inr ⟨o, q⟩
    · cases e
theorem Sub.at_ {K : PySem.W.Frag} {ca : Str → Addr} {F H : Hp} (s : Sub F H) {k : Kd} {a : AA} {vs : List V} (h : At K ca F k a vs) : At K ca H k a vs := by
  cases k with
  | lst =>
    rcases s _ _ h with q | ⟨_, _, e, _⟩
    · exact q
    · cases e
  | scr =>
    rcases h with h | h
    · exact .inl (s.rd h fun _ _ z => by cases z)
    · exact .inr h
  | tup =>
    rcases h with h | h
    · exact .inl (s.rd h fun _ _ z => by cases z)
    · exact .inr h
  | dct ks => exact s.rd h fun _ _ z => by cases z
  | dtt ks => exact s.rd h fun _ _ z => by cases z
  | ins C fs =>
    refine ⟨?_, ?_⟩
    · rcases s _ _ h.1 with q | ⟨_, _, e, _⟩
      · exact q
      · cases e
    · rcases s _ _ h.2 with q | ⟨_, _, e, _⟩
      · exact q
      · cases e
  | exn C fs =>
    rcases h with h | ⟨gs, h, z⟩
    · exact .inl h
    · refine .inr ⟨gs, ?_, z⟩
      rcases s _ _ h with q | ⟨_, _, e, _⟩
      · exact q
      · cases e
theorem At.same {K : PySem.W.Frag} {ca : Str → Addr} {H H' : Hp} {k : Kd} {a : AA} {vs : List V} (h : At K ca H k a vs) (s : ∀ p u, H p = some u → H' p = some u) : At K ca H' k a vs := by
  have rd : ∀ {p u}, Rd H p u → Rd H' p u := fun {p u} h => by
    rcases h with h | ⟨o, h⟩
    · exact .inl (s _ _ h)
    · exact .inr ⟨o, s _ _ h⟩
  cases k with
  | lst => exact s _ _ h
  | scr => exact h.imp rd id
  | tup => exact h.imp rd id
  | dct ks => exact rd h
  | dtt ks => exact rd h
  | ins C fs => exact ⟨s _ _ h.1, s _ _ h.2⟩
  | exn C fs => exact h.imp id fun ⟨gs, h, z⟩ => ⟨gs, s _ _ h, z⟩
theorem Full.at_ {K : PySem.W.Frag} {ca : Str → Addr} {H : Hp} {k : Kd} {a : AA} {vs : List V} (h : Full ca H k a vs) : At K ca H k a vs := by
  cases k with
  | lst => exact h.1
  | scr => exact SqL.of h.1
  | tup => exact SqT.of h.1
  | dct ks => exact .inl h.1
  | dtt ks => exact .inl h.1
  | ins C fs => exact h
  | exn C fs => exact h.2.elim
end Vl
/-! The value layer, 2: the state of a frame, steps, what an expression is worth. -/
namespace Vl
open PySem PySem.Spec PyProof.Rows L2

abbrev St := L2.St
abbrev Env := List (Option D)
abbrev AR := List (Option A)
def erR (r : AR) : Env := r.map (Option.map er)
def valR (r : AR) : St := r.map (Option.map val)
/-- without marks -/
def fzR (r : AR) : AR := r.map (Option.map T.fz)
def adrO (q : Mk) : Option A → List Addr
  | some x => adr q x
  | none => []
def adrR (q : Mk) (r : AR) : List Addr := r.flatMap (adrO q)
theorem mem_adrR {q : Mk} {r : AR} {a : Addr} : a ∈ adrR q r ↔ ∃ x, some x ∈ r ∧ a ∈ adr q x := by
  unfold adrR
  rw [List.mem_flatMap]
  constructor
  · rintro ⟨o, ho, h⟩
    cases o with
    | none => cases h
    | some x => exact ⟨x, ho, h⟩
  · rintro ⟨x, hx, h⟩
    exact ⟨some x, hx, h⟩

/-! ### trees in heaps -/
section
variable {X : Ctx} {F F' H H' : Hp}
/-- what is settled never changes; what is lent or owned stays where the heap keeps it -/
theorem ndA_fst {k : Kd} {a : AA} : a.1 ∈ ndA k a := by cases k <;> simp [ndA]
theorem Full.keep {ca : Str → Addr} {k : Kd} {a : AA} {vs : List V} (h : Full ca H k a vs) (s : ∀ p ∈ ndA k a, H' p = H p) : Full ca H' k a vs := by
  obtain ⟨h1, h2⟩ := h
  refine ⟨(s _ ndA_fst).trans h1, ?_⟩
  cases k with
  | ins C fs => exact (s a.2 (by simp [ndA])).trans h2
  | _ => trivial
mutual
theorem Ok.move : ∀ {x : A}, Ok X F H x → (∀ a u, F a = some u → F' a = some u) → (∀ a u, (a ∈ adr .o x ∨ a ∈ adr .b x ∨ True) → H a = some u → H' a = some u) → (∀ a ∈ adr .o x, F' a = none) → Ok X F' H' x
  | .non, _, _, _, _ => trivial
  | .bl _, _, _, _, _ => trivial
  | .int _, _, _, _, _ => trivial
  | .str _, _, _, _, _ => trivial
  | .nd k m a xs, h, hf, hh, ho => by
    obtain ⟨⟨sh, n⟩, l⟩ := h
    refine ⟨⟨sh, ?_⟩, OkL.move l hf (fun p u _ q => hh p u (.inr (.inr trivial)) q) fun p hp => ho p (List.mem_append_right _ hp)⟩
    cases m with
    | c => exact ⟨n.1.same hf, n.2⟩
    | o =>
      refine ⟨?_, fun p hp => ho p (List.mem_append_left _ (by rw [if_pos rfl]; exact hp)), n.2.2⟩
      obtain ⟨⟨h1, h2⟩, _⟩ := n
      refine ⟨hh _ _ (.inr (.inr trivial)) h1, ?_⟩
      cases k with
      | ins C fs => exact hh _ _ (.inr (.inr trivial)) h2
      | _ => trivial
    | b => exact ⟨n.1.same fun p u q => hh p u (.inr (.inr trivial)) q, n.2.1, fun p hp => by
        cases e : H p with
        | none => exact absurd e (n.2.2 p hp)
        | some u => rw [hh p u (.inr (.inr trivial)) e]; exact fun z => by cases z⟩
theorem OkL.move : ∀ {xs : List A}, OkL X F H xs → (∀ a u, F a = some u → F' a = some u) → (∀ a u, (a ∈ adrL .o xs ∨ a ∈ adrL .b xs ∨ True) → H a = some u → H' a = some u) → (∀ a ∈ adrL .o xs, F' a = none) → OkL X F' H' xs
  | [], _, _, _, _ => trivial
  | x :: xs, h, hf, hh, ho => ⟨Ok.move h.1 hf (fun p u _ q => hh p u (.inr (.inr trivial)) q) fun p hp => ho p (List.mem_append_left _ hp),
      OkL.move h.2 hf (fun p u _ q => hh p u (.inr (.inr trivial)) q) fun p hp => ho p (List.mem_append_right _ hp)⟩
end
theorem Ok.same {x : A} (h : Ok X F H x) (hf : ∀ a u, F a = some u → F' a = some u) (hh : ∀ a u, H a = some u → H' a = some u) (ho : ∀ a ∈ own x, F' a = none) : Ok X F' H' x :=
  Ok.move h hf (fun a u _ q => hh a u q) ho
theorem OkL.same {xs : List A} (h : OkL X F H xs) (hf : ∀ a u, F a = some u → F' a = some u) (hh : ∀ a u, H a = some u → H' a = some u) (ho : ∀ a ∈ adrL .o xs, F' a = none) : OkL X F' H' xs :=
  OkL.move h hf (fun a u _ q => hh a u q) ho
/-- what a tree owns stands in the heap, and is not settled -/
theorem Full.there {ca : Str → Addr} {k : Kd} {a : AA} {vs : List V} (h : Full ca H k a vs) : ∀ p ∈ ndA k a, H p ≠ none := by
  obtain ⟨h1, h2⟩ := h
  cases k with
  | ins C fs =>
    intro p hp
    rcases List.mem_cons.mp hp with rfl | hp
    · rw [h1]; exact fun z => by cases z
    · have e : p = a.2 := by simpa using hp
      rw [e]
      have h2 : H a.2 = some (.own a.1) := h2
      rw [h2]; exact fun z => by cases z
  | exn C fs => exact h2.elim
  | _ =>
    intro p hp
    have e : p = a.1 := by simpa [ndA] using hp
    rw [e, h1]; exact fun z => by cases z
mutual
theorem Ok.own_there : ∀ {x : A}, Ok X F H x → ∀ p ∈ own x, H p ≠ none ∧ F p = none
  | .non, _, _, hp => by cases hp
  | .bl _, _, _, hp => by cases hp
  | .int _, _, _, hp => by cases hp
  | .str _, _, _, hp => by cases hp
  | .nd k m a xs, h, p, hp => by
    obtain ⟨⟨sh, n⟩, l⟩ := h
    rcases List.mem_append.mp hp with hp | hp
    · cases m with
      | o =>
        rw [if_pos rfl] at hp
        exact ⟨n.1.there p hp, n.2.1 p hp⟩
      | c => rw [if_neg (by decide)] at hp; cases hp
      | b => rw [if_neg (by decide)] at hp; cases hp
    · exact OkL.own_there l p hp
theorem OkL.own_there : ∀ {xs : List A}, OkL X F H xs → ∀ p ∈ adrL .o xs, H p ≠ none ∧ F p = none
  | [], _, _, hp => by cases hp
  | x :: xs, h, p, hp => by
    rcases List.mem_append.mp hp with hp | hp
    · exact Ok.own_there h.1 p hp
    · exact OkL.own_there h.2 p hp
end
/- what a tree lends stands in the heap -/
mutual
theorem Ok.bor_there : ∀ {x : A}, Ok X F H x → ∀ p ∈ bor x, H p ≠ none
  | .non, _, _, hp => by cases hp
  | .bl _, _, _, hp => by cases hp
  | .int _, _, _, hp => by cases hp
  | .str _, _, _, hp => by cases hp
  | .nd k m a xs, h, p, hp => by
    obtain ⟨⟨sh, n⟩, l⟩ := h
    rcases List.mem_append.mp hp with hp | hp
    · cases m with
      | b =>
        rw [if_pos rfl] at hp
        exact n.2.2 p hp
      | c => rw [if_neg (by decide)] at hp; cases hp
      | o => rw [if_neg (by decide)] at hp; cases hp
    · exact OkL.bor_there l p hp
theorem OkL.bor_there : ∀ {xs : List A}, OkL X F H xs → ∀ p ∈ adrL .b xs, H p ≠ none
  | [], _, _, hp => by cases hp
  | x :: xs, h, p, hp => by
    rcases List.mem_append.mp hp with hp | hp
    · exact Ok.bor_there h.1 p hp
    · exact OkL.bor_there h.2 p hp
end
/- no mark m: no address of that mark -/
mutual
theorem adr_nil {q : Mk} {p : Mk → Bool} (hq : p q = false) : ∀ {x : A}, x.all p = true → adr q x = []
  | .non, _ => rfl
  | .bl _, _ => rfl
  | .int _, _ => rfl
  | .str _, _ => rfl
  | .nd k m a xs, h => by
    rw [T.all, Bool.and_eq_true] at h
    rw [adr, adrL_nil hq h.2, if_neg (fun e => by rw [e, hq] at h; exact Bool.false_ne_true h.1)]
    rfl
theorem adrL_nil {q : Mk} {p : Mk → Bool} (hq : p q = false) : ∀ {xs : List A}, allL p xs = true → adrL q xs = []
  | [], _ => rfl
  | x :: xs, h => by
    rw [allL, Bool.and_eq_true] at h
    rw [adrL, adr_nil hq h.1, adrL_nil hq h.2]
    rfl
end
theorem cold_own {x : A} (h : x.cold = true) : own x = [] := adr_nil rfl h
theorem cold_bor {x : A} (h : x.cold = true) : bor x = [] := adr_nil rfl h
theorem nob_bor {x : A} (h : x.nob = true) : bor x = [] := adr_nil rfl h
mutual
theorem val_mk (g : Mk → Mk) : ∀ x : A, val (x.mk g) = val x
  | .non => rfl
  | .bl _ => rfl
  | .int _ => rfl
  | .str _ => rfl
  | .nd k m a xs => by rw [T.mk]; rfl
end
theorem valL_mk (g : Mk → Mk) (xs : List A) : (mkL g xs).map val = xs.map val := by
  rw [mkL_eq, List.map_map]
  exact List.map_congr_left fun x _ => val_mk g x
theorem mkL_len (g : Mk → Mk) (xs : List A) : (mkL g xs).length = xs.length := by rw [mkL_eq, List.length_map]
/- a look: what is owned is lent, and stands as it stood -/
mutual
theorem adr_vw_o : ∀ x : A, own x.vw = []
  | .non => rfl
  | .bl _ => rfl
  | .int _ => rfl
  | .str _ => rfl
  | .nd k m a xs => by
    rw [T.vw, T.mk, own, adr, adrL_vw_o xs, if_neg (by cases m <;> decide)]
    rfl
theorem adrL_vw_o : ∀ xs : List A, adrL .o (mkL lend xs) = []
  | [] => rfl
  | x :: xs => by
    rw [mkL, adrL, adrL_vw_o xs]
    have := adr_vw_o x
    rw [T.vw, own] at this
    rw [this]
    rfl
end
mutual
theorem adr_vw_b : ∀ (x : A), ∀ p ∈ bor x.vw, p ∈ own x ∨ p ∈ bor x
  | .non, _, h => by cases h
  | .bl _, _, h => by cases h
  | .int _, _, h => by cases h
  | .str _, _, h => by cases h
  | .nd k m a xs, p, h => by
    rw [T.vw, T.mk, bor, adr] at h
    rcases List.mem_append.mp h with h | h
    · cases m with
      | c => rw [if_neg (by decide)] at h; cases h
      | o =>
        refine .inl (List.mem_append_left _ ?_)
        rw [if_pos rfl]
        rwa [if_pos (by rfl)] at h
      | b =>
        refine .inr (List.mem_append_left _ ?_)
        rw [if_pos rfl]
        rwa [if_pos (by rfl)] at h
    · exact (adrL_vw_b xs p h).imp (List.mem_append_right _) (List.mem_append_right _)
theorem adrL_vw_b : ∀ (xs : List A), ∀ p ∈ adrL .b (mkL lend xs), p ∈ adrL .o xs ∨ p ∈ adrL .b xs
  | [], _, h => by cases h
  | x :: xs, p, h => by
    rw [mkL, adrL] at h
    rcases List.mem_append.mp h with h | h
    · exact (adr_vw_b x p h).imp (List.mem_append_left _) (List.mem_append_left _)
    · exact (adrL_vw_b xs p h).imp (List.mem_append_right _) (List.mem_append_right _)
end
mutual
theorem Ok.vw : ∀ {x : A}, Ok X F H x → Ok X F H x.vw
  | .non, _ => trivial
  | .bl _, _ => trivial
  | .int _, _ => trivial
  | .str _, _ => trivial
  | .nd k m a xs, h => by
    obtain ⟨⟨sh, n⟩, l⟩ := h
    rw [T.vw, T.mk]
    refine ⟨⟨by rw [mkL_len]; exact sh, ?_⟩, OkL.vw l⟩
    cases m with
    | c =>
      show At X.K X.ca F k a ((mkL lend xs).map val) ∧ allL isC (mkL lend xs) = true
      rw [valL_mk, mkL_cold rfl n.2]
      exact n
    | o =>
      show At X.K X.ca H k a ((mkL lend xs).map val) ∧ adrL .o (mkL lend xs) = [] ∧ ∀ p ∈ ndA k a, H p ≠ none
      rw [valL_mk]
      exact ⟨n.1.at_, adrL_vw_o xs, n.1.there⟩
    | b =>
      show At X.K X.ca H k a ((mkL lend xs).map val) ∧ adrL .o (mkL lend xs) = [] ∧ ∀ p ∈ ndA k a, H p ≠ none
      rw [valL_mk]
      exact ⟨n.1, adrL_vw_o xs, n.2.2⟩
theorem OkL.vw : ∀ {xs : List A}, OkL X F H xs → OkL X F H (mkL lend xs)
  | [], _ => trivial
  | x :: xs, h => ⟨Ok.vw h.1, OkL.vw h.2⟩
end
/-- settling: what the tree owns joins what is settled -/
def frz (F H : Hp) (l : List Addr) : Hp := fun p => if p ∈ l then H p else F p
theorem frz_in {l : List Addr} {p : Addr} (h : p ∈ l) : frz F H l p = H p := if_pos h
theorem frz_out {l : List Addr} {p : Addr} (h : p ∉ l) : frz F H l p = F p := if_neg h
mutual
theorem fz_cold : ∀ x : A, x.fz.cold = true
  | .non => rfl
  | .bl _ => rfl
  | .int _ => rfl
  | .str _ => rfl
  | .nd k m a xs => by
    rw [T.fz, T.mk, T.cold, T.all, Bool.and_eq_true]
    exact ⟨rfl, fzL_cold xs⟩
theorem fzL_cold : ∀ xs : List A, allL isC (mkL calm xs) = true
  | [] => rfl
  | x :: xs => by
    rw [mkL, allL, Bool.and_eq_true]
    exact ⟨fz_cold x, fzL_cold xs⟩
end
mutual
theorem Ok.fz {G : Hp} : ∀ {x : A}, Ok X F H x → x.nob = true → (∀ a u, F a = some u → G a = some u) → (∀ p ∈ own x, G p = H p) → Ok X G H' x.fz
  | .non, _, _, _, _ => trivial
  | .bl _, _, _, _, _ => trivial
  | .int _, _, _, _, _ => trivial
  | .str _, _, _, _, _ => trivial
  | .nd k m a xs, h, hb, hf, hg => by
    obtain ⟨⟨sh, n⟩, l⟩ := h
    rw [T.nob, T.all, Bool.and_eq_true] at hb
    rw [T.fz, T.mk]
    refine ⟨⟨by rw [mkL_len]; exact sh, ?_⟩, OkL.fz l hb.2 hf fun p hp => hg p (List.mem_append_right _ hp)⟩
    show At X.K X.ca G k a ((mkL calm xs).map val) ∧ allL isC (mkL calm xs) = true
    rw [valL_mk]
    refine ⟨?_, fzL_cold xs⟩
    cases m with
    | c => exact n.1.same hf
    | o =>
      have h2 : ∀ p ∈ ndA k a, G p = H p := fun p hp => hg p (List.mem_append_left _ (by rw [if_pos rfl]; exact hp))
      exact (n.1.keep h2).at_
    | b => exact absurd hb.1 Bool.false_ne_true
theorem OkL.fz {G : Hp} : ∀ {xs : List A}, OkL X F H xs → allL notB xs = true → (∀ a u, F a = some u → G a = some u) → (∀ p ∈ adrL .o xs, G p = H p) → OkL X G H' (mkL calm xs)
  | [], _, _, _, _ => trivial
  | x :: xs, h, hb, hf, hg => by
    rw [allL, Bool.and_eq_true] at hb
    exact ⟨Ok.fz h.1 hb.1 hf fun p hp => hg p (List.mem_append_left _ hp), OkL.fz h.2 hb.2 hf fun p hp => hg p (List.mem_append_right _ hp)⟩
end
end

/-! ### the state of a frame -/
structure Stt (X : Ctx) (F H : Hp) (r : AR) (σ : St) : Prop where
  val : σ = valR r
  ok : ∀ x, some x ∈ r → Ok X F H x
  nd : (adrR .o r).Nodup
  bd : ∀ b ∈ adrR .b r, b ∉ adrR .o r
  sub : Sub F H
  fx : ∀ p ∈ X.fix, σ[p.1]? = some (some p.2)
  kn : (∀ c ∈ X.cells, F c.1 = some c.2) ∧ ∀ z ∈ X.known, z.cold = true ∧ Ok X F H z
/-- from one state to another, the slots' objects untouched: the heap grows, more is settled -/
structure Grow (F H : Hp) (r : AR) (F' H' : Hp) (r' : AR) : Prop where
  same : ∀ a u, H a = some u → H' a = some u
  fs : ∀ a u, F a = some u → F' a = some u
  fr : ∀ a, F a = none → F' a ≠ none → H a = none ∨ a ∈ adrR .o r
  ow : ∀ a ∈ adrR .o r', a ∈ adrR .o r
  bo : ∀ b, b ∈ adrR .b r' ↔ b ∈ adrR .b r
  un : fzR r' = fzR r
section
variable {X : Ctx} {F F1 F2 H H1 H2 : Hp} {r r1 r2 : AR} {σ : St}
theorem Grow.refl : Grow F H r F H r := ⟨fun _ _ h => h, fun _ _ h => h, fun _ h h' => absurd h h', fun _ h => h, fun _ => Iff.rfl, rfl⟩
theorem Stt.own_there (s : Stt X F H r σ) {a : Addr} (h : a ∈ adrR .o r) : H a ≠ none ∧ F a = none := by
  obtain ⟨x, hx, ha⟩ := mem_adrR.mp h
  exact (s.ok x hx).own_there a ha
theorem Stt.bor_there (s : Stt X F H r σ) {a : Addr} (h : a ∈ adrR .b r) : H a ≠ none := by
  obtain ⟨x, hx, ha⟩ := mem_adrR.mp h
  exact (s.ok x hx).bor_there a ha
theorem Grow.trans (s : Stt X F1 H1 r1 σ) (g : Grow F H r F1 H1 r1) (g' : Grow F1 H1 r1 F2 H2 r2) : Grow F H r F2 H2 r2 where
  same := fun a u h => g'.same a u (g.same a u h)
  fs := fun a u h => g'.fs a u (g.fs a u h)
  fr := fun a h h' => by
    cases e : F1 a with
    | some u => exact g.fr a h (by rw [e]; exact fun z => by cases z)
    | none =>
      rcases g'.fr a e h' with q | q
      · refine .inl ?_
        cases e2 : H a with
        | none => rfl
        | some u => rw [g.same a u e2] at q; cases q
      · exact .inr (g.ow a q)
  ow := fun a h => g.ow a (g'.ow a h)
  bo := fun b => (g'.bo b).trans (g.bo b)
  un := g'.un.trans g.un
/-- a value beside a state -/
structure VOk (H : Hp) (r : AR) (x : A) : Prop where
  nd : (own x).Nodup
  new : ∀ a ∈ own x, H a = none
  bo : ∀ b ∈ bor x, b ∈ adrR .o r ∨ b ∈ adrR .b r
/-- a value that was made stays over a further step -/
theorem Ok.grow {x : A} (h : Ok X F1 H1 x) (s : Stt X F1 H1 r1 σ) (new : ∀ a ∈ own x, a ∉ adrR .o r1) (g : Grow F1 H1 r1 F2 H2 r2) : Ok X F2 H2 x :=
  h.same g.fs g.same fun a ha => by
    cases e : F2 a with
    | none => rfl
    | some u =>
      obtain ⟨p, q⟩ := h.own_there a ha
      rcases g.fr a q (by rw [e]; exact fun z => by cases z) with z | z
      · exact absurd z p
      · exact absurd z (new a ha)
theorem VOk.notin {x : A} (v : VOk H r x) (s : Stt X F H r σ) : ∀ a ∈ own x, a ∉ adrR .o r := fun a ha h => (s.own_there h).1 (v.new a ha)
/-- behind a step, seen from ahead of it -/
theorem VOk.back {x : A} (g : Grow F H r F1 H1 r1) (v : VOk H1 r1 x) : VOk H r x where
  nd := v.nd
  new := fun a ha => by
    cases e : H a with
    | none => rfl
    | some u =>
      have := v.new a ha
      rw [g.same a u e] at this
      cases this
  bo := fun b hb => (v.bo b hb).imp (g.ow b) (g.bo b).mp
theorem VOk.cold {x : A} (h : x.cold = true) : VOk H r x := ⟨by rw [cold_own h]; exact List.nodup_nil, by rw [cold_own h]; exact fun _ z => (by cases z), by rw [cold_bor h]; exact fun _ z => (by cases z)⟩
end

/-! ### results -/
inductive R (β : Type) where
  | ok (v : β) (ρ : Env)
  | exc (C : Str) (fs : List (Str × D)) (ρ : Env)
  | bad
def R.bind {β γ : Type} (x : R β) (k : β → Env → R γ) : R γ := match x with
  | .ok v ρ => k v ρ
  | .exc C fs ρ => .exc C fs ρ
  | .bad => .bad
def R.of {β : Type} (o : Option β) (ρ : Env) : R β := match o with
  | some v => .ok v ρ
  | none => .bad
theorem R.ok_bind {β γ : Type} (v : β) (ρ : Env) (k : β → Env → R γ) : (R.ok v ρ).bind k = k v ρ := rfl
theorem R.exc_bind {β γ : Type} (C : Str) (fs : List (Str × D)) (ρ : Env) (k : β → Env → R γ) : (R.exc C fs ρ).bind k = .exc C fs ρ := rfl
theorem R.bad_bind {β γ : Type} (k : β → Env → R γ) : (R.bad).bind k = .bad := rfl
theorem R.of_some {β : Type} (v : β) (ρ : Env) : R.of (some v) ρ = .ok v ρ := rfl
abbrev Ev := Env → R D
/-- an exception's own dict -/
def XOk (X : Ctx) (F H : Hp) (dx : Option Addr) (fs : List (Str × D)) : Prop := match dx with
  | none => fs = []
  | some d => ∃ (xs : List (Str × A)) (gs : List (Str × V)), xs.map (fun p => (p.1, er p.2)) = fs ∧ (∀ p ∈ xs, p.2.cold = true ∧ Ok X F H p.2) ∧ F d = some (.xd gs) ∧ ∀ f, gs.lookup f = (xs.lookup f).map val
def PostE (X : Ctx) (W : WX) (σ : St) (F H : Hp) (r : AR) (res : R D) (Q : VK) : Prop := match res with
  | .bad => False
  | .ok d ρ' => ∀ F' H' r' x, Grow F H r F' H' r' → Stt X F' H' r' σ → erR r' = ρ' → Ok X F' H' x → er x = d → VOk H r x → Q (val x) H'
  | .exc C fs ρ' => ∀ F' H' r' dx, Grow F H r F' H' r' → Stt X F' H' r' σ → erR r' = ρ' → XOk X F' H' dx fs → W (.ref (X.ca C)) dx σ H'
def rdE (X : Ctx) (W : WX) (f : Ev) (ρ : Env) : TE := fun σ H Q => ∃ F r, Stt X F H r σ ∧ erR r = ρ ∧ PostE X W σ F H r (f ρ) Q
/-- the expression e is worth f -/
structure CE (ca : Ca) (C : Cx) (W : WX) (e : Expr) (f : Ev) : Prop where
  run : ∀ ρ, PE C e (rdE ⟨C.K, ca.f, ca.fix, ca.cells, ca.known⟩ W f ρ)
theorem PE.mono {C : Cx} {e : Expr} {t t' : TE} (h : PE C e t) (i : ∀ σ H Q, t' σ H Q → t σ H Q) : PE C e t' := ⟨fun pins s σ H Q I q => h.run pins s σ H Q I (i σ H Q q)⟩
/-- several, from the left -/
def PostA (X : Ctx) (W : WX) (σ : St) (F H : Hp) (r : AR) (res : R (List D)) (Q : List V → Hp → Prop) : Prop := match res with
  | .bad => False
  | .ok ds ρ' => ∀ F' H' r' xs, Grow F H r F' H' r' → Stt X F' H' r' σ → erR r' = ρ' → OkL X F' H' xs → xs.map er = ds → (adrL .o xs).Nodup → (∀ a ∈ adrL .o xs, H a = none) → (∀ b ∈ adrL .b xs, b ∈ adrR .o r ∨ b ∈ adrR .b r) → Q (xs.map val) H'
  | .exc C fs ρ' => ∀ F' H' r' dx, Grow F H r F' H' r' → Stt X F' H' r' σ → erR r' = ρ' → XOk X F' H' dx fs → W (.ref (X.ca C)) dx σ H'
def rdA (X : Ctx) (W : WX) (f : Env → R (List D)) (ρ : Env) : TA := fun σ H Q => ∃ F r, Stt X F H r σ ∧ erR r = ρ ∧ PostA X W σ F H r (f ρ) Q
structure CA (ca : Ca) (C : Cx) (W : WX) (es : List Expr) (f : Env → R (List D)) : Prop where
  run : ∀ ρ, PA C es (rdA ⟨C.K, ca.f, ca.fix, ca.cells, ca.known⟩ W f ρ)
theorem PA.mono {C : Cx} {e : List Expr} {t t' : TA} (h : PA C e t) (i : ∀ σ H Q, t' σ H Q → t σ H Q) : PA C e t' := ⟨fun pos pins s σ H Q I q => h.run pos pins s σ H Q I (i σ H Q q)⟩
end Vl
/-! The value layer, 3: expressions; operators. -/
namespace Vl
open PySem PySem.Spec PyProof.Rows L2

theorem pe_false {C : Cx} {e : Expr} : PE C e (fun _ _ _ => False) := ⟨fun _ _ _ _ _ _ h => h.elim⟩
theorem pt_false {C : Cx} {e : Expr} : PT C e (fun _ _ _ => False) := ⟨fun _ _ _ _ _ _ h => h.elim⟩
theorem PT.mono {C : Cx} {e : Expr} {t t' : TT} (h : PT C e t) (i : ∀ σ H Q, t' σ H Q → t σ H Q) : PT C e t' := ⟨fun pins s σ H Q I q => h.run pins s σ H Q I (i σ H Q q)⟩
theorem PW.mono {C : Cx} {e : Expr} {t t' : TT} (h : PW C e t) (i : ∀ σ H Q, t' σ H Q → t σ H Q) : PW C e t' := ⟨fun wh pins s σ H Q I q => h.run wh pins s σ H Q I (i σ H Q q)⟩
abbrev cx (ca : Ca) (C : Cx) : Ctx := ⟨C.K, ca.f, ca.fix, ca.cells, ca.known⟩

section
variable {X : Ctx} {F F' F2 H H' H2 : Hp} {r r2 : AR} {σ : St} {ρ ρ2 : Env} {W : WX}
theorem Stt.grow0 (s : Stt X F H r σ) (same : ∀ a u, H a = some u → H' a = some u) (fs : ∀ a u, F a = some u → F' a = some u) (fr : ∀ a, F a = none → F' a ≠ none → H a = none ∨ a ∉ adrR .o r) (sub : Sub F' H') : Stt X F' H' r σ where
  val := s.val
  ok := fun x hx => (s.ok x hx).same fs same fun a ha => by
    obtain ⟨p, q⟩ := (s.ok x hx).own_there a ha
    cases e : F' a with
    | none => rfl
    | some u =>
      rcases fr a q (by rw [e]; exact fun z => by cases z) with h | h
      · exact absurd h p
      · exact absurd (mem_adrR.mpr ⟨x, hx, ha⟩) h
  nd := s.nd
  bd := s.bd
  sub := sub
  fx := s.fx
  kn := ⟨fun c hc => fs _ _ (s.kn.1 c hc), fun z hz => ⟨(s.kn.2 z hz).1, (s.kn.2 z hz).2.same fs same fun a ha => by rw [cold_own (s.kn.2 z hz).1] at ha; cases ha⟩⟩

/-- what an operation on values owes: from its operands to the value d -/
def LPost (X : Ctx) (F H : Hp) (as : List A) (d : D) (Q : VK) : Prop :=
  ∀ F' H' z, (∀ a u, H a = some u → H' a = some u) → (∀ a u, F a = some u → F' a = some u) → (∀ a, F a = none → F' a ≠ none → H a = none ∨ a ∈ adrL .o as) → Sub F' H' →
    Ok X F' H' z → er z = d → (own z).Nodup → (∀ a ∈ own z, H a = none ∨ a ∈ adrL .o as) → (∀ b ∈ bor z, b ∈ adrL .b as) → Q (val z) H'
theorem fin_leaf {as : List A} {d : D} {Q : VK} (s0 : Stt X F H r σ) (s : Stt X F2 H2 r2 σ) (g : Grow F H r F2 H2 r2) (e : erR r2 = ρ2) (new : ∀ a ∈ adrL .o as, H a = none) (bo : ∀ b ∈ adrL .b as, b ∈ adrR .o r ∨ b ∈ adrR .b r)
    (k : ∀ F' H' r' x, Grow F H r F' H' r' → Stt X F' H' r' σ → erR r' = ρ2 → Ok X F' H' x → er x = d → VOk H r x → Q (val x) H') : LPost X F2 H2 as d Q := fun F' H' z same fs fr sub ok ez nd ow bz =>
  k F' H' r2 z ⟨fun a u q => same a u (g.same a u q), fun a u q => fs a u (g.fs a u q), fun a h h' => (by
      cases q : F2 a with
      | some u => exact g.fr a h (by rw [q]; exact fun z => by cases z)
      | none =>
        rcases fr a q h' with z | z
        · refine .inl ?_
          cases q2 : H a with
          | none => rfl
          | some u => rw [g.same a u q2] at z; cases z
        · exact .inl (new a z)), g.ow, g.bo, g.un⟩ (s.grow0 same fs (fun a h h' => (fr a h h').imp id fun q z => (s0.own_there (g.ow a z)).1 (new a q)) sub) e ok ez ⟨nd, fun a ha => (by
    cases q : H a with
    | none => rfl
    | some u =>
      rcases ow a ha with h | h
      · rw [g.same a u q] at h; cases h
      · rw [new a h] at q; cases q), fun b hb => bo b (bz b hb)⟩
/-- a plain value comes -/
def plain : D → Bool
  | .nd _ _ _ _ => false
  | _ => true
def up : D → A
  | .non => .non
  | .bl b => .bl b
  | .int i => .int i
  | .str x => .str x
  | .nd _ _ _ _ => .non
theorem er_up {d : D} (h : plain d = true) : er (up d) = d := by cases d <;> first | rfl | exact absurd h Bool.false_ne_true
theorem LPost.plain {as : List A} {d : D} {Q : VK} (k : LPost X F H as d Q) (s : Sub F H) (h : plain d = true) : Q (val (up d)) H :=
  k F H (up d) (fun _ _ h => h) (fun _ _ h => h) (fun _ h h' => absurd h h') s (by cases d <;> first | trivial | exact absurd h Bool.false_ne_true) (er_up h) (by cases d <;> exact List.nodup_nil) (by cases d <;> exact fun _ z => (by cases z)) (by cases d <;> exact fun _ z => (by cases z))
/-- a part of an operand comes -/
theorem LPost.part {as : List A} {z : A} {Q : VK} (k : LPost X F H as (er z) Q) (s : Sub F H) (ok : Ok X F H z) (nd : (own z).Nodup) (ho : ∀ a ∈ own z, a ∈ adrL .o as) (hb : ∀ b ∈ bor z, b ∈ adrL .b as) : Q (val z) H :=
  k F H z (fun _ _ h => h) (fun _ _ h => h) (fun _ h h' => absurd h h') s ok rfl nd (fun a ha => .inr (ho a ha)) hb
theorem Sub.upd {p : Addr} {u : HO} (s : Sub F H) (hp : H p = none) : Sub F (upd H p u) := fun a v h => by
  have : a ≠ p := by
    rintro rfl
    rcases s a v h with q | ⟨_, _, _, q⟩ <;> rw [hp] at q <;> cases q
  rw [upd_ne this]
  exact s a v h
theorem Sub.upd2 {p : Addr} {u : HO} (s : Sub F H) (hp : H p = none) : Sub (L2.upd F p u) (L2.upd H p u) := fun a v h => by
  by_cases e : a = p
  · subst e; rw [upd_same] at h ⊢; exact .inl h
  · rw [upd_ne e] at h ⊢; exact s a v h
theorem Sub.free {p : Addr} (s : Sub F H) (hp : H p = none) : F p = none := by
  cases e : F p with
  | none => rfl
  | some v => rcases s p v e with q | ⟨_, _, _, q⟩ <;> rw [hp] at q <;> cases q
theorem same_new {p : Addr} {u : HO} (hp : H p = none) : ∀ a v, H a = some v → upd H p u a = some v := fun a v h => by
  rw [upd_ne (ne_of_none h hp)]; exact h
/-- a new node, owned, with what its kids own -/
theorem LPost.newO {as xs : List A} {k : Kd} {Q : VK} {ds : List D} {p : Addr} (h : LPost X F H as (.nd k .o () ds) Q) (s : Sub F H) (hp : H p = none) (hk : k = .lst ∨ k = .tup ∨ ∃ ks, k = .dct ks) (hsh : shp k xs.length) (ok : OkL X F H xs)
    (e : mapL (fun _ => ()) xs = ds) (hb : allL notB xs = true) (nd : (adrL .o xs).Nodup) (ho : ∀ a ∈ adrL .o xs, a ∈ adrL .o as) : Q (.ref p) (upd H p (cont X.ca k (p, 0) (xs.map val))) := by
  have hn : ndA k (p, 0) = [p] := by rcases hk with rfl | rfl | ⟨_, rfl⟩ <;> rfl
  have hfull : Full X.ca (upd H p (cont X.ca k (p, 0) (xs.map val))) k (p, 0) (xs.map val) := ⟨upd_same, by rcases hk with rfl | rfl | ⟨_, rfl⟩ <;> trivial⟩
  have sm := same_new (H := H) (u := cont X.ca k (p, 0) (xs.map val)) hp
  have hF : F p = none := s.free hp
  refine h F _ (.nd k .o (p, 0) xs) sm (fun _ _ h => h) (fun _ h h' => absurd h h') (s.upd hp) ⟨⟨hsh, hfull, fun q hq => ?_, hb⟩, ok.same (fun _ _ h => h) sm fun a ha => (ok.own_there a ha).2⟩ ?_ ?_ ?_ ?_
  · rw [hn] at hq
    rw [List.mem_singleton.mp hq]; exact hF
  · show T.nd k .o () (mapL (fun _ => ()) xs) = _
    rw [e]
  · show ((if Mk.o = .o then ndA k (p, 0) else []) ++ adrL .o xs).Nodup
    rw [if_pos rfl, hn]
    refine List.nodup_cons.mpr ⟨fun q => ?_, nd⟩
    exact (ok.own_there p q).1 hp
  · intro a ha
    have ha : a ∈ (if Mk.o = .o then ndA k (p, 0) else []) ++ adrL .o xs := ha
    rw [if_pos rfl, hn] at ha
    rcases List.mem_append.mp ha with ha | ha
    · rw [List.mem_singleton.mp ha]; exact .inl hp
    · exact .inr (ho a ha)
  · intro b hb'
    have hb' : b ∈ (if Mk.o = .b then ndA k (p, 0) else []) ++ adrL .b xs := hb'
    rw [if_neg (by decide), adrL_nil (p := notB) rfl hb] at hb'
    cases hb'
end

/-! a new node, its kids settled; owned, or settled too -/
section
variable {X : Ctx} {F H : Hp}
theorem LPost.new {as xs : List A} {k : Kd} {m : Mk} {Q : VK} {ds : List D} {p : Addr} (h : LPost X F H as (.nd k m () ds) Q) (hm : m = .o ∨ m = .c) (s : Sub F H) (hp : H p = none) (hk : k = .lst ∨ k = .tup ∨ ∃ ks, k = .dct ks) (hsh : shp k xs.length) (ok : OkL X F H xs)
    (e : mkL calm (mapL (fun _ => ()) xs) = ds) (hb : allL notB xs = true) (ho : ∀ a ∈ adrL .o xs, a ∈ adrL .o as) : Q (.ref p) (upd H p (cont X.ca k (p, 0) (xs.map val))) := by
  have hn : ndA k (p, 0) = [p] := by rcases hk with rfl | rfl | ⟨_, rfl⟩ <;> rfl
  have sm := same_new (H := H) (u := cont X.ca k (p, 0) (xs.map val)) hp
  have hF : F p = none := s.free hp
  have np : ∀ a ∈ adrL .o xs, a ≠ p := fun a ha z => (ok.own_there a ha).1 (by rw [z]; exact hp)
  have hfull : Full X.ca (upd H p (cont X.ca k (p, 0) (xs.map val))) k (p, 0) ((mkL calm xs).map val) := ⟨by rw [valL_mk]; exact upd_same, by rcases hk with rfl | rfl | ⟨_, rfl⟩ <;> trivial⟩
  have hshp : shp k (mkL calm xs).length := by rw [mkL_len]; exact hsh
  have ez : er (.nd k m (p, 0) (mkL calm xs)) = .nd k m () ds := by
    show T.nd k m () (mapL (fun _ => ()) (mkL calm xs)) = _
    rw [mapL_mkL, e]
  have cold := fzL_cold xs
  have fsub : ∀ a u, frz F H (adrL .o xs) a = some u → H a = some u ∨ ∃ ob kvs, u = .dK kvs ∧ H a = some (.frz ob u) := fun a u q => by
    by_cases ha : a ∈ adrL .o xs
    · rw [frz_in ha] at q; exact .inl q
    · rw [frz_out ha] at q; exact s a u q
  have ff : ∀ a u, F a = some u → frz F H (adrL .o xs) a = some u := fun a u q => by
    rw [frz_out (fun ha => by rw [(ok.own_there a ha).2] at q; cases q)]; exact q
  have hbor : bor (.nd k m (p, 0) (mkL calm xs)) = [] := by
    show (if m = .b then ndA k (p, 0) else []) ++ adrL .b (mkL calm xs) = []
    rw [if_neg (by rcases hm with rfl | rfl <;> decide), adrL_nil (p := isC) rfl cold]
    rfl
  rcases hm with rfl | rfl
  · refine h (frz F H (adrL .o xs)) _ (.nd k .o (p, 0) (mkL calm xs)) sm ff (fun a q q' => ?_) (Sub.upd fsub hp) ⟨⟨hshp, hfull, fun q hq => ?_, allL_imp (fun m hm => by cases m <;> first | rfl | exact absurd hm Bool.false_ne_true) cold⟩, ok.fz hb ff fun a ha => ?_⟩ ez ?_ ?_ (by rw [hbor]; exact fun _ z => by cases z)
    · by_cases ha : a ∈ adrL .o xs
      · exact .inr (ho a ha)
      · rw [frz_out ha] at q'; exact absurd q q'
    · rw [hn] at hq
      rw [List.mem_singleton.mp hq, frz_out (fun z => np p z rfl)]; exact hF
    · rw [frz_in ha]
    · show ((if Mk.o = .o then ndA k (p, 0) else []) ++ adrL .o (mkL calm xs)).Nodup
      rw [if_pos rfl, hn, adrL_nil (p := isC) rfl cold]
      exact List.nodup_cons.mpr ⟨by simp, List.nodup_nil⟩
    · intro a ha
      have ha : a ∈ (if Mk.o = .o then ndA k (p, 0) else []) ++ adrL .o (mkL calm xs) := ha
      rw [if_pos rfl, hn, adrL_nil (p := isC) rfl cold, List.append_nil] at ha
      rw [List.mem_singleton.mp ha]; exact .inl hp
  · have ff2 : ∀ a u, F a = some u → upd (frz F H (adrL .o xs)) p (cont X.ca k (p, 0) (xs.map val)) a = some u := fun a u q => by
      rw [upd_ne (ne_of_none q hF)]; exact ff a u q
    refine h (upd (frz F H (adrL .o xs)) p (cont X.ca k (p, 0) (xs.map val))) _ (.nd k .c (p, 0) (mkL calm xs)) sm ff2 (fun a q q' => ?_) (Sub.upd2 fsub hp) ⟨⟨hshp, ?_, cold⟩, ok.fz hb ff2 fun a ha => ?_⟩ ez ?_ ?_ (by rw [hbor]; exact fun _ z => by cases z)
    · by_cases e1 : a = p
      · rw [e1]; exact .inl hp
      · rw [upd_ne e1] at q'
        by_cases ha : a ∈ adrL .o xs
        · exact .inr (ho a ha)
        · rw [frz_out ha] at q'; exact absurd q q'
    · exact Full.at_ ⟨by rw [valL_mk]; exact upd_same, by rcases hk with rfl | rfl | ⟨_, rfl⟩ <;> trivial⟩
    · rw [upd_ne (np a ha), frz_in ha]
    · show ((if Mk.c = .o then ndA k (p, 0) else []) ++ adrL .o (mkL calm xs)).Nodup
      rw [if_neg (by decide), adrL_nil (p := isC) rfl cold]
      exact List.nodup_nil
    · intro a ha
      have ha : a ∈ (if Mk.c = .o then ndA k (p, 0) else []) ++ adrL .o (mkL calm xs) := ha
      rw [if_neg (by decide), adrL_nil (p := isC) rfl cold] at ha
      cases ha
end

/-! ### names, constants -/
/-- a place: a slot, and the way down from its node -/
def getT {α : Type} : T α → List Nat → Option (T α)
  | t, [] => some t
  | .nd _ _ _ xs, i :: p => match xs[i]? with
    | some x => getT x p
    | none => none
  | _, _ :: _ => none
abbrev Pv := Env → R (Nat × List Nat)
def getR (ρ : Env) (i : Nat) (p : List Nat) : Option D := match ρ[i]? with
  | some (some d) => getT d p
  | _ => none
def E.c (d : D) : Ev := fun ρ => .ok d ρ
def P.var (i : Nat) : Pv := fun ρ => match ρ[i]? with
  | some (some _) => .ok (i, []) ρ
  | _ => .bad
def E.at (p : Pv) : Ev := fun ρ => (p ρ).bind fun q ρ1 => match getR ρ1 q.1 q.2 with
  | some d => .ok d.vw ρ1
  | none => .bad
def E.bin (g : D → D → Option D) (f f' : Ev) : Ev := fun ρ => (f ρ).bind fun d1 ρ1 => (f' ρ1).bind fun d2 ρ2 => R.of (g d1 d2) ρ2
def E.un (g : D → Option D) (f : Ev) : Ev := fun ρ => (f ρ).bind fun d1 ρ1 => R.of (g d1) ρ1
def E.args (g : List D → Option D) (f : Env → R (List D)) : Ev := fun ρ => (f ρ).bind fun ds ρ1 => R.of (g ds) ρ1
def E.nil : Env → R (List D) := fun ρ => .ok [] ρ
def E.cons (f : Ev) (g : Env → R (List D)) : Env → R (List D) := fun ρ => (f ρ).bind fun d ρ1 => (g ρ1).bind fun ds ρ2 => .ok (d :: ds) ρ2

/-- what an operation on two values is worth -/
def Op2 (X : Ctx) (OK : R2 → Prop) (g : D → D → Option D) : Prop := ∀ d1 d2 d, g d1 d2 = some d → ∃ r2 : R2, OK r2 ∧ ∀ F H x y Q, Sub F H → Ok X F H x → Ok X F H y → (own x ++ own y).Nodup → er x = d1 → er y = d2 → LPost X F H [x, y] d Q → r2 (val x) (val y) H Q
def Op1 (X : Ctx) (OK : (V → Hp → VK → Prop) → Prop) (g : D → Option D) : Prop := ∀ d1 d, g d1 = some d → ∃ r : V → Hp → VK → Prop, OK r ∧ ∀ F H x Q, Sub F H → Ok X F H x → (own x).Nodup → er x = d1 → LPost X F H [x] d Q → r (val x) H Q
def OpN (X : Ctx) (OK : (List V → Hp → VK → Prop) → Prop) (g : List D → Option D) : Prop := ∀ ds d, g ds = some d → ∃ r : List V → Hp → VK → Prop, OK r ∧ ∀ F H xs Q, Sub F H → OkL X F H xs → (adrL .o xs).Nodup → xs.map er = ds → LPost X F H xs d Q → r (xs.map val) H Q

section
variable {ca : Ca} {C : Cx} {W : WX} {e a b : Expr} {f f' : Ev} {ρ : Env}
theorem adrL_one (q : Mk) (x : A) : adrL q [x] = adr q x := by rw [adrL, adrL, List.append_nil]
theorem adrL_two (q : Mk) (x y : A) : adrL q [x, y] = adr q x ++ adr q y := by rw [adrL, adrL_one]
/-- two operands, then an operation: what the whole's reading gives -/
theorem two_imp {OK : R2 → Prop} {g : D → D → Option D} (h0 : OK fun _ _ _ _ => False) (h : Op2 (cx ca C) OK g) (ha : CE ca C W a f) (hb : CE ca C W b f') (ρ : Env) :
    ∃ ta tb r, PE C a ta ∧ PE C b tb ∧ OK r ∧ ∀ σ H Q, rdE (cx ca C) W (E.bin g f f') ρ σ H Q → tOp r ta tb σ H Q := by
  cases hf : f ρ with
  | bad =>
    refine ⟨_, _, _, pe_false, pe_false, h0, fun σ H Q ⟨F, r, s, e, p⟩ => ?_⟩
    unfold E.bin at p; rw [hf] at p; exact p
  | exc c fs ρ1 =>
    refine ⟨_, _, _, ha.run ρ, pe_false, h0, fun σ H Q ⟨F, r, s, e, p⟩ => ⟨F, r, s, e, ?_⟩⟩
    unfold E.bin at p; rw [hf] at p ⊢; exact p
  | ok d1 ρ1 =>
    cases hg : f' ρ1 with
    | bad =>
      refine ⟨_, _, _, pe_false, pe_false, h0, fun σ H Q ⟨F, r, s, e, p⟩ => ?_⟩
      unfold E.bin at p; rw [hf, R.ok_bind, hg] at p; exact p
    | exc c fs ρ2 =>
      refine ⟨_, _, _, ha.run ρ, hb.run ρ1, h0, fun σ H Q ⟨F, r, s, e, p⟩ => ⟨F, r, s, e, ?_⟩⟩
      unfold E.bin at p; rw [hf, R.ok_bind, hg] at p
      rw [hf]
      intro F1 H1 r1 x g1 s1 e1 _ _ _
      refine ⟨F1, r1, s1, e1, ?_⟩
      rw [hg]
      intro F2 H2 r2 dx g2 s2 e2 x2
      exact p F2 H2 r2 dx (g1.trans s1 g2) s2 e2 x2
    | ok d2 ρ2 =>
      cases hd : g d1 d2 with
      | none =>
        refine ⟨_, _, _, pe_false, pe_false, h0, fun σ H Q ⟨F, r, s, e, p⟩ => ?_⟩
        unfold E.bin at p; rw [hf, R.ok_bind, hg, R.ok_bind, hd] at p; exact p
      | some d =>
        obtain ⟨r2, ho, hr⟩ := h d1 d2 d hd
        refine ⟨_, _, r2, ha.run ρ, hb.run ρ1, ho, fun σ H Q ⟨F, r, s, e, p⟩ => ⟨F, r, s, e, ?_⟩⟩
        unfold E.bin at p; rw [hf, R.ok_bind, hg, R.ok_bind, hd] at p
        rw [hf]
        intro F1 H1 r1 x g1 s1 e1 ok1 ex1 v1
        refine ⟨F1, r1, s1, e1, ?_⟩
        rw [hg]
        intro F2 H2 r2 y g2 s2 e2 ok2 ex2 v2
        have n1 : ∀ a ∈ own x, a ∉ adrR .o r1 := fun a ha hr1 => (s.own_there (g1.ow a hr1)).1 (v1.new a ha)
        have n2 := v2.back g1
        refine hr F2 H2 x y Q s2.sub (ok1.grow s1 n1 g2) ok2 (List.nodup_append.mpr ⟨v1.nd, v2.nd, fun p hp q hq e => ?_⟩) ex1 ex2 (fin_leaf s s2 (g1.trans s1 g2) e2 ?_ ?_ p)
        · subst e
          exact (ok1.own_there p hp).1 (v2.new p hq)
        · intro a ha
          rw [adrL_two] at ha
          exact (List.mem_append.mp ha).elim (v1.new a) (n2.new a)
        · intro b hb
          rw [adrL_two] at hb
          exact (List.mem_append.mp hb).elim (v1.bo b) (n2.bo b)
theorem one_imp {OK : (V → Hp → VK → Prop) → Prop} {g : D → Option D} (h0 : OK fun _ _ _ => False) (h : Op1 (cx ca C) OK g) (ha : CE ca C W a f) (ρ : Env) :
    ∃ ta r, PE C a ta ∧ OK r ∧ ∀ σ H Q, rdE (cx ca C) W (E.un g f) ρ σ H Q → tUn r ta σ H Q := by
  cases hf : f ρ with
  | bad =>
    refine ⟨_, _, pe_false, h0, fun σ H Q ⟨F, r, s, e, p⟩ => ?_⟩
    unfold E.un at p; rw [hf] at p; exact p
  | exc c fs ρ1 =>
    refine ⟨_, _, ha.run ρ, h0, fun σ H Q ⟨F, r, s, e, p⟩ => ⟨F, r, s, e, ?_⟩⟩
    unfold E.un at p; rw [hf] at p ⊢; exact p
  | ok d1 ρ1 =>
    cases hd : g d1 with
    | none =>
      refine ⟨_, _, pe_false, h0, fun σ H Q ⟨F, r, s, e, p⟩ => ?_⟩
      unfold E.un at p; rw [hf, R.ok_bind, hd] at p; exact p
    | some d =>
      obtain ⟨r2, ho, hr⟩ := h d1 d hd
      refine ⟨_, r2, ha.run ρ, ho, fun σ H Q ⟨F, r, s, e, p⟩ => ⟨F, r, s, e, ?_⟩⟩
      unfold E.un at p; rw [hf, R.ok_bind, hd] at p
      rw [hf]
      intro F1 H1 r1 x g1 s1 e1 ok1 ex1 v1
      refine hr F1 H1 x Q s1.sub ok1 v1.nd ex1 (fin_leaf s s1 g1 e1 ?_ ?_ p)
      · intro a ha; rw [adrL_one] at ha; exact v1.new a ha
      · intro b hb; rw [adrL_one] at hb; exact v1.bo b hb
theorem args_imp {es : List Expr} {fa : Env → R (List D)} {OK : (List V → Hp → VK → Prop) → Prop} {g : List D → Option D} (h0 : OK fun _ _ _ => False) (h : OpN (cx ca C) OK g) (ha : CA ca C W es fa) (ρ : Env) :
    ∃ ta r, PA C es ta ∧ OK r ∧ ∀ σ H Q, rdE (cx ca C) W (E.args g fa) ρ σ H Q → tCB r ta σ H Q := by
  cases hf : fa ρ with
  | bad =>
    refine ⟨_, _, ha.run ρ, h0, fun σ H Q ⟨F, r, s, e, p⟩ => ?_⟩
    unfold E.args at p; rw [hf] at p; exact p.elim
  | exc c fs ρ1 =>
    refine ⟨_, _, ha.run ρ, h0, fun σ H Q ⟨F, r, s, e, p⟩ => ⟨F, r, s, e, ?_⟩⟩
    unfold E.args at p; rw [hf] at p ⊢; exact p
  | ok ds ρ1 =>
    cases hd : g ds with
    | none =>
      refine ⟨_, _, ha.run ρ, h0, fun σ H Q ⟨F, r, s, e, p⟩ => ?_⟩
      unfold E.args at p; rw [hf, R.ok_bind, hd] at p; exact p.elim
    | some d =>
      obtain ⟨r2, ho, hr⟩ := h ds d hd
      refine ⟨_, r2, ha.run ρ, ho, fun σ H Q ⟨F, r, s, e, p⟩ => ⟨F, r, s, e, ?_⟩⟩
      unfold E.args at p; rw [hf, R.ok_bind, hd] at p
      rw [hf]
      intro F1 H1 r1 xs g1 s1 e1 ok1 ex1 nd new bo
      exact hr F1 H1 xs Q s1.sub ok1 nd ex1 (fin_leaf s s1 g1 e1 new bo p)
theorem ca_nil : CA ca C W [] E.nil := ⟨fun ρ => PA.mono pa_nil fun σ H Q ⟨F, r, s, e, p⟩ =>
  p F H r [] .refl s e trivial rfl List.nodup_nil (fun _ z => by cases z) (fun _ z => by cases z)⟩
theorem ca_cons {es : List Expr} {fa : Env → R (List D)} (ha : CE ca C W e f) (hr : CA ca C W es fa) (hs : starEach (e :: es) C.env = (false, eval e C.env) :: starEach es C.env := by rfl) : CA ca C W (e :: es) (E.cons f fa) := by
  refine ⟨fun ρ => ?_⟩
  cases hf : f ρ with
  | bad =>
    refine PA.mono (pa_cons (ha.run ρ) (hr.run ρ) hs) fun σ H Q ⟨F, r, s, e, p⟩ => ?_
    unfold E.cons at p; rw [hf] at p; exact p.elim
  | exc c fs ρ1 =>
    refine PA.mono (pa_cons (ha.run ρ) (hr.run ρ) hs) fun σ H Q ⟨F, r, s, e, p⟩ => ⟨F, r, s, e, ?_⟩
    unfold E.cons at p; rw [hf] at p ⊢; exact p
  | ok d ρ1 =>
    refine PA.mono (pa_cons (ha.run ρ) (hr.run ρ1) hs) fun σ H Q ⟨F, r, s, e, p⟩ => ⟨F, r, s, e, ?_⟩
    unfold E.cons at p; rw [hf, R.ok_bind] at p
    rw [hf]
    intro F1 H1 r1 x g1 s1 e1 ok1 ex1 v1
    refine ⟨F1, r1, s1, e1, ?_⟩
    cases hg : fa ρ1 with
    | bad => rw [hg] at p; exact p.elim
    | exc c fs ρ2 =>
      rw [hg] at p
      intro F2 H2 r2 dx g2 s2 e2 x2
      exact p F2 H2 r2 dx (g1.trans s1 g2) s2 e2 x2
    | ok ds ρ2 =>
      rw [hg] at p
      intro F2 H2 r2 xs g2 s2 e2 ok2 ex2 nd2 new2 bo2
      have n1 : ∀ a ∈ own x, a ∉ adrR .o r1 := fun a ha hr1 => (s.own_there (g1.ow a hr1)).1 (v1.new a ha)
      refine p F2 H2 r2 (x :: xs) (g1.trans s1 g2) s2 e2 ⟨ok1.grow s1 n1 g2, ok2⟩ (by rw [List.map_cons, ex1, ex2]) (List.nodup_append.mpr ⟨v1.nd, nd2, fun p hp q hq e => ?_⟩) (fun a ha => ?_) (fun b hb => ?_)
      · subst e
        exact (ok1.own_there p hp).1 (new2 p hq)
      · rcases List.mem_append.mp ha with h | h
        · exact v1.new a h
        · cases e : H a with
          | none => rfl
          | some u => have := new2 a h; rw [g1.same a u e] at this; cases this
      · rcases List.mem_append.mp hb with h | h
        · exact v1.bo b h
        · exact (bo2 b h).imp (g1.ow b) (g1.bo b).mp
theorem ce_const {d : D} (h : plain d = true) (hp : PE C e (tC (val (up d)))) : CE ca C W e (E.c d) := ⟨fun ρ => PE.mono hp fun σ H Q ⟨F, r, s, e, p⟩ =>
  p F H r (up d) .refl s e (by cases d <;> first | trivial | exact absurd h Bool.false_ne_true) (er_up h) ⟨by cases d <;> exact List.nodup_nil, by cases d <;> exact fun _ z => (by cases z), by cases d <;> exact fun _ z => (by cases z)⟩⟩
end
end Vl
/-! The value layer, 4: operations on values. -/
namespace Vl
open PySem PySem.Spec PyProof.Rows L2

section
variable {α β : Type}
theorem er_nd {x : A} {k : Kd} {m : Mk} {ds : List D} (h : er x = .nd k m () ds) : ∃ a xs, x = .nd k m a xs ∧ mapL (fun _ => ()) xs = ds := by
  cases x with
  | nd k' m' a xs =>
    have h : T.nd k' m' () (mapL (fun _ => ()) xs) = T.nd k m () ds := h
    injection h with h1 h2 h3 h4
    exact ⟨a, xs, by rw [h1, h2], h4⟩
  | _ => cases h
theorem er_int {x : A} {i : Int} (h : er x = .int i) : x = .int i := by
  cases x with
  | int j => have h : T.int j = T.int i := h; injection h with h; rw [h]
  | _ => cases h
theorem er_str {x : A} {z : Str} (h : er x = .str z) : x = .str z := by
  cases x with
  | str j => have h : T.str j = T.str z := h; injection h with h; rw [h]
  | _ => cases h
theorem er_bl {x : A} {b : Bool} (h : er x = .bl b) : x = .bl b := by
  cases x with
  | bl j => have h : T.bl j = T.bl b := h; injection h with h; rw [h]
  | _ => cases h
theorem er_non {x : A} (h : er x = .non) : x = .non := by
  cases x with
  | non => rfl
  | _ => cases h
theorem er_plain {x : A} (h : plain (er x) = true) : x = up (er x) := by
  cases x <;> first | rfl | exact absurd h Bool.false_ne_true
theorem mapL_len (f : α → β) (xs : List (T α)) : (mapL f xs).length = xs.length := by rw [mapL_eq, List.length_map]
theorem mapL_append (f : α → β) (xs ys : List (T α)) : mapL f (xs ++ ys) = mapL f xs ++ mapL f ys := by rw [mapL_eq, mapL_eq, mapL_eq, List.map_append]
theorem allL_append (p : Mk → Bool) (xs ys : List (T α)) : allL p (xs ++ ys) = (allL p xs && allL p ys) := by rw [allL_eq, allL_eq, allL_eq, List.all_append]
end
theorem Ok.at_ {X : Ctx} {F H : Hp} {k : Kd} {m : Mk} {a : AA} {xs : List A} (h : Ok X F H (.nd k m a xs)) (s : Sub F H) : At X.K X.ca H k a (xs.map val) := by
  obtain ⟨⟨_, n⟩, _⟩ := h
  cases m with
  | c => exact s.at_ n.1
  | o => exact n.1.at_
  | b => exact n.1
theorem Ok.kids {X : Ctx} {F H : Hp} {k : Kd} {m : Mk} {a : AA} {xs : List A} (h : Ok X F H (.nd k m a xs)) : OkL X F H xs := h.2
theorem Ok.shp {X : Ctx} {F H : Hp} {k : Kd} {m : Mk} {a : AA} {xs : List A} (h : Ok X F H (.nd k m a xs)) : shp k xs.length := h.1.1
theorem OkL.append {X : Ctx} {F H : Hp} {xs ys : List A} (h : OkL X F H xs) (h' : OkL X F H ys) : OkL X F H (xs ++ ys) := OkL_iff.mpr fun x hx => (List.mem_append.mp hx).elim (OkL_iff.mp h x) (OkL_iff.mp h' x)
theorem OkL.sub {X : Ctx} {F H : Hp} {xs ys : List A} (h : OkL X F H xs) (hs : ∀ x ∈ ys, x ∈ xs) : OkL X F H ys := OkL_iff.mpr fun x hx => OkL_iff.mp h x (hs x hx)
theorem allL_sub {α : Type} {p : Mk → Bool} {xs ys : List (T α)} (h : allL p xs = true) (hs : ∀ x ∈ ys, x ∈ xs) : allL p ys = true := by
  rw [allL_eq, List.all_eq_true] at h ⊢
  exact fun x hx => h x (hs x hx)
theorem allC_notB {α : Type} {xs : List (T α)} (h : allL isC xs = true) : allL notB xs = true := allL_imp (fun m hm => by cases m <;> first | rfl | exact absurd hm Bool.false_ne_true) h
theorem adrL_mem {q : Mk} {xs : List A} {x : A} (h : x ∈ xs) {a : Addr} (ha : a ∈ adr q x) : a ∈ adrL q xs := by
  rw [adrL_eq]; exact List.mem_flatMap.mpr ⟨x, h, ha⟩
theorem adr_nd_kids {q : Mk} {k : Kd} {m : Mk} {a : AA} {xs : List A} {p : Addr} (h : p ∈ adrL q xs) : p ∈ adr q (.nd k m a xs) := List.mem_append_right _ h
theorem nodup_of_mem {q : Mk} : ∀ {xs : List A} {x : A}, (adrL q xs).Nodup → x ∈ xs → (adr q x).Nodup
  | y :: ys, x, h, hx => by
    rw [adrL] at h
    rcases List.mem_cons.mp hx with rfl | hx
    · exact (List.nodup_append.mp h).1
    · exact nodup_of_mem (List.nodup_append.mp h).2.1 hx
theorem nodup_kids {q : Mk} {k : Kd} {m : Mk} {a : AA} {xs : List A} (h : (adr q (.nd k m a xs)).Nodup) : (adrL q xs).Nodup := (List.nodup_append.mp h).2.1
/-- a part of a tree comes -/
theorem LPost.kid {X : Ctx} {F H : Hp} {as : List A} {k : Kd} {m : Mk} {a : AA} {xs : List A} {z : A} {Q : VK} (h : LPost X F H as (er z) Q) (s : Sub F H) (ok : Ok X F H (.nd k m a xs)) (nd : (own (.nd k m a xs)).Nodup) (hz : z ∈ xs)
    (hx : T.nd k m a xs ∈ as) : Q (val z) H :=
  h.part s (OkL_iff.mp ok.kids z hz) (nodup_of_mem (nodup_kids nd) hz) (fun p hp => adrL_mem hx (adr_nd_kids (adrL_mem hz hp))) fun p hp => adrL_mem hx (adr_nd_kids (adrL_mem hz hp))

/-! ### arithmetic -/
def D.add : D → D → Option D
  | .int i, .int j => some (.int (i + j))
  | .int i, .bl k => some (.int (i + b2i k))
  | .str x, .str y => if x.length + y.length ≤ sizeLine then some (.str (x ++ y)) else none
  | .nd .lst _ _ xs, .nd .lst _ _ ys => if allL isC xs = true ∧ allL isC ys = true ∧ xs.length + ys.length ≤ sizeLine then some (.nd .lst .o () (xs ++ ys)) else none
  | .nd .tup _ _ xs, .nd .tup _ _ ys => if allL isC xs = true ∧ allL isC ys = true ∧ xs.length + ys.length ≤ sizeLine ∧ xs ≠ [] ∧ ys ≠ [] then some (.nd .tup .c () (xs ++ ys)) else none
  | _, _ => none
def D.sub : D → D → Option D
  | .int i, .int j => some (.int (i - j))
  | _, _ => none
def okMul (i j : Int) : Bool := decide ((-(2 ^ 64) < i ∧ i < 2 ^ 64) ∨ (-(2 ^ 64) < j ∧ j < 2 ^ 64))
def D.mul : D → D → Option D
  | .int i, .int j => if okMul i j = true then some (.int (i * j)) else none
  | _, _ => none
def D.mod : D → D → Option D
  | .int i, .int j => if 0 < j then some (.int (i % j)) else none
  | _, _ => none
def D.fdiv : D → D → Option D
  | .int i, .int j => if 0 < j ∧ j < 1073741824 then some (.int (i / j)) else none
  | _, _ => none
def D.pow : D → D → Option D
  | .int i, .int j => if 0 ≤ j ∧ j ≤ 1000000 ∧ i.natAbs < 2 ^ 64 then some (.int (i ^ j.toNat)) else none
  | _, _ => none
def D.neg : D → Option D
  | .int i => some (.int (-i))
  | _ => none
section
variable {ca : Ca} {C : Cx}
theorem opR_false {f : Value → Value → Sem Value} : OpR C f fun _ _ _ _ => False := fun _ _ _ _ _ _ _ _ _ _ _ _ h => h.elim
theorem un_false {f : Value → Sem Value} : UnR C f fun _ _ _ => False := fun _ _ _ _ _ _ _ _ _ h => h.elim
theorem callR_false {f : Value} : CallR C f fun _ _ _ => False := fun _ _ _ _ _ _ _ _ _ h => h.elim
theorem op2_add : Op2 (cx ca C) (OpR C (binaryOp .Add)) D.add := by
  intro d1 d2 d h
  unfold D.add at h
  split at h
  · cases h
    refine ⟨_, op_add, fun F H x y Q s _ _ _ e1 e2 k => ?_⟩
    rw [er_int e1, er_int e2]
    exact ⟨_, _, rfl, rfl, k.plain s rfl⟩
  · cases h
    refine ⟨_, op_add_ib, fun F H x y Q s _ _ _ e1 e2 k => ?_⟩
    rw [er_int e1, er_bl e2]
    exact ⟨_, _, rfl, rfl, k.plain s rfl⟩
  · split at h
    · rename_i hz
      cases h
      refine ⟨_, op_add_str, fun F H x y Q s _ _ _ e1 e2 k => ?_⟩
      rw [er_str e1, er_str e2]
      exact ⟨_, _, rfl, rfl, hz, k.plain s rfl⟩
    · cases h
  · split at h
    · rename_i hz
      cases h
      refine ⟨_, op_cat, fun F H x y Q s ok1 ok2 _ e1 e2 k => ?_⟩
      obtain ⟨a, xs, rfl, ex⟩ := er_nd e1
      obtain ⟨b, ys, rfl, ey⟩ := er_nd e2
      rw [← ex, ← ey, allL_mapL, allL_mapL, mapL_len, mapL_len] at hz
      have c := (allL_append isC xs ys).trans (by rw [hz.1, hz.2.1]; try rfl)
      refine ⟨_, _, _, _, rfl, rfl, ok1.at_ s, ok2.at_ s, by rw [List.length_map, List.length_map]; exact hz.2.2, fun p hp => ?_⟩
      have := k.new (p := p) (xs := xs ++ ys) (.inl rfl) s hp (.inl rfl) trivial (ok1.kids.append ok2.kids) (by rw [← mapL_mkL, mkL_cold rfl c, mapL_append, ex, ey]) (allC_notB c) (by rw [adrL_nil rfl c]; exact fun _ z => by cases z)
      rw [List.map_append] at this
      exact this
    · cases h
  · split at h
    · rename_i hz
      cases h
      refine ⟨_, op_catT, fun F H x y Q s ok1 ok2 _ e1 e2 k => ?_⟩
      obtain ⟨a, xs, rfl, ex⟩ := er_nd e1
      obtain ⟨b, ys, rfl, ey⟩ := er_nd e2
      rw [← ex, ← ey, allL_mapL, allL_mapL, mapL_len, mapL_len] at hz
      have c := (allL_append isC xs ys).trans (by rw [hz.1, hz.2.1]; try rfl)
      have nx : xs ≠ [] := fun z => hz.2.2.2.1 (by rw [z]; rfl)
      have ny : ys ≠ [] := fun z => hz.2.2.2.2 (by rw [z]; rfl)
      refine ⟨_, _, _, _, rfl, rfl, ok1.at_ s, ok2.at_ s, fun z => nx (List.map_eq_nil_iff.mp z), by rw [List.length_map, List.length_map]; exact hz.2.2.1, fun z => absurd (List.map_eq_nil_iff.mp z) ny, fun _ p hp => ?_⟩
      have := k.new (p := p) (xs := xs ++ ys) (.inr rfl) s hp (.inr (.inl rfl)) trivial (ok1.kids.append ok2.kids) (by rw [← mapL_mkL, mkL_cold rfl c, mapL_append, ex, ey]) (allC_notB c) (by rw [adrL_nil rfl c]; exact fun _ z => by cases z)
      rw [List.map_append] at this
      exact this
    · cases h
  · cases h
theorem op2_sub : Op2 (cx ca C) (OpR C (binaryOp .Sub)) D.sub := by
  intro d1 d2 d h
  unfold D.sub at h
  split at h
  · cases h
    refine ⟨_, op_sub, fun F H x y Q s _ _ _ e1 e2 k => ?_⟩
    rw [er_int e1, er_int e2]
    exact ⟨_, _, rfl, rfl, k.plain s rfl⟩
  · cases h
theorem op2_mul : Op2 (cx ca C) (OpR C (binaryOp .Mult)) D.mul := by
  intro d1 d2 d h
  unfold D.mul at h
  split at h
  · split at h
    · rename_i hz
      cases h
      unfold okMul at hz
      have hz := of_decide_eq_true hz
      refine ⟨_, op_mul, fun F H x y Q s _ _ _ e1 e2 k => ?_⟩
      rw [er_int e1, er_int e2]
      exact ⟨_, _, rfl, rfl, hz, k.plain s rfl⟩
    · cases h
  · cases h
theorem op2_mod : Op2 (cx ca C) (OpR C (binaryOp .Mod)) D.mod := by
  intro d1 d2 d h
  unfold D.mod at h
  split at h
  · split at h
    · rename_i hz
      cases h
      refine ⟨_, op_mod, fun F H x y Q s _ _ _ e1 e2 k => ?_⟩
      rw [er_int e1, er_int e2]
      exact ⟨_, _, rfl, rfl, hz, k.plain s rfl⟩
    · cases h
  · cases h
theorem op2_fdiv : Op2 (cx ca C) (OpR C (binaryOp .FloorDiv)) D.fdiv := by
  intro d1 d2 d h
  unfold D.fdiv at h
  split at h
  · split at h
    · rename_i hz
      cases h
      refine ⟨_, op_fdiv, fun F H x y Q s _ _ _ e1 e2 k => ?_⟩
      rw [er_int e1, er_int e2]
      exact ⟨_, _, rfl, rfl, hz, k.plain s rfl⟩
    · cases h
  · cases h
theorem op2_pow : Op2 (cx ca C) (OpR C (binaryOp .Pow)) D.pow := by
  intro d1 d2 d h
  unfold D.pow at h
  split at h
  · split at h
    · rename_i hz
      cases h
      refine ⟨_, op_pow, fun F H x y Q s _ _ _ e1 e2 k => ?_⟩
      rw [er_int e1, er_int e2]
      exact ⟨_, _, rfl, rfl, hz, k.plain s rfl⟩
    · cases h
  · cases h
theorem op1_neg : Op1 (cx ca C) (UnR C (unaryOp .USub)) D.neg := by
  intro d1 d h
  unfold D.neg at h
  split at h
  · cases h
    refine ⟨_, un_neg, fun F H x Q s _ _ e1 k => ?_⟩
    rw [er_int e1]
    exact ⟨_, rfl, k.plain s rfl⟩
  · cases h
variable {W : WX} {a b : Expr} {f f' : Ev} {pos : Pos}
theorem ce_op {op : Operator} {g : D → D → Option D} (h : Op2 (cx ca C) (OpR C (binaryOp op)) g) (ha : CE ca C W a f) (hb : CE ca C W b f') : CE ca C W (.BinOp a op b pos) (E.bin g f f') := ⟨fun ρ => by
  obtain ⟨ta, tb, r, pa, pb, ok, i⟩ := two_imp opR_false h ha hb ρ
  exact PE.mono (pe_op ok pa pb) i⟩
theorem ce_add (ha : CE ca C W a f) (hb : CE ca C W b f') : CE ca C W (.BinOp a .Add b pos) (E.bin D.add f f') := ce_op op2_add ha hb
theorem ce_sub (ha : CE ca C W a f) (hb : CE ca C W b f') : CE ca C W (.BinOp a .Sub b pos) (E.bin D.sub f f') := ce_op op2_sub ha hb
theorem ce_mul (ha : CE ca C W a f) (hb : CE ca C W b f') : CE ca C W (.BinOp a .Mult b pos) (E.bin D.mul f f') := ce_op op2_mul ha hb
theorem ce_mod (ha : CE ca C W a f) (hb : CE ca C W b f') : CE ca C W (.BinOp a .Mod b pos) (E.bin D.mod f f') := ce_op op2_mod ha hb
theorem ce_fdiv (ha : CE ca C W a f) (hb : CE ca C W b f') : CE ca C W (.BinOp a .FloorDiv b pos) (E.bin D.fdiv f f') := ce_op op2_fdiv ha hb
theorem ce_pow (ha : CE ca C W a f) (hb : CE ca C W b f') : CE ca C W (.BinOp a .Pow b pos) (E.bin D.pow f f') := ce_op op2_pow ha hb
theorem ce_neg (ha : CE ca C W a f) : CE ca C W (.UnaryOp .USub a pos) (E.un D.neg f) := ⟨fun ρ => by
  obtain ⟨ta, r, pa, ok, i⟩ := one_imp un_false op1_neg ha ρ
  exact PE.mono (pe_un ok pa) i⟩
theorem ce_int {i j pos} : CE ca C W (.Constant (.int i) j pos) (E.c (.int i)) := ce_const rfl pe_int
theorem ce_str {x j pos} : CE ca C W (.Constant (.str x) j pos) (E.c (.str x)) := ce_const rfl pe_str
theorem ce_bl {x j pos} : CE ca C W (.Constant (.bool x) j pos) (E.c (.bl x)) := ce_const rfl pe_bl
theorem ce_non {j pos} : CE ca C W (.Constant .none j pos) (E.c .non) := ce_const rfl pe_non
end
end Vl
/-! The value layer, 5: comparisons, tests, subscripts, lengths, slices. -/
namespace Vl
open PySem PySem.Spec PyProof.Rows L2

/-! ### data -/
section
variable {α : Type}
mutual
def T.py : T α → Option PyData
  | .non => some .none
  | .bl b => some (.bool b)
  | .int i => some (.int i)
  | .str x => some (.str x)
  | .nd .lst _ _ xs => (pyL xs).map .list
  | .nd .scr _ _ xs => (pyL xs).map .list
  | .nd .tup _ _ xs => (pyL xs).map .tuple
  | .nd _ _ _ _ => none
def pyL : List (T α) → Option (List PyData)
  | [] => some []
  | x :: xs => match x.py, pyL xs with
    | some d, some ds => some (d :: ds)
    | _, _ => none
end
end
mutual
theorem py_er : ∀ x : A, (er x).py = x.py
  | .non => rfl
  | .bl _ => rfl
  | .int _ => rfl
  | .str _ => rfl
  | .nd .lst m a xs => by
    show (pyL (mapL (fun _ => ()) xs)).map PyData.list = (pyL xs).map .list
    rw [pyL_er xs]
  | .nd .scr m a xs => by
    show (pyL (mapL (fun _ => ()) xs)).map PyData.list = (pyL xs).map .list
    rw [pyL_er xs]
  | .nd .tup m a xs => by
    show (pyL (mapL (fun _ => ()) xs)).map PyData.tuple = (pyL xs).map .tuple
    rw [pyL_er xs]
  | .nd (.dct _) m a xs => rfl
  | .nd (.dtt _) m a xs => rfl
  | .nd (.ins _ _) m a xs => rfl
  | .nd (.exn _ _) m a xs => rfl
theorem pyL_er : ∀ xs : List A, pyL (mapL (fun _ => ()) xs) = pyL xs
  | [] => rfl
  | x :: xs => by
    have h := py_er x
    show (match (er x).py, pyL (mapL (fun _ => ()) xs) with | some d, some ds => some (d :: ds) | _, _ => none) = (match x.py, pyL xs with | some d, some ds => some (d :: ds) | _, _ => none)
    rw [h, pyL_er xs]
end
mutual
theorem Ok.dp {X : Ctx} {F H : Hp} (s : Sub F H) : ∀ {x : A} {d : PyData}, Ok X F H x → x.py = some d → Dp X.K H (val x) d
  | .non, _, _, e => by cases e; exact .non
  | .bl b, _, _, e => by cases e; exact .bl b
  | .int i, _, _, e => by cases e; exact .int i
  | .str z, _, _, e => by cases e; exact .str z
  | .nd .lst m a xs, d, h, e => by
    have e : (pyL xs).map PyData.list = some d := e
    cases q : pyL xs with
    | none => rw [q] at e; cases e
    | some ds => rw [q] at e; cases e; exact .lst (SqL.of (h.at_ s)) (OkL.dp s h.kids q)
  | .nd .scr m a xs, d, h, e => by
    have e : (pyL xs).map PyData.list = some d := e
    cases q : pyL xs with
    | none => rw [q] at e; cases e
    | some ds => rw [q] at e; cases e; exact .lst (h.at_ s) (OkL.dp s h.kids q)
  | .nd .tup m a xs, d, h, e => by
    have e : (pyL xs).map PyData.tuple = some d := e
    cases q : pyL xs with
    | none => rw [q] at e; cases e
    | some ds => rw [q] at e; cases e; exact .tup (h.at_ s) (OkL.dp s h.kids q)
  | .nd (.dct _) m a xs, d, h, e => by cases e
  | .nd (.dtt _) m a xs, d, h, e => by cases e
  | .nd (.ins _ _) m a xs, d, h, e => by cases e
theorem OkL.dp {X : Ctx} {F H : Hp} (s : Sub F H) : ∀ {xs : List A} {ds : List PyData}, OkL X F H xs → pyL xs = some ds → DpAll X.K H (xs.map val) ds
  | [], _, _, e => by cases e; exact .nil
  | x :: xs, ds, h, e => by
    have e : (match x.py, pyL xs with | some d, some ds => some (d :: ds) | _, _ => none) = some ds := e
    cases q1 : x.py with
    | none => rw [q1] at e; cases e
    | some d =>
      cases q2 : pyL xs with
      | none => rw [q1, q2] at e; cases e
      | some es => rw [q1, q2] at e; cases e; exact .cons (Ok.dp s h.1 q1) (OkL.dp s h.2 q2)
end

/-! ### comparisons -/
def D.cmp (p : Int → Int → Bool) : D → D → Option D
  | .int i, .int j => some (.bl (p i j))
  | _, _ => none
abbrev D.lt := D.cmp fun i j => decide (i < j)
abbrev D.le := D.cmp fun i j => decide (i ≤ j)
abbrev D.gt := D.cmp fun i j => decide (j < i)
abbrev D.ge := D.cmp fun i j => decide (j ≤ i)
def D.eqv : D → D → Option Bool
  | .int i, .int j => some (decide (i = j))
  | .str x, .str y => some (decide (x = y))
  | .bl a, .bl b => some (decide (a = b))
  | .non, .non => some true
  | .int _, .str _ => some false
  | .str _, .int _ => some false
  | .non, .int _ => some false
  | .int _, .non => some false
  | .non, .str _ => some false
  | .str _, .non => some false
  | .bl _, .str _ => some false
  | .str _, .bl _ => some false
  | .non, .bl _ => some false
  | .bl _, .non => some false
  | a, b => match a.py, b.py with
    | some d, some e => if SeqAt.shaped d = true ∧ SeqAt.shaped e = true then some (PyData.eqv d e) else none
    | _, _ => none
def D.eq (a b : D) : Option D := (D.eqv a b).map .bl
def D.ne (a b : D) : Option D := (D.eqv a b).map fun k => .bl (!k)
def D.isN : D → D → Option D
  | a, .non => some (.bl (match a with | .non => true | _ => false))
  | _, _ => none
def D.notN : D → D → Option D
  | a, .non => some (.bl (match a with | .non => false | _ => true))
  | _, _ => none
def D.key : D → Option Key
  | .int i => some (.inl i)
  | .str x => some (.inr x)
  | _ => none
def look {α : Type} : List Key → List α → Key → Option α
  | k' :: ks, x :: xs, k => if k' = k then some x else look ks xs k
  | _, _, _ => none
def hasK (ks : List Key) (k : Key) : Bool := ks.any fun k' => decide (k' = k)
theorem hasK_iff {ks : List Key} {k : Key} : hasK ks k = true ↔ k ∈ ks := by
  unfold hasK
  rw [List.any_eq_true]
  constructor
  · rintro ⟨x, hx, e⟩; rw [← of_decide_eq_true e]; exact hx
  · intro h; exact ⟨k, h, decide_eq_true rfl⟩
def eqP (y x : D) : Bool := match y, x with
  | .non, .non => true
  | .bl a, .bl b => a == b
  | .bl a, .int b => (if a then 1 else 0) == b
  | .int a, .bl b => a == (if b then 1 else 0)
  | .int a, .int b => a == b
  | .str a, .str b => a == b
  | _, _ => false
def keysL : List D → Option (List Key)
  | [] => some []
  | x :: xs => match x.key, keysL xs with
    | some k, some ks => some (k :: ks)
    | _, _ => none
/-- a key that is a tuple of ints and texts -/
def D.keyT : D → Option (List Key)
  | .nd .tup _ _ xs => keysL xs
  | _ => none
def hasKT (ks : List (List Key)) (k : List Key) : Bool := ks.any fun k' => decide (k' = k)
/-- among the items of a list, of any depth -/
def deepIn (x : D) (ys : List D) : Option Bool := match x.py, pyL ys with
  | some d, some ds => if SeqAt.shaped d = true ∧ SeqAt.shaped (.list ds) = true then some (ds.any fun z => PyData.eqv z d) else none
  | _, _ => none
def D.isin : D → D → Option Bool
  | x, .nd .lst _ _ ys => if plain x = true ∧ ys.all plain = true then some (ys.any fun y => eqP y x) else deepIn x ys
  | x, .nd .tup _ _ ys => if plain x = true ∧ ys.all plain = true then some (ys.any fun y => eqP y x) else none
  | x, .nd .scr _ _ ys => if plain x = true ∧ ys.all plain = true then some (ys.any fun y => eqP y x) else none
  | x, .nd (.dct ks) _ _ _ => x.key.map fun k => hasK ks k
  | x, .nd (.dtt ks) _ _ _ => x.keyT.map fun k => hasKT ks k
  | .str c, .str z => match c.cps.toList with
    | [n] => some (decide (n ∈ z.cps.toList))
    | _ => none
  | _, _ => none
def D.in_ (a b : D) : Option D := (D.isin a b).map .bl
def D.notin (a b : D) : Option D := (D.isin a b).map fun k => .bl (!k)
theorem look_map {α β : Type} (f : α → β) : ∀ (ks : List Key) (xs : List α) (k : Key), look ks (xs.map f) k = (look ks xs k).map f
  | [], xs, k => by cases xs <;> rfl
  | k' :: ks, [], k => rfl
  | k' :: ks, x :: xs, k => by
    show (if k' = k then some (f x) else look ks (xs.map f) k) = (if k' = k then some x else look ks xs k).map f
    by_cases h : k' = k
    · rw [if_pos h, if_pos h]; rfl
    · rw [if_neg h, if_neg h, look_map f ks xs k]
theorem look_mem {α : Type} : ∀ {ks : List Key} {xs : List α} {k : Key} {x : α}, look ks xs k = some x → x ∈ xs
  | [], xs, k, x, h => by cases xs <;> cases h
  | k' :: ks, [], k, x, h => by cases h
  | k' :: ks, y :: xs, k, x, h => by
    have h : (if k' = k then some y else look ks xs k) = some x := h
    by_cases e : k' = k
    · rw [if_pos e] at h; cases h; exact List.mem_cons_self
    · rw [if_neg e] at h; exact List.mem_cons_of_mem _ (look_mem h)
theorem valV_zip : ∀ (ks : List Key) (vs : List V) (k : Key), valV (ks.zip vs) k = look ks vs k
  | [], vs, k => by cases vs <;> rfl
  | k' :: ks, [], k => rfl
  | k' :: ks, v :: vs, k => by
    show valV ((k', v) :: ks.zip vs) k = if k' = k then some v else look ks vs k
    by_cases e : k' = k
    · rw [if_pos e]; exact valV_pos (p := (k', v)) e
    · rw [if_neg e, valV_neg (p := (k', v)) e, valV_zip ks vs k]
theorem look_some {α : Type} : ∀ {ks : List Key} {xs : List α} {k : Key}, ks.length = xs.length → (look ks xs k).isSome = hasK ks k
  | [], [], k, _ => rfl
  | k' :: ks, x :: xs, k, h => by
    show (if k' = k then some x else look ks xs k).isSome = (decide (k' = k) || hasK ks k)
    by_cases e : k' = k
    · rw [if_pos e, decide_eq_true e]; rfl
    · rw [if_neg e, decide_eq_false e, look_some (by simpa using h)]; rfl
theorem key_val {x : A} {k : Key} (h : (er x).key = some k) : val x = kV k := by
  cases x with
  | int i => have h : some (Sum.inl i : Key) = some k := h; cases h; rfl
  | str z => have h : some (Sum.inr z : Key) = some k := h; cases h; rfl
  | _ => cases h
theorem eqP_val {y x : A} (hy : plain (er y) = true) (hx : plain (er x) = true) : eqV (val y) (val x) = eqP (er y) (er x) := by
  cases y <;> first | exact absurd hy Bool.false_ne_true | skip
  all_goals cases x <;> first | exact absurd hx Bool.false_ne_true | rfl
theorem flat_val {x : A} (hx : plain (er x) = true) : flatV (val x) = true := by
  cases x <;> first | exact absurd hx Bool.false_ne_true | rfl
theorem allplain {ys : List A} (h : (mapL (fun _ => ()) ys).all plain = true) : ∀ y ∈ ys, plain (er y) = true := fun y hy => by
  rw [mapL_eq, List.all_eq_true] at h
  exact h (er y) (List.mem_map.mpr ⟨y, hy, rfl⟩)
theorem inV_val {x : A} {ys : List A} (hx : plain (er x) = true) (h : (mapL (fun _ => ()) ys).all plain = true) : inV (val x) (ys.map val) = (mapL (fun _ => ()) ys).any fun y => eqP y (er x) := by
  have hp := allplain h
  rw [mapL_eq]
  unfold inV
  rw [List.any_map, List.any_map]
  have e : ∀ l : List A, (∀ y ∈ l, plain (er y) = true) → (l.any ((fun y => eqV y (val x)) ∘ val)) = l.any ((fun y => eqP y (er x)) ∘ T.map fun _ => ()) := by
    intro l
    induction l with
    | nil => intro _; rfl
    | cons y l ih =>
      intro hl
      rw [List.any_cons, List.any_cons, ih fun z hz => hl z (List.mem_cons_of_mem _ hz)]
      show (eqV (val y) (val x) || _) = (eqP (er y) (er x) || _)
      rw [eqP_val (hl y List.mem_cons_self) hx]
  exact e ys hp

/-- a rule for a comparison, as a value and as a test -/
structure OKc (C : Cx) (op : CmpOp) (r : R2) : Prop where
  run : ∀ {a b : Expr} {ta tb : TE} {pos : Pos}, PE C a ta → PE C b tb → behindInMarks op b = false → PE C (.Compare a [op] [b] pos) (tOp r ta tb) ∧ PT C (.Compare a [op] [b] pos) (tTest (tOp r ta tb))
section
variable {ca : Ca} {C : Cx} {W : WX}
theorem okc_of {op : CmpOp} {r : R2} (h : OpR C (compareOp op) r) : OKc C op r := ⟨fun ha hb hm => ⟨pe_cmpR h ha hb hm, pt_cmpR h ha hb hm⟩⟩
theorem okc_false {op : CmpOp} : OKc C op fun _ _ _ _ => False := okc_of opR_false
theorem okc_din (hu : C.A.units + 1 < cLine) : OKc C .In (fun y x H Q => ∃ a o, x = .ref a ∧ DGet H a y o ∧ Q (.bl o.isSome) H) := ⟨fun ha hb hm => ⟨pe_cmp (pc_din hu ha hb) hm, pt_cmp (pc_din hu ha hb) hm⟩⟩
theorem okc_dnotin (hu : C.A.units + 1 < cLine) : OKc C .NotIn (fun y x H Q => ∃ a o, x = .ref a ∧ DGet H a y o ∧ Q (.bl (!o.isSome)) H) := ⟨fun ha hb hm => ⟨pe_cmp (pc_dnotin hu ha hb) hm, pt_cmp (pc_dnotin hu ha hb) hm⟩⟩
theorem op2_cmp {op : CmpOp} {p : Int → Int → Bool} (hop : OpR C (compareOp op) (rI0 fun i j => .bl (p i j))) : Op2 (cx ca C) (OKc C op) (D.cmp p) := by
  intro d1 d2 d h
  unfold D.cmp at h
  split at h
  · cases h
    refine ⟨_, okc_of hop, fun F H x y Q s _ _ _ e1 e2 k => ?_⟩
    rw [er_int e1, er_int e2]
    exact ⟨_, _, rfl, rfl, k.plain s rfl⟩
  · cases h
theorem eqv_scal {x y : A} {k : Bool} (h : D.eqv (er x) (er y) = some k) (hs : scal (val x) (val y) = true) : decide (val x = val y) = k := by
  cases x <;> cases y <;> first | exact absurd hs Bool.false_ne_true | skip
  all_goals
    first
    | (cases h; rfl)
    | (have h := Option.some.inj h; rw [← h]; simp [val])
theorem op2_eq (hu : C.A.units + 64 < cLine) : Op2 (cx ca C) (OKc C .Eq) D.eq := by
  intro d1 d2 d h
  unfold D.eq at h
  cases hq : D.eqv d1 d2 with
  | none => rw [hq] at h; cases h
  | some k =>
    rw [hq] at h
    cases h
    refine ⟨_, okc_of (op_eq.or (op_eqD hu)), fun F H x y Q s ok1 ok2 _ e1 e2 kk => ?_⟩
    subst e1 e2
    by_cases hs : scal (val x) (val y) = true
    · refine .inl ⟨hs, ?_⟩
      rw [eqv_scal hq hs]
      exact kk.plain s rfl
    · refine .inr ?_
      have key : (match (er x).py, (er y).py with | some d, some e => if SeqAt.shaped d = true ∧ SeqAt.shaped e = true then some (PyData.eqv d e) else none | _, _ => none) = some k := by
        cases x <;> cases y <;> first | exact absurd rfl hs | exact hq
      rw [py_er, py_er] at key
      cases q1 : x.py with
      | none => rw [q1] at key; cases key
      | some d =>
        cases q2 : y.py with
        | none => rw [q1, q2] at key; cases key
        | some e =>
          rw [q1, q2] at key
          dsimp only at key
          split at key
          · rename_i hz
            cases key
            exact ⟨d, e, ok1.dp s q1, ok2.dp s q2, hz.1, hz.2, kk.plain s rfl⟩
          · cases key
theorem op2_ne (hu : C.A.units + 64 < cLine) : Op2 (cx ca C) (OKc C .NotEq) D.ne := by
  intro d1 d2 d h
  unfold D.ne at h
  cases hq : D.eqv d1 d2 with
  | none => rw [hq] at h; cases h
  | some k =>
    rw [hq] at h
    cases h
    refine ⟨_, okc_of (op_ne.or (op_neD hu)), fun F H x y Q s ok1 ok2 _ e1 e2 kk => ?_⟩
    subst e1 e2
    by_cases hs : scal (val x) (val y) = true
    · refine .inl ⟨hs, ?_⟩
      rw [eqv_scal hq hs]
      exact kk.plain s rfl
    · refine .inr ?_
      have key : (match (er x).py, (er y).py with | some d, some e => if SeqAt.shaped d = true ∧ SeqAt.shaped e = true then some (PyData.eqv d e) else none | _, _ => none) = some k := by
        cases x <;> cases y <;> first | exact absurd rfl hs | exact hq
      rw [py_er, py_er] at key
      cases q1 : x.py with
      | none => rw [q1] at key; cases key
      | some d =>
        cases q2 : y.py with
        | none => rw [q1, q2] at key; cases key
        | some e =>
          rw [q1, q2] at key
          dsimp only at key
          split at key
          · rename_i hz
            cases key
            exact ⟨d, e, ok1.dp s q1, ok2.dp s q2, hz.1, hz.2, kk.plain s rfl⟩
          · cases key
theorem op2_isN : Op2 (cx ca C) (OKc C .Is) D.isN := by
  intro d1 d2 d h
  unfold D.isN at h
  split at h
  · cases h
    refine ⟨_, okc_of op_isN, fun F H x y Q s _ _ _ e1 e2 k => ?_⟩
    rw [er_non e2]
    subst e1
    refine ⟨rfl, ?_⟩
    have := k.plain s rfl
    cases x <;> exact this
  · cases h
theorem op2_notN : Op2 (cx ca C) (OKc C .IsNot) D.notN := by
  intro d1 d2 d h
  unfold D.notN at h
  split at h
  · cases h
    refine ⟨_, okc_of op_notN, fun F H x y Q s _ _ _ e1 e2 k => ?_⟩
    rw [er_non e2]
    subst e1
    refine ⟨rfl, ?_⟩
    have := k.plain s rfl
    cases x <;> exact this
  · cases h
theorem keysL_val : ∀ {xs : List A} {ks : List Key}, keysL (mapL (fun _ => ()) xs) = some ks → xs.map val = ks.map kV
  | [], ks, h => by cases h; rfl
  | x :: xs, ks, h => by
    have h : (match (er x).key, keysL (mapL (fun _ => ()) xs) with | some k, some ks => some (k :: ks) | _, _ => none) = some ks := h
    cases h1 : (er x).key with
    | none => rw [h1] at h; cases h
    | some k =>
      cases h2 : keysL (mapL (fun _ => ()) xs) with
      | none => rw [h1, h2] at h; cases h
      | some ks2 =>
        rw [h1, h2] at h; cases h
        rw [List.map_cons, List.map_cons, key_val h1, keysL_val h2]
theorem valV_someT : ∀ {ks : List (List Key)} {vs : List V} {k : List Key}, ks.length = vs.length → (valV (ks.zip vs) k).isSome = hasKT ks k
  | [], [], k, _ => rfl
  | k' :: ks, v :: vs, k, h => by
    show (valV ((k', v) :: ks.zip vs) k).isSome = (decide (k' = k) || hasKT ks k)
    by_cases e : k' = k
    · rw [valV_pos (p := (k', v)) e, decide_eq_true e]; rfl
    · rw [valV_neg (p := (k', v)) e, decide_eq_false e, valV_someT (by simpa using h)]; rfl
def rInT (K : PySem.W.Frag) (neg : Bool) : R2 := fun y x H Q => ∃ (a b : Addr) (kvs : List (List Key × V)) (k : List Key), x = .ref a ∧ y = .ref b ∧ Rd H a (.dT kvs) ∧ SqT K H b (k.map kV) ∧ Q (.bl (if neg then !(valV kvs k).isSome else (valV kvs k).isSome)) H
theorem keyT_is {X : Cx} {pins : List (Addr × Obj)} {σ : L2.St} {H : Hp} {s : Shared} {b : Addr} {k : List Key} (I : Inv X pins σ H s) (h : SqT X.K H b (k.map kV)) : (tupleKind (mixKind X.prog X.w)).is s.heap k b := by
  obtain ⟨its, rv, ⟨o, e1, e2, n, e3⟩, _⟩ := I.tuple h
  exact ⟨o, its.toArray, n, e1, e2, e3, by simpa using items_are rv⟩
theorem op_inT {X : Cx} (hu : X.A.units + 1 < cLine) : OpR X (compareOp .In) (rInT X.K false) := by
  intro pins s σ H x y v u Q I rx ry h
  obtain ⟨a, b, kvs, k, rfl, rfl, hd, hk, q⟩ := h
  cases rx
  cases ry
  obtain ⟨z, hm, xs, rel, dd⟩ := dt_rd I.hok hd
  refine wpAny_in_heap (tupleKind_room_in1 hu) (keyT_is I hk) hm dd ⟨.bl _, H, I.tok _, rfl, ?_⟩
  have e := (rel.val k).isSome_eq
  rw [Option.isSome_map] at e
  rw [← e]; exact q
theorem op_ninT {X : Cx} (hu : X.A.units + 1 < cLine) : OpR X (compareOp .NotIn) (rInT X.K true) := by
  intro pins s σ H x y v u Q I rx ry h
  obtain ⟨a, b, kvs, k, rfl, rfl, hd, hk, q⟩ := h
  cases rx
  cases ry
  obtain ⟨z, hm, xs, rel, dd⟩ := dt_rd I.hok hd
  refine wpAny_notIn_heap (tupleKind_room_in1 hu) (keyT_is I hk) hm dd ⟨.bl _, H, I.tok _, rfl, ?_⟩
  have e := (rel.val k).isSome_eq
  rw [Option.isSome_map] at e
  rw [← e]; exact q
def rInDn (K : PySem.W.Frag) (neg : Bool) : R2 := fun x y H Q => ∃ d ds, Dp K H x d ∧ Dp K H y (.list ds) ∧ SeqAt.shaped d = true ∧ SeqAt.shaped (.list ds) = true ∧ Q (.bl (if neg then !(ds.any fun z => PyData.eqv z d) else (ds.any fun z => PyData.eqv z d))) H
/-- what a membership test is worth, by the two kinds of rules -/
theorem isin_rule {op : CmpOp} {neg : Bool} {d1 d2 : D} {k : Bool} (h : D.isin d1 d2 = some k) (hseq : OKc C op (rIn C.K neg)) (hd : OKc C op (fun y x H Q => ∃ a o, x = .ref a ∧ DGet H a y o ∧ Q (.bl (if neg then !o.isSome else o.isSome)) H))
    (hdp : OKc C op (rInDn C.K neg)) (hdt : OKc C op (rInT C.K neg)) (hs : OKc C op (fun x y H Q => ∃ (c : Nat) (z : Str), x = .str ⟨#[c]⟩ ∧ y = .str z ∧ Q (.bl (if neg then !decide (c ∈ z.cps.toList) else decide (c ∈ z.cps.toList))) H)) :
    ∃ r2 : R2, OKc C op r2 ∧ ∀ (F H : Hp) (x y : A) (Q : VK), Sub F H → Ok (cx ca C) F H x → Ok (cx ca C) F H y → er x = d1 → er y = d2 → Q (.bl (if neg then !k else k)) H → r2 (val x) (val y) H Q := by
  unfold D.isin at h
  split at h
  · split at h
    · rename_i hz
      cases h
      refine ⟨_, hseq, fun F H x y Q s ok1 ok2 e1 e2 q => ?_⟩
      subst e1
      obtain ⟨a, ys, rfl, ey⟩ := er_nd e2
      subst ey
      refine ⟨a.1, ys.map val, rfl, .inl (SqL.of (ok2.at_ s)), flat_val hz.1, ?_, ?_⟩
      · rw [List.all_eq_true]
        intro v hv
        obtain ⟨y, hy, rfl⟩ := List.mem_map.mp hv
        exact flat_val (allplain hz.2 y hy)
      · rw [inV_val hz.1 hz.2]; exact q
    · unfold deepIn at h
      refine ⟨_, hdp, fun F H x y Q s ok1 ok2 e1 e2 q => ?_⟩
      subst e1
      obtain ⟨a, ys, rfl, ey⟩ := er_nd e2
      subst ey
      rw [py_er, pyL_er] at h
      cases q1 : x.py with
      | none => rw [q1] at h; cases h
      | some d =>
        cases q2 : pyL ys with
        | none => rw [q1, q2] at h; cases h
        | some ds =>
          rw [q1, q2] at h
          dsimp only at h
          split at h
          · rename_i hz
            cases h
            exact ⟨d, ds, ok1.dp s q1, .lst (SqL.of (ok2.at_ s)) (OkL.dp s ok2.kids q2), hz.1, hz.2, q⟩
          · cases h
  · split at h
    · rename_i hz
      cases h
      refine ⟨_, hseq, fun F H x y Q s ok1 ok2 e1 e2 q => ?_⟩
      subst e1
      obtain ⟨a, ys, rfl, ey⟩ := er_nd e2
      subst ey
      refine ⟨a.1, ys.map val, rfl, .inr (ok2.at_ s), flat_val hz.1, ?_, ?_⟩
      · rw [List.all_eq_true]
        intro v hv
        obtain ⟨y, hy, rfl⟩ := List.mem_map.mp hv
        exact flat_val (allplain hz.2 y hy)
      · rw [inV_val hz.1 hz.2]; exact q
    · cases h
  · split at h
    · rename_i hz
      cases h
      refine ⟨_, hseq, fun F H x y Q s ok1 ok2 e1 e2 q => ?_⟩
      subst e1
      obtain ⟨a, ys, rfl, ey⟩ := er_nd e2
      subst ey
      refine ⟨a.1, ys.map val, rfl, .inl (ok2.at_ s), flat_val hz.1, ?_, ?_⟩
      · rw [List.all_eq_true]
        intro v hv
        obtain ⟨y, hy, rfl⟩ := List.mem_map.mp hv
        exact flat_val (allplain hz.2 y hy)
      · rw [inV_val hz.1 hz.2]; exact q
    · cases h
  · rename_i x0 ks m0 a0 ys0
    cases hk : D.key d1 with
    | none => rw [hk] at h; cases h
    | some key =>
      rw [hk] at h
      cases h
      refine ⟨_, hd, fun F H x y Q s ok1 ok2 e1 e2 q => ?_⟩
      subst e1
      obtain ⟨a, ys, rfl, ey⟩ := er_nd e2
      refine ⟨a.1, valV (ks.zip (ys.map val)) key, rfl, .inl ⟨_, key, ok2.at_ s, key_val hk, rfl⟩, ?_⟩
      have hl : ks.length = (ys.map val).length := by rw [List.length_map]; exact ok2.shp.1
      rw [valV_zip, look_some hl]
      exact q
  · rename_i x0 ks m0 a0 ys0
    cases hk : D.keyT d1 with
    | none => rw [hk] at h; cases h
    | some key =>
      rw [hk] at h
      cases h
      refine ⟨_, hdt, fun F H x y Q s ok1 ok2 e1 e2 q => ?_⟩
      subst e1
      obtain ⟨a, ys, rfl, ey⟩ := er_nd e2
      cases x with
      | nd k m b zs =>
        cases k with
        | tup =>
          have hk : keysL (mapL (fun _ => ()) zs) = some key := hk
          have hl : ks.length = (ys.map val).length := by rw [List.length_map]; exact ok2.shp.1
          have h1 : SqT C.K H b.1 (zs.map val) := ok1.at_ s
          rw [keysL_val hk] at h1
          refine ⟨a.1, b.1, _, key, rfl, rfl, ok2.at_ s, h1, ?_⟩
          rw [valV_someT hl]
          exact q
        | _ => cases hk
      | _ => cases hk
  · rename_i c z
    split at h
    · rename_i n hn
      cases h
      refine ⟨_, hs, fun F H x y Q s ok1 ok2 e1 e2 q => ?_⟩
      rw [er_str e1, er_str e2]
      have ec : c = ⟨#[n]⟩ := by
        cases c with
        | mk cps =>
          have : cps = #[n] := by rw [← Array.toArray_toList (xs := cps)]; rw [show cps.toList = [n] from hn]
          rw [this]
      exact ⟨n, z, by rw [ec]; rfl, rfl, q⟩
    · cases h
  · cases h
theorem op2_in (hu : C.A.units + 65 < cLine) : Op2 (cx ca C) (OKc C .In) D.in_ := by
  intro d1 d2 d h
  unfold D.in_ at h
  cases hq : D.isin d1 d2 with
  | none => rw [hq] at h; cases h
  | some k =>
    rw [hq] at h
    cases h
    obtain ⟨r2, ho, hr⟩ := isin_rule (ca := ca) (C := C) (op := .In) (neg := false) hq (okc_of op_in_seq) (okc_din (by omega)) (okc_of (op_inD hu)) (okc_of (op_inT (by omega))) (okc_of op_in_sign)
    exact ⟨r2, ho, fun F H x y Q s ok1 ok2 _ e1 e2 kk => hr F H x y Q s ok1 ok2 e1 e2 (kk.plain s rfl)⟩
theorem op2_notin (hu : C.A.units + 65 < cLine) : Op2 (cx ca C) (OKc C .NotIn) D.notin := by
  intro d1 d2 d h
  unfold D.notin at h
  cases hq : D.isin d1 d2 with
  | none => rw [hq] at h; cases h
  | some k =>
    rw [hq] at h
    cases h
    obtain ⟨r2, ho, hr⟩ := isin_rule (ca := ca) (C := C) (op := .NotIn) (neg := true) hq (okc_of op_notIn_seq) (okc_dnotin (by omega)) (okc_of (op_notInD hu)) (okc_of (op_ninT (by omega))) (okc_of op_notIn_sign)
    exact ⟨r2, ho, fun F H x y Q s ok1 ok2 _ e1 e2 kk => hr F H x y Q s ok1 ok2 e1 e2 (kk.plain s rfl)⟩
end
end Vl
/-! The value layer, 6: places, looks, settling a place. -/
namespace Vl
open PySem PySem.Spec PyProof.Rows L2

section
variable {α β : Type}
mutual
/-- the node at the way p turned by f -/
def T.mod (f : T α → T α) : T α → List Nat → T α
  | t, [] => f t
  | .nd k m a xs, i :: p => .nd k m a (modL f xs i p)
  | t, _ :: _ => t
def modL (f : T α → T α) : List (T α) → Nat → List Nat → List (T α)
  | [], _, _ => []
  | x :: xs, 0, p => x.mod f p :: xs
  | x :: xs, i + 1, p => x :: modL f xs i p
end
theorem modL_len (f : T α → T α) : ∀ (xs : List (T α)) (i : Nat) (p : List Nat), (modL f xs i p).length = xs.length
  | [], _, _ => rfl
  | x :: xs, 0, p => rfl
  | x :: xs, i + 1, p => by rw [modL, List.length_cons, modL_len f xs i p, List.length_cons]
theorem getT_nil (t : T α) : getT t [] = some t := by cases t <;> rfl
theorem getT_cons {t : T α} {i : Nat} {p : List Nat} {x : T α} (h : getT t (i :: p) = some x) : ∃ k m a xs y, t = .nd k m a xs ∧ xs[i]? = some y ∧ getT y p = some x := by
  cases t with
  | nd k m a xs =>
    have h : (match xs[i]? with | some x => getT x p | none => none) = some x := h
    cases e : xs[i]? with
    | none => rw [e] at h; cases h
    | some y => rw [e] at h; exact ⟨k, m, a, xs, y, rfl, e, h⟩
  | _ => cases h
theorem getT_nd {k : Kd} {m : Mk} {a : α} {xs : List (T α)} {i : Nat} {p : List Nat} {y : T α} (h : xs[i]? = some y) : getT (.nd k m a xs) (i :: p) = getT y p := by
  show (match xs[i]? with | some x => getT x p | none => none) = getT y p
  rw [h]
theorem getT_append : ∀ {p q : List Nat} {t x : T α}, getT t p = some x → getT t (p ++ q) = getT x q
  | [], q, t, x, h => by rw [getT_nil] at h; cases h; rfl
  | i :: p, q, t, x, h => by
    obtain ⟨k, m, a, xs, y, rfl, hy, hx⟩ := getT_cons h
    show getT (.nd k m a xs) (i :: (p ++ q)) = _
    rw [getT_nd hy]
    exact getT_append hx
theorem mapL_get (f : α → β) (xs : List (T α)) (i : Nat) : (mapL f xs)[i]? = xs[i]?.map (T.map f) := by rw [mapL_eq, List.getElem?_map]
theorem getT_map (f : α → β) : ∀ {p : List Nat} {t : T α}, getT (t.map f) p = (getT t p).map (T.map f)
  | [], t => by rw [getT_nil, getT_nil]; rfl
  | i :: p, .nd k m a xs => by
    show (match (mapL f xs)[i]? with | some x => getT x p | none => none) = (match xs[i]? with | some x => getT x p | none => none).map (T.map f)
    rw [mapL_get]
    cases e : xs[i]? with
    | none => rfl
    | some y => exact getT_map f
  | i :: p, .non => rfl
  | i :: p, .bl _ => rfl
  | i :: p, .int _ => rfl
  | i :: p, .str _ => rfl
theorem mkL_get (g : Mk → Mk) (xs : List (T α)) (i : Nat) : (mkL g xs)[i]? = xs[i]?.map (T.mk g) := by rw [mkL_eq, List.getElem?_map]
theorem getT_mk (g : Mk → Mk) : ∀ {p : List Nat} {t : T α}, getT (t.mk g) p = (getT t p).map (T.mk g)
  | [], t => by rw [getT_nil, getT_nil]; rfl
  | i :: p, .nd k m a xs => by
    show (match (mkL g xs)[i]? with | some x => getT x p | none => none) = (match xs[i]? with | some x => getT x p | none => none).map (T.mk g)
    rw [mkL_get]
    cases e : xs[i]? with
    | none => rfl
    | some y => exact getT_mk g
  | i :: p, .non => rfl
  | i :: p, .bl _ => rfl
  | i :: p, .int _ => rfl
  | i :: p, .str _ => rfl
/-- turning commutes with forgetting the addresses -/
theorem mod_map (f : α → β) {g : T α → T α} {g' : T β → T β} : ∀ {p : List Nat} {t x : T α}, getT t p = some x → (g x).map f = g' (x.map f) → (t.mod g p).map f = (t.map f).mod g' p
  | [], t, x, h, e => by
    rw [getT_nil] at h; cases h
    have h1 : t.mod g [] = g t := by cases t <;> rfl
    have h2 : (t.map f).mod g' [] = g' (t.map f) := by cases t <;> rfl
    rw [h1, h2, e]
  | i :: p, t, x, h, e => by
    obtain ⟨k, m, a, xs, y, rfl, hy, hx⟩ := getT_cons h
    show T.nd k m (f a) (mapL f (modL g xs i p)) = T.nd k m (f a) (modL g' (mapL f xs) i p)
    have key : ∀ (xs : List (T α)) (i : Nat), xs[i]? = some y → mapL f (modL g xs i p) = modL g' (mapL f xs) i p := by
      intro xs
      induction xs with
      | nil => intro i hy; cases hy
      | cons z zs ih =>
        intro i hy
        cases i with
        | zero =>
          have : z = y := Option.some.inj hy
          subst this
          show (z.mod g p).map f :: mapL f zs = (z.map f).mod g' p :: mapL f zs
          rw [mod_map f hx e]
        | succ i =>
          show z.map f :: mapL f (modL g zs i p) = z.map f :: modL g' (mapL f zs) i p
          rw [ih i hy]
    rw [key xs i hy]
/-- turning keeps what a marks' turn forgets -/
theorem mod_mk {h : Mk → Mk} {g : T α → T α} : ∀ {p : List Nat} {t x : T α}, getT t p = some x → (g x).mk h = x.mk h → (t.mod g p).mk h = t.mk h
  | [], t, x, e, q => by
    rw [getT_nil] at e; cases e
    have h1 : t.mod g [] = g t := by cases t <;> rfl
    rw [h1, q]
  | i :: p, t, x, e, q => by
    obtain ⟨k, m, a, xs, y, rfl, hy, hx⟩ := getT_cons e
    show T.nd k (h m) a (mkL h (modL g xs i p)) = T.nd k (h m) a (mkL h xs)
    have key : ∀ (xs : List (T α)) (i : Nat), xs[i]? = some y → mkL h (modL g xs i p) = mkL h xs := by
      intro xs
      induction xs with
      | nil => intro i hy; cases hy
      | cons z zs ih =>
        intro i hy
        cases i with
        | zero =>
          have : z = y := Option.some.inj hy
          subst this
          show (z.mod g p).mk h :: mkL h zs = z.mk h :: mkL h zs
          rw [mod_mk hx q]
        | succ i =>
          show z.mk h :: mkL h (modL g zs i p) = z.mk h :: mkL h zs
          rw [ih i hy]
    rw [key xs i hy]
end
theorem adr_get {q : Mk} : ∀ {p : List Nat} {t x : A}, getT t p = some x → ∀ a ∈ adr q x, a ∈ adr q t
  | [], t, x, h, a, ha => by rw [getT_nil] at h; cases h; exact ha
  | i :: p, t, x, h, a, ha => by
    obtain ⟨k, m, b, xs, y, rfl, hy, hx⟩ := getT_cons h
    exact adr_nd_kids (adrL_mem (List.mem_of_getElem? hy) (adr_get hx a ha))
theorem Ok.get {X : Ctx} {F H : Hp} : ∀ {p : List Nat} {t x : A}, Ok X F H t → getT t p = some x → Ok X F H x
  | [], t, x, o, h => by rw [getT_nil] at h; cases h; exact o
  | i :: p, t, x, o, h => by
    obtain ⟨k, m, b, xs, y, rfl, hy, hx⟩ := getT_cons h
    exact Ok.get (OkL_iff.mp o.kids y (List.mem_of_getElem? hy)) hx
theorem val_mod {g : A → A} : ∀ {p : List Nat} {t x : A}, getT t p = some x → val (g x) = val x → val (t.mod g p) = val t
  | [], t, x, h, e => by
    rw [getT_nil] at h; cases h
    have h1 : t.mod g [] = g t := by cases t <;> rfl
    rw [h1, e]
  | i :: p, t, x, h, e => by
    obtain ⟨k, m, b, xs, y, rfl, hy, hx⟩ := getT_cons h
    rfl
/-- a tree that owns nothing changed -/
theorem Ok.stay {X : Ctx} {F H F' H' : Hp} {x : A} : Ok X F H x → x.nob = true → (∀ a u, F a = some u → F' a = some u) → (∀ a ∈ own x, H' a = H a ∧ F' a = none) → Ok X F' H' x := by
  have key : ∀ n, ∀ x : A, sizeOf x < n → Ok X F H x → x.nob = true → (∀ a u, F a = some u → F' a = some u) → (∀ a ∈ own x, H' a = H a ∧ F' a = none) → Ok X F' H' x := by
    intro n
    induction n with
    | zero => intro x h; exact absurd h (Nat.not_lt_zero _)
    | succ n ih =>
      intro x hn ok hb hf ho
      cases x with
      | nd k m a xs =>
        obtain ⟨⟨sh, nd⟩, l⟩ := ok
        rw [T.nob, T.all, Bool.and_eq_true] at hb
        refine ⟨⟨sh, ?_⟩, OkL_iff.mpr fun y hy => ?_⟩
        · cases m with
          | c => exact ⟨nd.1.same hf, nd.2⟩
          | o =>
            have hh : ∀ p ∈ ndA k a, H' p = H p ∧ F' p = none := fun p hp => ho p (List.mem_append_left _ (by rw [if_pos rfl]; exact hp))
            exact ⟨nd.1.keep fun p hp => (hh p hp).1, fun p hp => (hh p hp).2, nd.2.2⟩
          | b => exact absurd hb.1 Bool.false_ne_true
        · have hb2 := hb.2
          rw [allL_eq, List.all_eq_true] at hb2
          refine ih y ?_ (OkL_iff.mp l y hy) (hb2 y hy) hf fun p hp => ho p (adr_nd_kids (adrL_mem hy hp))
          have h1 := List.sizeOf_lt_of_mem hy
          have h2 := T.nd.sizeOf_spec k m a xs
          omega
      | _ => trivial
  exact key (sizeOf x + 1) x (Nat.lt_succ_self _)
/-- the root of x is owned -/
def isO : A → Bool
  | .nd _ .o _ _ => true
  | _ => false
theorem own_of_isO {x : A} (h : isO x = true) : ∃ a, a ∈ own x := by
  cases x with
  | nd k m a xs =>
    cases m with
    | o => exact ⟨a.1, List.mem_append_left _ (by rw [if_pos rfl]; exact ndA_fst)⟩
    | _ => cases h
  | _ => cases h
theorem nodup_split {q : Mk} : ∀ {xs : List A} {i : Nat} {y : A}, (adrL q xs).Nodup → xs[i]? = some y → ∀ (j : Nat) (z : A), xs[j]? = some z → j ≠ i → ∀ a ∈ adr q z, a ∉ adr q y
  | x :: xs, 0, y, h, hy, j, z, hz, ne, a, ha, hay => by
    have : x = y := Option.some.inj hy
    subst this
    cases j with
    | zero => exact ne rfl
    | succ j =>
      rw [adrL] at h
      exact (List.nodup_append.mp h).2.2 a hay a (adrL_mem (List.mem_of_getElem? (show xs[j]? = some z from hz)) ha) rfl
  | x :: xs, i + 1, y, h, hy, j, z, hz, ne, a, ha, hay => by
    rw [adrL] at h
    cases j with
    | zero =>
      have : x = z := Option.some.inj hz
      subst this
      exact (List.nodup_append.mp h).2.2 a ha a (adrL_mem (List.mem_of_getElem? (show xs[i]? = some y from hy)) hay) rfl
    | succ j => exact nodup_split (List.nodup_append.mp h).2.1 (show xs[i]? = some y from hy) j z hz (fun e => ne (by rw [e])) a ha hay
theorem mem_modL {α : Type} {f : T α → T α} : ∀ {xs : List (T α)} {i : Nat} {p : List Nat} {w : T α}, w ∈ modL f xs i p → (∃ y, xs[i]? = some y ∧ w = y.mod f p) ∨ ∃ j, j ≠ i ∧ xs[j]? = some w
  | [], _, _, _, h => by cases h
  | x :: xs, 0, p, w, h => by
    rcases List.mem_cons.mp h with rfl | h
    · exact .inl ⟨x, rfl, rfl⟩
    · obtain ⟨j, hj⟩ := List.mem_iff_getElem?.mp h
      exact .inr ⟨j + 1, by omega, hj⟩
  | x :: xs, i + 1, p, w, h => by
    rcases List.mem_cons.mp h with rfl | h
    · exact .inr ⟨0, by omega, rfl⟩
    · rcases mem_modL h with ⟨y, hy, e⟩ | ⟨j, hj, e⟩
      · exact .inl ⟨y, hy, e⟩
      · exact .inr ⟨j + 1, by omega, e⟩
theorem mod_nob {α : Type} {f : T α → T α} : ∀ {p : List Nat} {t x : T α}, t.nob = true → getT t p = some x → (f x).nob = true → (t.mod f p).nob = true
  | [], t, x, h, e, q => by
    rw [getT_nil] at e; cases e
    have h1 : t.mod f [] = f t := by cases t <;> rfl
    rw [h1]; exact q
  | i :: p, t, x, h, e, q => by
    obtain ⟨k, m, b, xs, y, rfl, hy, hx⟩ := getT_cons e
    rw [T.nob, T.all, Bool.and_eq_true] at h
    show (notB m && allL notB (modL f xs i p)) = true
    rw [Bool.and_eq_true, allL_eq, List.all_eq_true]
    have h2 := h.2
    rw [allL_eq, List.all_eq_true] at h2
    refine ⟨h.1, fun w hw => ?_⟩
    rcases mem_modL hw with ⟨y', hy', rfl⟩ | ⟨j, _, hj⟩
    · rw [hy] at hy'; cases hy'
      exact mod_nob (h2 y (List.mem_of_getElem? hy)) hx q
    · exact h2 w (List.mem_of_getElem? hj)
theorem valL_mod {f : A → A} {xs : List A} {i : Nat} {p : List Nat} {y x : A} (hy : xs[i]? = some y) (hx : getT y p = some x) (e : val (f x) = val x) : (modL f xs i p).map val = xs.map val := by
  induction xs generalizing i with
  | nil => rfl
  | cons z zs ih =>
    cases i with
    | zero =>
      have : z = y := Option.some.inj hy
      subst this
      show val (z.mod f p) :: zs.map val = val z :: zs.map val
      rw [val_mod hx e]
    | succ i =>
      show val z :: (modL f zs i p).map val = val z :: zs.map val
      rw [ih (show zs[i]? = some y from hy)]
/-- an owned node within a tree is turned -/
theorem Ok.mod {X : Ctx} {F H F' H' : Hp} {f : A → A} : ∀ {p : List Nat} {t x : A}, Ok X F H t → getT t p = some x → isO x = true → (own t).Nodup → val (f x) = val x → Ok X F' H' (f x) → (f x).nob = true → (∀ a u, F a = some u → F' a = some u) →
    (∀ a ∈ own t, a ∉ own x → H' a = H a ∧ F' a = none) → Ok X F' H' (t.mod f p)
  | [], t, x, ok, h, io, nd, ev, ok', nb, hf, ho => by
    rw [getT_nil] at h; cases h
    have h1 : t.mod f [] = f t := by cases t <;> rfl
    rw [h1]; exact ok'
  | i :: p, t, x, ok, h, io, nd, ev, ok', nb, hf, ho => by
    obtain ⟨k, m, b, xs, y, rfl, hy, hx⟩ := getT_cons h
    obtain ⟨⟨sh, n⟩, l⟩ := ok
    obtain ⟨z, hz⟩ := own_of_isO io
    have hzy := adr_get hx z hz
    have hzx := adrL_mem (List.mem_of_getElem? hy) hzy
    have ndk := nodup_kids nd
    cases m with
    | c => rw [adrL_nil rfl n.2] at hzx; cases hzx
    | b => rw [n.2.1] at hzx; cases hzx
    | o =>
      have hown : ∀ q ∈ ndA k b, q ∈ own (T.nd k .o b xs) := fun q hq => List.mem_append_left _ (by rw [if_pos rfl]; exact hq)
      have hdis : ∀ q ∈ ndA k b, q ∉ own x := fun q hq hqx => by
        have nd' : ((if Mk.o = .o then ndA k b else []) ++ adrL .o xs).Nodup := nd
        rw [if_pos rfl] at nd'
        exact (List.nodup_append.mp nd').2.2 q hq q (adrL_mem (List.mem_of_getElem? hy) (adr_get hx q hqx)) rfl
      have hh : ∀ q ∈ ndA k b, H' q = H q ∧ F' q = none := fun q hq => ho q (hown q hq) (hdis q hq)
      have nbk := n.2.2
      rw [allL_eq, List.all_eq_true] at nbk
      show Ok X F' H' (.nd k .o b (modL f xs i p))
      refine ⟨⟨by rw [modL_len]; exact sh, ?_, fun q hq => (hh q hq).2, ?_⟩, OkL_iff.mpr fun w hw => ?_⟩
      · rw [valL_mod hy hx ev]
        exact n.1.keep fun q hq => (hh q hq).1
      · rw [allL_eq, List.all_eq_true]
        intro w hw
        rcases mem_modL hw with ⟨y', hy', rfl⟩ | ⟨j, _, hj⟩
        · rw [hy] at hy'; cases hy'
          exact mod_nob (nbk y (List.mem_of_getElem? hy)) hx nb
        · exact nbk w (List.mem_of_getElem? hj)
      · rcases mem_modL hw with ⟨y', hy', rfl⟩ | ⟨j, hj, hjw⟩
        · rw [hy] at hy'; cases hy'
          exact Ok.mod (OkL_iff.mp l y (List.mem_of_getElem? hy)) hx io (nodup_of_mem ndk (List.mem_of_getElem? hy)) ev ok' nb hf fun a ha hax => ho a (adr_nd_kids (adrL_mem (List.mem_of_getElem? hy) ha)) hax
        · refine Ok.stay (OkL_iff.mp l w (List.mem_of_getElem? hjw)) (nbk w (List.mem_of_getElem? hjw)) hf fun a ha => ho a (adr_nd_kids (adrL_mem (List.mem_of_getElem? hjw) ha)) fun hax => ?_
          exact nodup_split ndk hy j w hjw hj a ha (adr_get hx a hax)
end Vl
/-! The value layer, 7: a place in a frame turned; looks; settling. -/
namespace Vl
open PySem PySem.Spec PyProof.Rows L2

section
variable {α : Type} {g : α → List Addr}
theorem flat_mem : ∀ {L : List α} {i : Nat} {x y : α} {a : Addr}, L[i]? = some x → (L.flatMap g).Nodup → a ∈ (L.set i y).flatMap g → a ∈ g y ∨ (a ∈ L.flatMap g ∧ a ∉ g x)
  | z :: L, 0, x, y, a, hx, nd, h => by
    have e : z = x := Option.some.inj hx
    subst e
    rw [List.set_cons_zero, List.flatMap_cons] at h
    rw [List.flatMap_cons] at nd ⊢
    rcases List.mem_append.mp h with h | h
    · exact .inl h
    · exact .inr ⟨List.mem_append_right _ h, fun q => (List.nodup_append.mp nd).2.2 a q a h rfl⟩
  | z :: L, i + 1, x, y, a, hx, nd, h => by
    rw [List.set_cons_succ, List.flatMap_cons] at h
    rw [List.flatMap_cons] at nd ⊢
    rcases List.mem_append.mp h with h | h
    · exact .inr ⟨List.mem_append_left _ h, fun q => (List.nodup_append.mp nd).2.2 a h a (List.mem_flatMap.mpr ⟨x, List.mem_of_getElem? (show L[i]? = some x from hx), q⟩) rfl⟩
    · exact (flat_mem (show L[i]? = some x from hx) (List.nodup_append.mp nd).2.1 h).imp id fun q => ⟨List.mem_append_right _ q.1, q.2⟩
theorem flat_nodup : ∀ {L : List α} {i : Nat} {x y : α}, L[i]? = some x → (L.flatMap g).Nodup → (g y).Nodup → (∀ a ∈ g y, a ∈ g x ∨ a ∉ L.flatMap g) → ((L.set i y).flatMap g).Nodup
  | z :: L, 0, x, y, hx, nd, ny, h => by
    have e : z = x := Option.some.inj hx
    subst e
    rw [List.set_cons_zero, List.flatMap_cons]
    rw [List.flatMap_cons] at nd h
    have q := List.nodup_append.mp nd
    refine List.nodup_append.mpr ⟨ny, q.2.1, fun a ha b hb e => ?_⟩
    subst e
    rcases h a ha with h | h
    · exact q.2.2 a h a hb rfl
    · exact h (List.mem_append_right _ hb)
  | z :: L, i + 1, x, y, hx, nd, ny, h => by
    rw [List.set_cons_succ, List.flatMap_cons]
    rw [List.flatMap_cons] at nd h
    have hx' : L[i]? = some x := hx
    have q := List.nodup_append.mp nd
    refine List.nodup_append.mpr ⟨q.1, flat_nodup hx' q.2.1 ny fun a ha => (h a ha).imp id fun w z => w (List.mem_append_right _ z), fun a ha b hb e => ?_⟩
    subst e
    rcases flat_mem hx' q.2.1 hb with w | w
    · rcases h a w with v | v
      · exact q.2.2 a ha a (List.mem_flatMap.mpr ⟨x, List.mem_of_getElem? hx', v⟩) rfl
      · exact v (List.mem_append_left _ ha)
    · exact q.2.2 a ha a w.1 rfl
end
theorem modL_set {α : Type} {f : T α → T α} : ∀ {xs : List (T α)} {i : Nat} {p : List Nat} {y : T α}, xs[i]? = some y → modL f xs i p = xs.set i (y.mod f p)
  | x :: xs, 0, p, y, h => by
    have e : x = y := Option.some.inj h
    subst e
    rfl
  | x :: xs, i + 1, p, y, h => by
    rw [modL, modL_set (show xs[i]? = some y from h)]
    rfl
theorem mod_nil {α : Type} (f : T α → T α) (t : T α) : t.mod f [] = f t := by cases t <;> rfl
/-- what a turned tree owns -/
theorem adr_mod {q : Mk} {f : A → A} : ∀ {p : List Nat} {t x : A}, getT t p = some x → (adr q t).Nodup → (∀ k m a xs, f (.nd k m a xs) = .nd k m a xs ∨ True) → ∀ a ∈ adr q (t.mod f p), a ∈ adr q (f x) ∨ (a ∈ adr q t ∧ a ∉ adr q x)
  | [], t, x, h, nd, _, a, ha => by
    rw [getT_nil] at h; cases h
    rw [mod_nil] at ha
    exact .inl ha
  | i :: p, t, x, h, nd, hf, a, ha => by
    obtain ⟨k, m, b, xs, y, rfl, hy, hx⟩ := getT_cons h
    have ha : a ∈ (if m = q then ndA k b else []) ++ adrL q (modL f xs i p) := ha
    have nd' : ((if m = q then ndA k b else []) ++ adrL q xs).Nodup := nd
    have hn := List.nodup_append.mp nd'
    rcases List.mem_append.mp ha with h1 | h1
    · exact .inr ⟨List.mem_append_left _ h1, fun z => hn.2.2 a h1 a (adrL_mem (List.mem_of_getElem? hy) (adr_get hx a z)) rfl⟩
    · rw [modL_set hy, adrL_eq] at h1
      have hk := hn.2.1
      rw [adrL_eq] at hk
      rcases flat_mem hy hk h1 with h2 | h2
      · rcases adr_mod hx (nodup_of_mem (nodup_kids nd) (List.mem_of_getElem? hy)) hf a h2 with w | w
        · exact .inl w
        · exact .inr ⟨adr_nd_kids (adrL_mem (List.mem_of_getElem? hy) w.1), w.2⟩
      · refine .inr ⟨adr_nd_kids (by rw [adrL_eq]; exact h2.1), fun z => h2.2 (adr_get hx a z)⟩
theorem adr_mod_nodup {q : Mk} {f : A → A} : ∀ {p : List Nat} {t x : A}, getT t p = some x → (adr q t).Nodup → (adr q (f x)).Nodup → (∀ a ∈ adr q (f x), a ∈ adr q x ∨ a ∉ adr q t) → (adr q (t.mod f p)).Nodup
  | [], t, x, h, nd, nf, hd => by
    rw [getT_nil] at h; cases h
    rw [mod_nil]; exact nf
  | i :: p, t, x, h, nd, nf, hd => by
    obtain ⟨k, m, b, xs, y, rfl, hy, hx⟩ := getT_cons h
    have nd' : ((if m = q then ndA k b else []) ++ adrL q xs).Nodup := nd
    have hn := List.nodup_append.mp nd'
    have hk := hn.2.1
    have hym := List.mem_of_getElem? hy
    have ny : (adr q (y.mod f p)).Nodup := adr_mod_nodup hx (nodup_of_mem (nodup_kids nd) hym) nf fun a ha => (hd a ha).imp id fun w z => w (adr_nd_kids (adrL_mem hym z))
    have my : ∀ a ∈ adr q (y.mod f p), a ∈ adr q y ∨ a ∉ adr q (T.nd k m b xs) := fun a ha => by
      rcases adr_mod hx (nodup_of_mem (nodup_kids nd) hym) (fun _ _ _ _ => .inr trivial) a ha with w | w
      · rcases hd a w with v | v
        · exact .inl (adr_get hx a v)
        · exact .inr v
      · exact .inl w.1
    show ((if m = q then ndA k b else []) ++ adrL q (modL f xs i p)).Nodup
    rw [modL_set hy, adrL_eq]
    rw [adrL_eq] at hk
    refine List.nodup_append.mpr ⟨hn.1, flat_nodup hy hk ny fun a ha => (my a ha).imp id fun w z => w (adr_nd_kids (by rw [adrL_eq]; exact z)), fun a ha c hc e => ?_⟩
    subst e
    rcases flat_mem hy hk hc with w | w
    · rcases my a w with v | v
      · exact hn.2.2 a ha a (adrL_mem hym v) rfl
      · exact v (List.mem_append_left _ ha)
    · exact hn.2.2 a ha a (by rw [adrL_eq]; exact w.1) rfl
theorem root_nob {X : Ctx} {F H : Hp} : ∀ {p : List Nat} {t x : A}, Ok X F H t → getT t p = some x → isO x = true → t.nob = true
  | [], t, x, ok, h, io => by
    rw [getT_nil] at h; cases h
    cases t with
    | nd k m a xs =>
      cases m with
      | o =>
        rw [T.nob, T.all, Bool.and_eq_true]
        exact ⟨rfl, ok.1.2.2.2⟩
      | _ => cases io
    | _ => cases io
  | i :: p, t, x, ok, h, io => by
    obtain ⟨k, m, b, xs, y, rfl, hy, hx⟩ := getT_cons h
    obtain ⟨z, hz⟩ := own_of_isO io
    have hzx := adrL_mem (List.mem_of_getElem? hy) (adr_get hx z hz)
    obtain ⟨⟨sh, n⟩, l⟩ := ok
    cases m with
    | c => rw [adrL_nil rfl n.2] at hzx; cases hzx
    | b => rw [n.2.1] at hzx; cases hzx
    | o =>
      rw [T.nob, T.all, Bool.and_eq_true]
      exact ⟨rfl, n.2.2⟩

theorem set_same {α : Type} : ∀ {L : List α} {i : Nat} {x : α}, L[i]? = some x → L.set i x = L
  | y :: L, 0, x, h => by
    have e : y = x := Option.some.inj h
    subst e
    rfl
  | y :: L, i + 1, x, h => by rw [List.set_cons_succ, set_same (show L[i]? = some x from h)]
theorem Stt.knUp {X : Ctx} {F F' H H' : Hp} {r : AR} {σ : St} (s : Stt X F H r σ) (hf : ∀ a u, F a = some u → F' a = some u) : (∀ c ∈ X.cells, F' c.1 = some c.2) ∧ ∀ z ∈ X.known, z.cold = true ∧ Ok X F' H' z :=
  ⟨fun c hc => hf _ _ (s.kn.1 c hc), fun z hz => ⟨(s.kn.2 z hz).1, Ok.stay (s.kn.2 z hz).2 (T.all_imp (fun m hm => by cases m <;> first | rfl | exact absurd hm Bool.false_ne_true) (s.kn.2 z hz).1) hf fun a ha => by rw [cold_own (s.kn.2 z hz).1] at ha; cases ha⟩⟩
/-! ### in a frame -/
def modS {α : Type} (f : T α → T α) (r : List (Option (T α))) (i : Nat) (p : List Nat) : List (Option (T α)) := match r[i]? with
  | some (some t) => r.set i (some (t.mod f p))
  | _ => r
theorem modS_at {α : Type} {f : T α → T α} {r : List (Option (T α))} {i : Nat} {p : List Nat} {t : T α} (h : r[i]? = some (some t)) : modS f r i p = r.set i (some (t.mod f p)) := by
  unfold modS; rw [h]
theorem erR_get {r : AR} {i : Nat} : (erR r)[i]? = r[i]?.map (Option.map er) := by unfold erR; rw [List.getElem?_map]
theorem getR_er {r : AR} {i : Nat} {p : List Nat} {d : D} (h : getR (erR r) i p = some d) : ∃ x0 x, r[i]? = some (some x0) ∧ getT x0 p = some x ∧ er x = d := by
  unfold getR at h
  rw [erR_get] at h
  cases e : r[i]? with
  | none => rw [e] at h; cases h
  | some o =>
    rw [e] at h
    cases o with
    | none => cases h
    | some x0 =>
      have h : getT (er x0) p = some d := h
      rw [getT_map] at h
      cases q : getT x0 p with
      | none => rw [q] at h; cases h
      | some x => rw [q] at h; exact ⟨x0, x, rfl, q, Option.some.inj h⟩
section
variable {X : Ctx} {F F' H H' : Hp} {r : AR} {σ : St} {i : Nat} {p : List Nat} {x0 x : A} {f : A → A}
theorem slot_mem (h : r[i]? = some (some x0)) : some x0 ∈ r := List.mem_of_getElem? h
theorem Stt.slotOk (s : Stt X F H r σ) (h : r[i]? = some (some x0)) : Ok X F H x0 := s.ok x0 (slot_mem h)
theorem Stt.slotNd (s : Stt X F H r σ) (h : r[i]? = some (some x0)) : (own x0).Nodup := by
  have key : ∀ {L : AR}, (adrR .o L).Nodup → some x0 ∈ L → (own x0).Nodup := by
    intro L
    induction L with
    | nil => intro _ h; cases h
    | cons o L ih =>
      intro nd hm
      unfold adrR at nd
      rw [List.flatMap_cons] at nd
      rcases List.mem_cons.mp hm with e | hm
      · subst e; exact (List.nodup_append.mp nd).1
      · exact ih (List.nodup_append.mp nd).2.1 hm
  exact key s.nd (slot_mem h)
theorem Stt.own_sub (h : r[i]? = some (some x0)) : ∀ a ∈ own x0, a ∈ adrR .o r := fun a ha => mem_adrR.mpr ⟨x0, slot_mem h, ha⟩
/-- a slot's owned node is turned: the state behind it -/
theorem Stt.mod (s : Stt X F H r σ) (hi : r[i]? = some (some x0)) (hx : getT x0 p = some x) (io : isO x = true) (ev : Vl.val (f x) = Vl.val x) (ok' : Ok X F' H' (f x)) (nb : (f x).nob = true) (nd' : (own (f x)).Nodup)
    (ow : ∀ a ∈ own (f x), a ∈ own x ∨ a ∉ adrR .o r) (bs : ∀ b ∈ adrR .b r, b ∉ own (f x) ∨ b ∈ adrR .o r) (hf : ∀ a u, F a = some u → F' a = some u) (hh : ∀ a u, a ∉ own x → H a = some u → H' a = some u) (fr : ∀ a ∈ adrR .o r, a ∉ own x → F' a = none) (sub : Sub F' H') :
    Stt X F' H' (modS f r i p) σ := by
  have e := modS_at (f := f) (p := p) hi
  have rn := root_nob (s.slotOk hi) hx io
  have hset : ∀ y, some y ∈ modS f r i p → y = x0.mod f p ∨ ∃ j, j ≠ i ∧ r[j]? = some (some y) := fun y hy => by
    rw [e] at hy
    obtain ⟨j, hj⟩ := List.mem_iff_getElem?.mp hy
    by_cases q : j = i
    · subst q
      rw [List.getElem?_set_self (by exact (List.getElem?_eq_some_iff.mp hi).1)] at hj
      exact .inl (Option.some.inj (Option.some.inj hj)).symm
    · rw [List.getElem?_set_ne (Ne.symm q)] at hj
      exact .inr ⟨j, q, hj⟩
  have hg : ∀ q, adrR q (modS f r i p) = (r.set i (some (x0.mod f p))).flatMap (adrO q) := fun q => by rw [e]; rfl
  have far : ∀ (j : Nat) (y : A), j ≠ i → r[j]? = some (some y) → ∀ a ∈ own y, a ∉ own x0 := by
    have key : ∀ {L : AR} {i j : Nat} {y : A}, (L.flatMap (adrO .o)).Nodup → L[i]? = some (some x0) → j ≠ i → L[j]? = some (some y) → ∀ a ∈ own y, a ∉ own x0 := by
      intro L
      induction L with
      | nil => intro i j y _ h; cases h
      | cons o L ih =>
        intro i j y nd hi hj hjy a ha hax
        rw [List.flatMap_cons] at nd
        have q := List.nodup_append.mp nd
        cases i with
        | zero =>
          have : o = some x0 := Option.some.inj hi
          subst this
          cases j with
          | zero => exact hj rfl
          | succ j => exact q.2.2 a hax a (List.mem_flatMap.mpr ⟨some y, List.mem_of_getElem? (show L[j]? = _ from hjy), ha⟩) rfl
        | succ i =>
          cases j with
          | zero =>
            have : o = some y := Option.some.inj hjy
            subst this
            exact q.2.2 a ha a (List.mem_flatMap.mpr ⟨some x0, List.mem_of_getElem? (show L[i]? = _ from hi), hax⟩) rfl
          | succ j => exact ih q.2.1 (show L[i]? = _ from hi) (fun z => hj (by rw [z])) (show L[j]? = _ from hjy) a ha hax
    exact fun j y hj hjy => key s.nd hi hj hjy
  refine ⟨?_, fun y hy => ?_, ?_, fun b hb => ?_, sub, s.fx, s.knUp hf⟩
  · rw [s.val, e]
    unfold valR
    rw [List.map_set]
    have ee : (Option.map Vl.val (some (x0.mod f p))) = some (Vl.val x0) := by
      show some (Vl.val (x0.mod f p)) = _
      rw [val_mod hx ev]
    rw [ee]
    have hv : (List.map (Option.map Vl.val) r)[i]? = some (some (Vl.val x0)) := by rw [List.getElem?_map, hi]; rfl
    exact (set_same hv).symm
  · rcases hset y hy with rfl | ⟨j, hj, hjy⟩
    · exact (s.slotOk hi).mod hx io (s.slotNd hi) ev ok' nb hf fun a ha hax => by
        have hin := Stt.own_sub hi a ha
        obtain ⟨h1, h2⟩ := s.own_there hin
        refine ⟨?_, fr a hin hax⟩
        cases q : H a with
        | none => exact absurd q h1
        | some u => exact hh a u hax q
    · have hyr : some y ∈ r := List.mem_of_getElem? hjy
      have oky := s.ok y hyr
      have hno : ∀ a ∈ own y, a ∉ own x := fun a ha hax => far j y hj hjy a ha (adr_get hx a hax)
      -- nothing of y stands at an address of x
      have key : ∀ n, ∀ z : A, sizeOf z < n → Ok X F H z → (∀ a ∈ own z, a ∈ adrR .o r ∧ a ∉ own x) → (∀ b ∈ bor z, b ∈ adrR .b r) → Ok X F' H' z := by
        intro n
        induction n with
        | zero => intro z h; exact absurd h (Nat.not_lt_zero _)
        | succ n ih =>
          intro z hn ok ho hbz
          cases z with
          | nd k m a xs =>
            obtain ⟨⟨sh, nn⟩, l⟩ := ok
            refine ⟨⟨sh, ?_⟩, OkL_iff.mpr fun w hw => ih w ?_ (OkL_iff.mp l w hw) (fun c hc => ho c (adr_nd_kids (adrL_mem hw hc))) fun c hc => hbz c (adr_nd_kids (adrL_mem hw hc))⟩
            · cases m with
              | c => exact ⟨nn.1.same hf, nn.2⟩
              | o =>
                have hh2 : ∀ c ∈ ndA k a, H' c = H c ∧ F' c = none := fun c hc => by
                  have w := ho c (List.mem_append_left _ (by rw [if_pos rfl]; exact hc))
                  refine ⟨?_, fr c w.1 w.2⟩
                  cases q : H c with
                  | none => exact absurd q (nn.1.there c hc)
                  | some u => exact hh c u w.2 q
                exact ⟨nn.1.keep fun c hc => (hh2 c hc).1, fun c hc => (hh2 c hc).2, nn.2.2⟩
              | b =>
                refine ⟨?_, nn.2.1, ?_⟩
                rotate_left
                · intro c hc
                  have w := hbz c (List.mem_append_left _ (by rw [if_pos rfl]; exact hc))
                  have nx : c ∉ own x := fun hcx => s.bd c w (Stt.own_sub hi c (adr_get hx c hcx))
                  cases e : H c with
                  | none => exact absurd e (nn.2.2 c hc)
                  | some u => rw [hh c u nx e]; exact fun z => by cases z
                have hb2 : ∀ c ∈ ndA k a, c ∉ own x := fun c hc hcx => by
                  have w := hbz c (List.mem_append_left _ (by rw [if_pos rfl]; exact hc))
                  exact s.bd c w (Stt.own_sub hi c (adr_get hx c hcx))
                have rd : ∀ {c u}, c ∉ own x → Rd H c u → Rd H' c u := fun {c u} hc h => by
                  rcases h with h | ⟨o, h⟩
                  · exact .inl (hh _ _ hc h)
                  · exact .inr ⟨o, hh _ _ hc h⟩
                have n1 := hb2 a.1 ndA_fst
                cases k with
                | lst => exact hh _ _ n1 nn.1
                | scr => exact nn.1.imp (rd n1) id
                | tup => exact nn.1.imp (rd n1) id
                | dct ks => exact rd n1 nn.1
                | dtt ks => exact rd n1 nn.1
                | ins C fs => exact ⟨hh _ _ n1 nn.1.1, hh _ _ (hb2 a.2 (by simp [ndA])) nn.1.2⟩
                | exn C fs => exact nn.1.imp id fun ⟨gs, h, z⟩ => ⟨gs, hh _ _ (hb2 a.2 (by simp [ndA])) h, z⟩
            · have h1 := List.sizeOf_lt_of_mem hw
              have h2 := T.nd.sizeOf_spec k m a xs
              omega
          | _ => trivial
      exact key _ y (Nat.lt_succ_self _) oky (fun a ha => ⟨mem_adrR.mpr ⟨y, hyr, ha⟩, hno a ha⟩) fun b hb => mem_adrR.mpr ⟨y, hyr, hb⟩
  · rw [hg]
    refine flat_nodup (x := some x0) hi s.nd (adr_mod_nodup hx (s.slotNd hi) nd' fun a ha => (ow a ha).imp id fun w z => w (Stt.own_sub hi a z)) fun a ha => ?_
    rcases adr_mod hx (s.slotNd hi) (fun _ _ _ _ => .inr trivial) a ha with w | w
    · rcases ow a w with v | v
      · exact .inl (adr_get hx a v)
      · exact .inr v
    · exact .inl w.1
  · have hb' : b ∈ adrR .b r := by
      obtain ⟨y, hy, hby⟩ := mem_adrR.mp hb
      rcases hset y hy with rfl | ⟨j, hj, hjy⟩
      · have q0 : adr .b (x0.mod f p) = [] := nob_bor (mod_nob rn hx nb)
        rw [q0] at hby; cases hby
      · exact mem_adrR.mpr ⟨y, List.mem_of_getElem? hjy, hby⟩
    intro hbo
    rw [hg] at hbo
    have hbx := s.bd b hb'
    rcases flat_mem (x := some x0) hi s.nd hbo with w | w
    · rcases adr_mod hx (s.slotNd hi) (fun _ _ _ _ => .inr trivial) b w with v | v
      · rcases bs b hb' with u | u
        · exact u v
        · exact hbx u
      · exact hbx (Stt.own_sub hi b v.1)
    · exact hbx w.1
theorem erR_mod {g : D → D} (hi : r[i]? = some (some x0)) (hx : getT x0 p = some x) (e : er (f x) = g (er x)) : erR (modS f r i p) = modS g (erR r) i p := by
  have hi' : (erR r)[i]? = some (some (er x0)) := by rw [erR_get, hi]; rfl
  rw [modS_at hi, modS_at hi']
  unfold erR
  rw [List.map_set]
  show (List.map (Option.map er) r).set i (some (er (x0.mod f p))) = _
  rw [show er (x0.mod f p) = T.mod g (er x0) p from mod_map _ hx e]
end
end Vl
/-! The value layer, 8: places as expressions, looks, settling; tests; subscripts; lengths; slices; displays. -/
namespace Vl
open PySem PySem.Spec PyProof.Rows L2

def PostP (X : Ctx) (W : WX) (σ : St) (F H : Hp) (r : AR) (res : R (Nat × List Nat)) (Q : VK) : Prop := match res with
  | .bad => False
  | .ok q ρ' => ∀ F' H' r' x0 x, Grow F H r F' H' r' → Stt X F' H' r' σ → erR r' = ρ' → r'[q.1]? = some (some x0) → getT x0 q.2 = some x → Q (val x) H'
  | .exc C fs ρ' => ∀ F' H' r' dx, Grow F H r F' H' r' → Stt X F' H' r' σ → erR r' = ρ' → XOk X F' H' dx fs → W (.ref (X.ca C)) dx σ H'
def rdP (X : Ctx) (W : WX) (f : Pv) (ρ : Env) : TE := fun σ H Q => ∃ F r, Stt X F H r σ ∧ erR r = ρ ∧ PostP X W σ F H r (f ρ) Q
/-- the expression e is the place f -/
structure CP (ca : Ca) (C : Cx) (W : WX) (e : Expr) (f : Pv) : Prop where
  run : ∀ ρ, PE C e (rdP ⟨C.K, ca.f, ca.fix, ca.cells, ca.known⟩ W f ρ)
def E.tk (p : Pv) : Ev := fun ρ => (p ρ).bind fun q ρ1 => match getR ρ1 q.1 q.2 with
  | some d => if d.cold = true then .ok d ρ1 else if d.nob = true then .ok d.fz (modS T.fz ρ1 q.1 q.2) else .bad
  | none => .bad
theorem flat_set_eq {α : Type} {g : α → List Addr} : ∀ {L : List α} {i : Nat} {x y : α}, L[i]? = some x → g y = g x → (L.set i y).flatMap g = L.flatMap g
  | z :: L, 0, x, y, h, e => by
    have e1 : z = x := Option.some.inj h
    subst e1
    rw [List.set_cons_zero, List.flatMap_cons, List.flatMap_cons, e]
  | z :: L, i + 1, x, y, h, e => by
    rw [List.set_cons_succ, List.flatMap_cons, List.flatMap_cons, flat_set_eq (show L[i]? = some x from h) e]
section
variable {X : Ctx} {F F' H H' : Hp} {r : AR} {σ : St} {i : Nat} {p : List Nat} {x0 x : A}
theorem isO_of {x : A} (ok : Ok X F H x) (nb : x.nob = true) (nc : ¬ x.cold = true) : isO x = true := by
  cases x with
  | nd k m a xs =>
    cases m with
    | o => rfl
    | c => exact absurd (by rw [T.cold, T.all, Bool.and_eq_true]; exact ⟨rfl, ok.1.2.2⟩) nc
    | b => rw [T.nob, T.all, Bool.and_eq_true] at nb; exact absurd nb.1 Bool.false_ne_true
  | _ => exact absurd rfl nc
/-- an owned node of a slot is settled -/
theorem Stt.settle (s : Stt X F H r σ) (hi : r[i]? = some (some x0)) (hx : getT x0 p = some x) (io : isO x = true) (nb : x.nob = true) :
    Stt X (frz F H (own x)) H (modS T.fz r i p) σ ∧ Grow F H r (frz F H (own x)) H (modS T.fz r i p) ∧ Ok X (frz F H (own x)) H x.fz := by
  have okx := (s.slotOk hi).get hx
  have sub : ∀ a ∈ own x, a ∈ adrR .o r := fun a ha => Stt.own_sub hi a (adr_get hx a ha)
  have ff : ∀ a u, F a = some u → frz F H (own x) a = some u := fun a u q => by
    rw [frz_out (fun ha => by rw [(okx.own_there a ha).2] at q; cases q)]; exact q
  have okf : Ok X (frz F H (own x)) H x.fz := okx.fz nb ff fun a ha => frz_in ha
  have cf := fz_cold x
  have rn := root_nob (s.slotOk hi) hx io
  have sb : Sub (frz F H (own x)) H := fun a u q => by
    by_cases ha : a ∈ own x
    · rw [frz_in ha] at q; exact .inl q
    · rw [frz_out ha] at q; exact s.sub a u q
  have e := modS_at (f := T.fz) (p := p) hi
  refine ⟨s.mod hi hx io (val_mk _ x) okf (allL_isC_nob cf) (by rw [cold_own cf]; exact List.nodup_nil) (fun a ha => by rw [cold_own cf] at ha; cases ha) (fun b hb => .inl (by rw [cold_own cf]; exact fun z => by cases z)) ff (fun a u _ q => q) (fun a ha hax => by rw [frz_out hax]; exact (s.own_there ha).2) sb,
    ⟨fun _ _ q => q, ff, fun a q q' => ?_, fun a ha => ?_, fun b => ?_, ?_⟩, okf⟩
  · by_cases ha : a ∈ own x
    · exact .inr (sub a ha)
    · rw [frz_out ha] at q'; exact absurd q q'
  · rw [e] at ha
    have ha : a ∈ (r.set i (some (x0.mod T.fz p))).flatMap (adrO .o) := ha
    rcases flat_mem (x := some x0) hi s.nd ha with w | w
    · rcases adr_mod hx (s.slotNd hi) (fun _ _ _ _ => .inr trivial) a w with v | v
      · have v : a ∈ own x.fz := v
        rw [cold_own cf] at v; cases v
      · exact Stt.own_sub hi a v.1
    · exact w.1
  · rw [e]
    have q1 : adr .b (x0.mod T.fz p) = [] := nob_bor (mod_nob rn hx (allL_isC_nob cf))
    have q2 : adr .b x0 = [] := nob_bor rn
    have q : adrR .b (r.set i (some (x0.mod T.fz p))) = adrR .b r := flat_set_eq (g := adrO .b) (x := some x0) hi (by show adr .b _ = adr .b _; rw [q1, q2])
    rw [q]
  · rw [e]
    unfold fzR
    rw [List.map_set]
    have h1 : (List.map (Option.map T.fz) r)[i]? = some (some x0.fz) := by rw [List.getElem?_map, hi]; rfl
    have h2 : Option.map T.fz (some (x0.mod T.fz p)) = some x0.fz := by
      show some (T.fz (x0.mod T.fz p)) = some x0.fz
      rw [show T.fz (x0.mod T.fz p) = x0.fz from mod_mk hx (by
        show (x.mk calm).mk calm = x.mk calm
        exact T.mk_cold rfl cf)]
    rw [h2]
    exact set_same h1
where
  allL_isC_nob {x : A} (h : x.cold = true) : x.nob = true := T.all_imp (fun m hm => by cases m <;> first | rfl | exact absurd hm Bool.false_ne_true) h
end
section
variable {ca : Ca} {C : Cx} {W : WX} {e : Expr} {pv : Pv} {f : Ev}
/-- a place looked at -/
theorem ce_at (h : CP ca C W e pv) : CE ca C W e (E.at pv) := ⟨fun ρ => by
  refine PE.mono (h.run ρ) fun σ H Q ⟨F, r, s, e, p⟩ => ⟨F, r, s, e, ?_⟩
  unfold E.at at p
  cases hp : pv ρ with
  | bad => rw [hp] at p; exact p
  | exc c fs ρ1 => rw [hp] at p; exact p
  | ok q ρ1 =>
    rw [hp, R.ok_bind] at p
    intro F1 H1 r1 x0 x g1 s1 e1 hi hx
    have hg : getR ρ1 q.1 q.2 = some (er x) := by
      rw [← e1]
      unfold getR
      rw [erR_get, hi]
      show getT (er x0) q.2 = _
      rw [getT_map, hx]; rfl
    rw [hg] at p
    have okx := (s1.slotOk hi).get hx
    have := p F1 H1 r1 x.vw g1 s1 e1 okx.vw (T.map_mk _ _ x) ⟨by rw [adr_vw_o]; exact List.nodup_nil, by rw [adr_vw_o]; exact fun _ z => (by cases z), fun b hb => ?_⟩
    · rw [show val x.vw = val x from val_mk _ x] at this; exact this
    · rcases adr_vw_b x b hb with w | w
      · exact .inl (g1.ow b (Stt.own_sub hi b (adr_get hx b w)))
      · exact .inr ((g1.bo b).mp (mem_adrR.mpr ⟨x0, slot_mem hi, adr_get hx b w⟩))⟩
/-- a place settled -/
theorem ce_tk (h : CP ca C W e pv) : CE ca C W e (E.tk pv) := ⟨fun ρ => by
  refine PE.mono (h.run ρ) fun σ H Q ⟨F, r, s, e, p⟩ => ⟨F, r, s, e, ?_⟩
  unfold E.tk at p
  cases hp : pv ρ with
  | bad => rw [hp] at p; exact p
  | exc c fs ρ1 => rw [hp] at p; exact p
  | ok q ρ1 =>
    rw [hp, R.ok_bind] at p
    intro F1 H1 r1 x0 x g1 s1 e1 hi hx
    have hg : getR ρ1 q.1 q.2 = some (er x) := by
      rw [← e1]
      unfold getR
      rw [erR_get, hi]
      show getT (er x0) q.2 = _
      rw [getT_map, hx]; rfl
    rw [hg] at p
    have okx := (s1.slotOk hi).get hx
    have hc : (er x).cold = x.cold := T.all_map _ _ x
    have hn : (er x).nob = x.nob := T.all_map _ _ x
    dsimp only at p
    by_cases c : x.cold = true
    · rw [if_pos (hc.trans c)] at p
      exact p F1 H1 r1 x g1 s1 e1 okx rfl (VOk.cold c)
    · rw [if_neg (fun z => c (hc.symm.trans z))] at p
      by_cases n : x.nob = true
      · rw [if_pos (hn.trans n)] at p
        obtain ⟨s2, g2, ok2⟩ := s1.settle hi hx (isO_of okx n c) n
        have := p _ H1 _ x.fz (g1.trans s1 g2) s2 (by rw [erR_mod (g := T.fz) hi hx (T.map_mk _ _ x), e1]) ok2 (T.map_mk _ _ x) (VOk.cold (fz_cold x))
        rw [show val x.fz = val x from val_mk _ x] at this
        exact this
      · rw [if_neg (fun z => n (hn.symm.trans z))] at p
        exact p.elim⟩
theorem cp_var {i : Nat} {x : Str} {pos : Pos} (hN : C.N[i]? = some x := by rfl) (hv : Vis C.env.scope x := by first | exact Or.inl rfl | exact Or.inr (Or.inl rfl) | exact Or.inr (Or.inr rfl)) (hd : (x == ("__debug__" : Str)) = false := by decide)
    (hcd : (x == ("__classdict__" : Str)) = false := by decide) : CP ca C W (.Name x pos) (P.var i) := ⟨fun ρ => by
  refine PE.mono (pe_var hN hv hd hcd) fun σ H Q ⟨F, r, s, e, p⟩ => ?_
  unfold P.var at p
  have er' := erR_get (r := r) (i := i)
  rw [e] at er'
  cases hr : r[i]? with
  | none => rw [er', hr] at p; exact p.elim
  | some o =>
    cases o with
    | none => rw [er', hr] at p; exact p.elim
    | some x0 =>
      rw [er', hr] at p
      exact ⟨val x0, by rw [s.val]; unfold valR; rw [List.getElem?_map, hr]; rfl, p F H r x0 x0 .refl s e hr (getT_nil _)⟩⟩
end
end Vl
/-! The value layer, 9: tests, comparisons, subscripts, lengths, slices, displays, fields. -/
namespace Vl
open PySem PySem.Spec PyProof.Rows L2

/-- the expression e, as a test, is worth f -/
structure CT (ca : Ca) (C : Cx) (W : WX) (e : Expr) (f : Ev) : Prop where
  run : ∀ ρ, PT C e (tTest (rdE ⟨C.K, ca.f, ca.fix, ca.cells, ca.known⟩ W f ρ))
/-- .. whatever its whole is -/
structure CW (ca : Ca) (C : Cx) (W : WX) (e : Expr) (f : Ev) : Prop where
  run : ∀ ρ, PW C e (tTest (rdE ⟨C.K, ca.f, ca.fix, ca.cells, ca.known⟩ W f ρ))
def E.and (f g : Ev) : Ev := fun ρ => (f ρ).bind fun d ρ1 => match d with
  | .bl true => g ρ1
  | .bl false => .ok (.bl false) ρ1
  | _ => .bad
def E.or (f g : Ev) : Ev := fun ρ => (f ρ).bind fun d ρ1 => match d with
  | .bl true => .ok (.bl true) ρ1
  | .bl false => g ρ1
  | _ => .bad
def E.ite (c f g : Ev) : Ev := fun ρ => (c ρ).bind fun d ρ1 => match d with
  | .bl true => f ρ1
  | .bl false => g ρ1
  | _ => .bad
def D.not : D → Option D
  | .bl b => some (.bl (!b))
  | _ => none
def D.tru : D → Option D
  | .non => some (.bl false)
  | .bl b => some (.bl b)
  | .int i => some (.bl (i != 0))
  | .str x => if x.length ≤ sizeLine then some (.bl ((x.length : Int) != 0)) else none
  | .nd .lst _ _ xs => some (.bl (!xs.isEmpty))
  | .nd .tup _ _ xs => some (.bl (!xs.isEmpty))
  | .nd .scr _ _ xs => some (.bl (!xs.isEmpty))
  | _ => none
/-- a comparison behind a comparison -/
def E.chain (g g' : D → D → Option D) (f1 f2 f3 : Ev) : Ev := fun ρ => (f1 ρ).bind fun d1 ρ1 => (f2 ρ1).bind fun d2 ρ2 => match g d1 d2 with
  | some (.bl true) => (f3 ρ2).bind fun d3 ρ3 => R.of (g' d2 d3) ρ3
  | some (.bl false) => .ok (.bl false) ρ2
  | _ => .bad
section
variable {X : Ctx} {W : WX} {σ : St} {F H : Hp} {r : AR}
/-- a reading of a known plain value -/
theorem PostE.bl {k : Bool} {ρ' : Env} {Q : VK} {F1 H1 : Hp} {r1 : AR} (p : PostE X W σ F H r (.ok (.bl k) ρ') Q) (g : Grow F H r F1 H1 r1) (s : Stt X F1 H1 r1 σ) (e : erR r1 = ρ') : Q (.bl k) H1 :=
  p F1 H1 r1 (.bl k) g s e trivial rfl ⟨List.nodup_nil, fun _ z => (by cases z), fun _ z => (by cases z)⟩
theorem PostE.back {res : R D} {Q : VK} {F1 H1 : Hp} {r1 : AR} (g : Grow F H r F1 H1 r1) (s : Stt X F1 H1 r1 σ) (p : PostE X W σ F H r res Q) : PostE X W σ F1 H1 r1 res Q := by
  cases res with
  | bad => exact p
  | ok d ρ' => exact fun F' H' r' x g' s' e' ok ex v => p F' H' r' x (g.trans s g') s' e' ok ex (v.back g)
  | exc c fs ρ' => exact fun F' H' r' dx g' s' e' x => p F' H' r' dx (g.trans s g') s' e' x
theorem PostE.imp {res : R D} {Q Q' : VK} (p : PostE X W σ F H r res Q) (h : ∀ v H, Q v H → Q' v H) : PostE X W σ F H r res Q' := by
  cases res with
  | bad => exact p
  | ok d ρ' => exact fun F' H' r' x g' s' e' ok ex v => h _ _ (p F' H' r' x g' s' e' ok ex v)
  | exc c fs ρ' => exact p
end
theorem rdE.imp {X : Ctx} {W : WX} {f : Ev} {ρ : Env} {σ : St} {H : Hp} {Q Q' : VK} (h : rdE X W f ρ σ H Q) (i : ∀ v H, Q v H → Q' v H) : rdE X W f ρ σ H Q' := by
  obtain ⟨F, r, s, e, p⟩ := h
  exact ⟨F, r, s, e, p.imp i⟩
section
variable {ca : Ca} {C : Cx} {W : WX} {e a b c : Expr} {f g h : Ev} {rest : List Expr} {pos : Pos} {ρ : Env}
theorem ct_truth (ha : CE ca C W a f) (he : ∀ whole, isTrue a C.env whole = (do let v ← whole; standAt a.pos; holding [v] (truthy v)) := by intro _; rfl) : CT ca C W a (E.un D.tru f) := ⟨fun ρ => by
  refine PT.mono (pt_truth (ha.run ρ) he) fun σ H Q ⟨F, r, s, e, p⟩ => ⟨F, r, s, e, ?_⟩
  unfold E.un at p
  cases hf : f ρ with
  | bad => rw [hf] at p; exact p.elim
  | exc c fs ρ1 => rw [hf] at p; exact p
  | ok d ρ1 =>
    rw [hf, R.ok_bind] at p
    intro F1 H1 r1 x g1 s1 e1 ok1 ex1 v1
    subst ex1
    have fin : ∀ k, D.tru (er x) = some (.bl k) → Q k H1 := fun k hk => by
      rw [hk] at p
      obtain ⟨k', e', q⟩ := PostE.bl p g1 s1 e1
      cases e'
      exact q
    cases x with
    | non => exact ⟨false, rfl, fin _ rfl⟩
    | bl k => exact ⟨k, rfl, fin _ rfl⟩
    | int i => exact ⟨i != 0, rfl, fin _ rfl⟩
    | str z =>
      by_cases hz : z.length ≤ sizeLine
      · exact ⟨_, ⟨hz, rfl⟩, fin _ (by show (if z.length ≤ sizeLine then some (T.bl ((z.length : Int) != 0)) else none) = _; rw [if_pos hz])⟩
      · have : D.tru (er (.str z : A)) = none := by show (if z.length ≤ sizeLine then some (T.bl ((z.length : Int) != 0)) else none) = _; rw [if_neg hz]
        rw [this] at p; exact p.elim
    | nd k m ad xs =>
      have hem : (!(xs.map val).isEmpty) = !(mapL (fun _ => ()) xs).isEmpty := by rw [mapL_eq]; cases xs <;> rfl
      cases k with
      | lst => exact ⟨_, .inl ⟨_, SqL.of (ok1.at_ s1.sub), rfl⟩, by rw [hem]; exact fin _ rfl⟩
      | scr => exact ⟨_, .inl ⟨_, ok1.at_ s1.sub, rfl⟩, by rw [hem]; exact fin _ rfl⟩
      | tup => exact ⟨_, .inr (.inl ⟨_, ok1.at_ s1.sub, rfl⟩), by rw [hem]; exact fin _ rfl⟩
      | dct ks => exact p.elim
      | dtt ks => exact p.elim
      | ins n fs => exact p.elim
      | exn n fs => exact p.elim⟩
/-- what follows a test that is known -/
theorem rU {k : Nat} {A : Around} (r : Room k A) : A.units + 65 < cLine := by have := r.un; omega
theorem test_step {X : Ctx} {σ : St} {H : Hp} {Q : Bool → Hp → Prop} {k : Bool} {ρ1 : Env} (hf : f ρ = .ok (.bl k) ρ1) (F : Hp) (r : AR) (s : Stt X F H r σ) (e : erR r = ρ) (q : ∀ F1 H1 r1, Grow F H r F1 H1 r1 → Stt X F1 H1 r1 σ → erR r1 = ρ1 → Q k H1) : tTest (rdE X W f ρ) σ H Q :=
  ⟨F, r, s, e, by rw [hf]; exact fun F1 H1 r1 x g1 s1 e1 ok ex v => ⟨k, by rw [er_bl ex]; rfl, q F1 H1 r1 g1 s1 e1⟩⟩
theorem test_exc {X : Ctx} {σ : St} {H : Hp} {Q : Bool → Hp → Prop} {n : Str} {fs : List (Str × D)} {ρ1 : Env} {Q' : VK} (hf : f ρ = .exc n fs ρ1) (F : Hp) (r : AR) (s : Stt X F H r σ) (e : erR r = ρ) (p : PostE X W σ F H r (.exc n fs ρ1) Q') : tTest (rdE X W f ρ) σ H Q :=
  ⟨F, r, s, e, by rw [hf]; exact p⟩
theorem cw_and1 (ha : CT ca C W a f) : CW ca C W (.BoolOp .And [a] pos) f := ⟨fun ρ => pw_and1 (ha.run ρ)⟩
theorem cw_or1 (ha : CT ca C W a f) : CW ca C W (.BoolOp .Or [a] pos) f := ⟨fun ρ => pw_or1 (ha.run ρ)⟩
theorem pw_false {e : Expr} : PW C e (fun _ _ _ => False) := ⟨fun _ _ _ _ _ _ _ h => h.elim⟩
theorem cw_and (ha : CT ca C W a f) (hb : CW ca C W (.BoolOp .And (b :: rest) pos) g) : CW ca C W (.BoolOp .And (a :: b :: rest) pos) (E.and f g) := ⟨fun ρ => by
  cases hf : f ρ with
  | bad => exact PW.mono pw_false fun σ H Q ⟨F, r, s, e, p⟩ => by unfold E.and at p; rw [hf] at p; exact p
  | exc n fs ρ1 =>
    refine PW.mono (pw_and (ha.run ρ) pw_false) fun σ H Q ⟨F, r, s, e, p⟩ => ?_
    unfold E.and at p; rw [hf] at p
    exact test_exc hf F r s e p
  | ok d ρ1 =>
    cases d with
    | bl k =>
      refine PW.mono (pw_and (ha.run ρ) (hb.run ρ1)) fun σ H Q ⟨F, r, s, e, p⟩ => ?_
      unfold E.and at p; rw [hf, R.ok_bind] at p
      refine test_step hf F r s e fun F1 H1 r1 g1 s1 e1 => ?_
      cases k with
      | true => rw [if_pos rfl]; exact ⟨F1, r1, s1, e1, p.back g1 s1⟩
      | false =>
        rw [if_neg (by decide)]
        obtain ⟨k', e', q⟩ := PostE.bl p g1 s1 e1
        cases e'; exact q
    | _ => exact PW.mono pw_false fun σ H Q ⟨F, r, s, e, p⟩ => by unfold E.and at p; rw [hf] at p; exact p⟩
theorem cw_or (ha : CT ca C W a f) (hb : CW ca C W (.BoolOp .Or (b :: rest) pos) g) : CW ca C W (.BoolOp .Or (a :: b :: rest) pos) (E.or f g) := ⟨fun ρ => by
  cases hf : f ρ with
  | bad => exact PW.mono pw_false fun σ H Q ⟨F, r, s, e, p⟩ => by unfold E.or at p; rw [hf] at p; exact p
  | exc n fs ρ1 =>
    refine PW.mono (pw_or (ha.run ρ) pw_false) fun σ H Q ⟨F, r, s, e, p⟩ => ?_
    unfold E.or at p; rw [hf] at p
    exact test_exc hf F r s e p
  | ok d ρ1 =>
    cases d with
    | bl k =>
      refine PW.mono (pw_or (ha.run ρ) (hb.run ρ1)) fun σ H Q ⟨F, r, s, e, p⟩ => ?_
      unfold E.or at p; rw [hf, R.ok_bind] at p
      refine test_step hf F r s e fun F1 H1 r1 g1 s1 e1 => ?_
      cases k with
      | false => rw [if_neg (by decide)]; exact ⟨F1, r1, s1, e1, p.back g1 s1⟩
      | true =>
        rw [if_pos rfl]
        obtain ⟨k', e', q⟩ := PostE.bl p g1 s1 e1
        cases e'; exact q
    | _ => exact PW.mono pw_false fun σ H Q ⟨F, r, s, e, p⟩ => by unfold E.or at p; rw [hf] at p; exact p⟩
theorem ct_w (h : CW ca C W a f) : CT ca C W a f := ⟨fun ρ => (h.run ρ).pt⟩
theorem ct_not (ha : CT ca C W a f) : CT ca C W (.UnaryOp .Not a pos) (E.un D.not f) := ⟨fun ρ => by
  refine PT.mono (pt_not (ha.run ρ)) fun σ H Q ⟨F, r, s, e, p⟩ => ?_
  unfold E.un at p
  cases hf : f ρ with
  | bad => rw [hf] at p; exact p.elim
  | exc n fs ρ1 => rw [hf] at p; exact test_exc hf F r s e p
  | ok d ρ1 =>
    rw [hf, R.ok_bind] at p
    cases d with
    | bl k =>
      refine test_step hf F r s e fun F1 H1 r1 g1 s1 e1 => ?_
      obtain ⟨k', e', q⟩ := PostE.bl (k := !k) p g1 s1 e1
      cases e'; exact q
    | _ => exact p.elim⟩
/-- .. as values -/
theorem ce_one {op : BoolOp} (ha : CE ca C W a f) : CE ca C W (.BoolOp op [a] pos) f := ⟨fun ρ => pe_one (ha.run ρ)⟩
theorem ce_and (ha : CE ca C W a f) (hb : CE ca C W (.BoolOp .And (b :: rest) pos) g) : CE ca C W (.BoolOp .And (a :: b :: rest) pos) (E.and f g) := ⟨fun ρ => by
  cases hf : f ρ with
  | bad => exact PE.mono pe_false fun σ H Q ⟨F, r, s, e, p⟩ => by unfold E.and at p; rw [hf] at p; exact p
  | exc n fs ρ1 =>
    refine PE.mono (pe_and (ha.run ρ) pe_false) fun σ H Q ⟨F, r, s, e, p⟩ => ?_
    unfold E.and at p; rw [hf] at p
    exact ⟨F, r, s, e, by rw [hf]; exact p⟩
  | ok d ρ1 =>
    cases d with
    | bl k =>
      refine PE.mono (pe_and (ha.run ρ) (hb.run ρ1)) fun σ H Q ⟨F, r, s, e, p⟩ => ⟨F, r, s, e, ?_⟩
      unfold E.and at p; rw [hf, R.ok_bind] at p
      rw [hf]
      intro F1 H1 r1 x g1 s1 e1 ok ex v
      refine ⟨k, by rw [er_bl ex]; rfl, ?_⟩
      cases k with
      | true => rw [if_pos rfl]; exact ⟨F1, r1, s1, e1, p.back g1 s1⟩
      | false => rw [if_neg (by decide)]; exact PostE.bl p g1 s1 e1
    | _ => exact PE.mono pe_false fun σ H Q ⟨F, r, s, e, p⟩ => by unfold E.and at p; rw [hf] at p; exact p⟩
theorem ce_or (ha : CE ca C W a f) (hb : CE ca C W (.BoolOp .Or (b :: rest) pos) g) : CE ca C W (.BoolOp .Or (a :: b :: rest) pos) (E.or f g) := ⟨fun ρ => by
  cases hf : f ρ with
  | bad => exact PE.mono pe_false fun σ H Q ⟨F, r, s, e, p⟩ => by unfold E.or at p; rw [hf] at p; exact p
  | exc n fs ρ1 =>
    refine PE.mono (pe_or (ha.run ρ) pe_false) fun σ H Q ⟨F, r, s, e, p⟩ => ?_
    unfold E.or at p; rw [hf] at p
    exact ⟨F, r, s, e, by rw [hf]; exact p⟩
  | ok d ρ1 =>
    cases d with
    | bl k =>
      refine PE.mono (pe_or (ha.run ρ) (hb.run ρ1)) fun σ H Q ⟨F, r, s, e, p⟩ => ⟨F, r, s, e, ?_⟩
      unfold E.or at p; rw [hf, R.ok_bind] at p
      rw [hf]
      intro F1 H1 r1 x g1 s1 e1 ok ex v
      refine ⟨k, by rw [er_bl ex]; rfl, ?_⟩
      cases k with
      | false => rw [if_neg (by decide)]; exact ⟨F1, r1, s1, e1, p.back g1 s1⟩
      | true => rw [if_pos rfl]; exact PostE.bl p g1 s1 e1
    | _ => exact PE.mono pe_false fun σ H Q ⟨F, r, s, e, p⟩ => by unfold E.or at p; rw [hf] at p; exact p⟩
theorem ce_not (ha : CE ca C W a f) : CE ca C W (.UnaryOp .Not a pos) (E.un D.not f) := ⟨fun ρ => by
  refine PE.mono (pe_not (ha.run ρ)) fun σ H Q ⟨F, r, s, e, p⟩ => ⟨F, r, s, e, ?_⟩
  unfold E.un at p
  cases hf : f ρ with
  | bad => rw [hf] at p; exact p.elim
  | exc n fs ρ1 => rw [hf] at p; exact p
  | ok d ρ1 =>
    rw [hf, R.ok_bind] at p
    cases d with
    | bl k => exact fun F1 H1 r1 x g1 s1 e1 ok ex v => ⟨k, by rw [er_bl ex]; rfl, PostE.bl (k := !k) p g1 s1 e1⟩
    | _ => exact p.elim⟩
theorem ce_ite (hc : CT ca C W c h) (ha : CE ca C W a f) (hb : CE ca C W b g) : CE ca C W (.IfExp c a b pos) (E.ite h f g) := ⟨fun ρ => by
  cases hf : h ρ with
  | bad => exact PE.mono pe_false fun σ H Q ⟨F, r, s, e, p⟩ => by unfold E.ite at p; rw [hf] at p; exact p
  | exc n fs ρ1 =>
    refine PE.mono (pe_ifExp (hc.run ρ) pe_false pe_false) fun σ H Q ⟨F, r, s, e, p⟩ => ?_
    unfold E.ite at p; rw [hf] at p
    exact test_exc hf F r s e p
  | ok d ρ1 =>
    cases d with
    | bl k =>
      refine PE.mono (pe_ifExp (hc.run ρ) (ha.run ρ1) (hb.run ρ1)) fun σ H Q ⟨F, r, s, e, p⟩ => ?_
      unfold E.ite at p; rw [hf, R.ok_bind] at p
      refine test_step hf F r s e fun F1 H1 r1 g1 s1 e1 => ?_
      cases k with
      | true => rw [if_pos rfl]; exact ⟨F1, r1, s1, e1, p.back g1 s1⟩
      | false => rw [if_neg (by decide)]; exact ⟨F1, r1, s1, e1, p.back g1 s1⟩
    | _ => exact PE.mono pe_false fun σ H Q ⟨F, r, s, e, p⟩ => by unfold E.ite at p; rw [hf] at p; exact p⟩
/-! ### comparisons -/
theorem cmp_both {op : CmpOp} {gg : D → D → Option D} (hg : Op2 (cx ca C) (OKc C op) gg) (ha : CE ca C W a f) (hb : CE ca C W b g) (hm : behindInMarks op b = false) :
    CE ca C W (.Compare a [op] [b] pos) (E.bin gg f g) ∧ CT ca C W (.Compare a [op] [b] pos) (E.bin gg f g) := by
  refine ⟨⟨fun ρ => ?_⟩, ⟨fun ρ => ?_⟩⟩
  · obtain ⟨ta, tb, r, pa, pb, ok, i⟩ := two_imp okc_false hg ha hb ρ
    exact PE.mono (ok.run pa pb hm).1 i
  · obtain ⟨ta, tb, r, pa, pb, ok, i⟩ := two_imp okc_false hg ha hb ρ
    exact PT.mono (ok.run pa pb hm).2 fun σ H Q q => i σ H _ q
theorem cb_lt (ha : CE ca C W a f) (hb : CE ca C W b g) : CE ca C W (.Compare a [.Lt] [b] pos) (E.bin D.lt f g) ∧ CT ca C W (.Compare a [.Lt] [b] pos) (E.bin D.lt f g) := cmp_both (op2_cmp op_lt) ha hb (nomark _)
theorem cb_le (ha : CE ca C W a f) (hb : CE ca C W b g) : CE ca C W (.Compare a [.LtE] [b] pos) (E.bin D.le f g) ∧ CT ca C W (.Compare a [.LtE] [b] pos) (E.bin D.le f g) := cmp_both (op2_cmp op_le) ha hb (nomark _)
theorem cb_gt (ha : CE ca C W a f) (hb : CE ca C W b g) : CE ca C W (.Compare a [.Gt] [b] pos) (E.bin D.gt f g) ∧ CT ca C W (.Compare a [.Gt] [b] pos) (E.bin D.gt f g) := cmp_both (op2_cmp op_gt) ha hb (nomark _)
theorem cb_ge (ha : CE ca C W a f) (hb : CE ca C W b g) : CE ca C W (.Compare a [.GtE] [b] pos) (E.bin D.ge f g) ∧ CT ca C W (.Compare a [.GtE] [b] pos) (E.bin D.ge f g) := cmp_both (op2_cmp op_ge) ha hb (nomark _)
theorem cb_eq (hu : C.A.units + 64 < cLine) (ha : CE ca C W a f) (hb : CE ca C W b g) : CE ca C W (.Compare a [.Eq] [b] pos) (E.bin D.eq f g) ∧ CT ca C W (.Compare a [.Eq] [b] pos) (E.bin D.eq f g) := cmp_both (op2_eq hu) ha hb (nomark _)
theorem cb_ne (hu : C.A.units + 64 < cLine) (ha : CE ca C W a f) (hb : CE ca C W b g) : CE ca C W (.Compare a [.NotEq] [b] pos) (E.bin D.ne f g) ∧ CT ca C W (.Compare a [.NotEq] [b] pos) (E.bin D.ne f g) := cmp_both (op2_ne hu) ha hb (nomark _)
theorem cb_is (ha : CE ca C W a f) (hb : CE ca C W b g) : CE ca C W (.Compare a [.Is] [b] pos) (E.bin D.isN f g) ∧ CT ca C W (.Compare a [.Is] [b] pos) (E.bin D.isN f g) := cmp_both op2_isN ha hb (nomark _)
theorem cb_isnot (ha : CE ca C W a f) (hb : CE ca C W b g) : CE ca C W (.Compare a [.IsNot] [b] pos) (E.bin D.notN f g) ∧ CT ca C W (.Compare a [.IsNot] [b] pos) (E.bin D.notN f g) := cmp_both op2_notN ha hb (nomark _)
theorem cb_in (hu : C.A.units + 65 < cLine) (ha : CE ca C W a f) (hb : CE ca C W b g) (hm : behindInMarks .In b = false := by rfl) : CE ca C W (.Compare a [.In] [b] pos) (E.bin D.in_ f g) ∧ CT ca C W (.Compare a [.In] [b] pos) (E.bin D.in_ f g) := cmp_both (op2_in hu) ha hb hm
theorem cb_notin (hu : C.A.units + 65 < cLine) (ha : CE ca C W a f) (hb : CE ca C W b g) (hm : behindInMarks .NotIn b = false := by rfl) : CE ca C W (.Compare a [.NotIn] [b] pos) (E.bin D.notin f g) ∧ CT ca C W (.Compare a [.NotIn] [b] pos) (E.bin D.notin f g) := cmp_both (op2_notin hu) ha hb hm
/-- a < b < c, of ints -/
theorem chain_imp {p p' : Int → Int → Bool} (ha : CE ca C W a f) (hb : CE ca C W b g) (hc : CE ca C W c h) (ρ : Env) :
    ∃ ta tb tc, PE C a ta ∧ PE C b tb ∧ PE C c tc ∧ ∀ σ H Q, rdE (cx ca C) W (E.chain (D.cmp p) (D.cmp p') f g h) ρ σ H Q → tChain (rI0 fun i j => .bl (p i j)) (rI0 fun i j => .bl (p' i j)) ta tb tc σ H Q := by
  cases hf : f ρ with
  | bad => exact ⟨_, _, _, pe_false, pe_false, pe_false, fun σ H Q ⟨F, r, s, e, q⟩ => by unfold E.chain at q; rw [hf] at q; exact q⟩
  | exc n fs ρ1 => exact ⟨_, _, _, ha.run ρ, pe_false, pe_false, fun σ H Q ⟨F, r, s, e, q⟩ => ⟨F, r, s, e, by unfold E.chain at q; rw [hf] at q ⊢; exact q⟩⟩
  | ok d1 ρ1 =>
    cases hg : g ρ1 with
    | bad => exact ⟨_, _, _, pe_false, pe_false, pe_false, fun σ H Q ⟨F, r, s, e, q⟩ => by unfold E.chain at q; rw [hf, R.ok_bind, hg] at q; exact q⟩
    | exc n fs ρ2 =>
      refine ⟨_, _, _, ha.run ρ, hb.run ρ1, pe_false, fun σ H Q ⟨F, r, s, e, q⟩ => ⟨F, r, s, e, ?_⟩⟩
      unfold E.chain at q; rw [hf, R.ok_bind, hg] at q
      rw [hf]
      intro F1 H1 r1 x g1 s1 e1 _ _ _
      exact ⟨F1, r1, s1, e1, by rw [hg]; exact PostE.back g1 s1 q⟩
    | ok d2 ρ2 =>
      by_cases hd : ∃ i j, d1 = .int i ∧ d2 = .int j
      · obtain ⟨i, j, rfl, rfl⟩ := hd
        refine ⟨_, _, _, ha.run ρ, hb.run ρ1, hc.run ρ2, fun σ H Q ⟨F, r, s, e, q⟩ => ⟨F, r, s, e, ?_⟩⟩
        unfold E.chain at q; rw [hf, R.ok_bind, hg, R.ok_bind] at q
        rw [hf]
        intro F1 H1 r1 x g1 s1 e1 ok1 ex1 v1
        refine ⟨F1, r1, s1, e1, ?_⟩
        rw [hg]
        intro F2 H2 r2 y g2 s2 e2 ok2 ex2 v2
        refine ⟨i, j, by rw [er_int ex1]; rfl, by rw [er_int ex2]; rfl, p i j, rfl, ?_⟩
        have g12 := g1.trans s1 g2
        show if p i j = true then _ else _
        cases hp : p i j with
        | false =>
          rw [if_neg (by decide)]
          have q : PostE (cx ca C) W σ F H r (match some (T.bl (p i j) : D) with | some (.bl true) => (h ρ2).bind fun d3 ρ3 => R.of (D.cmp p' (.int j) d3) ρ3 | some (.bl false) => .ok (.bl false) ρ2 | _ => .bad) Q := q
          rw [hp] at q
          exact PostE.bl q g12 s2 e2
        | true =>
          rw [if_pos rfl]
          have q : PostE (cx ca C) W σ F H r (match some (T.bl (p i j) : D) with | some (.bl true) => (h ρ2).bind fun d3 ρ3 => R.of (D.cmp p' (.int j) d3) ρ3 | some (.bl false) => .ok (.bl false) ρ2 | _ => .bad) Q := q
          rw [hp] at q
          have q := PostE.back g12 s2 q
          refine ⟨F2, r2, s2, e2, ?_⟩
          dsimp only at q
          cases hh : h ρ2 with
          | bad => rw [hh] at q; exact q.elim
          | exc n fs ρ3 => rw [hh] at q; exact q
          | ok d3 ρ3 =>
            rw [hh, R.ok_bind] at q
            intro F3 H3 r3 z g3 s3 e3 ok3 ex3 v3
            subst ex3
            cases z with
            | int k => exact ⟨j, k, by rw [er_int ex2]; rfl, rfl, PostE.bl q g3 s3 e3⟩
            | _ => exact q.elim
      · refine ⟨_, _, _, pe_false, pe_false, pe_false, fun σ H Q ⟨F, r, s, e, q⟩ => ?_⟩
        unfold E.chain at q; rw [hf, R.ok_bind, hg, R.ok_bind] at q
        have : D.cmp p d1 d2 = none := by
          unfold D.cmp
          split
          · exact absurd ⟨_, _, rfl, rfl⟩ hd
          · rfl
        rw [this] at q
        exact q
theorem chain_both {op op' : CmpOp} {p p' : Int → Int → Bool} (ho : OpR C (compareOp op) (rI0 fun i j => .bl (p i j))) (ho' : OpR C (compareOp op') (rI0 fun i j => .bl (p' i j))) (ha : CE ca C W a f) (hb : CE ca C W b g) (hc : CE ca C W c h)
    (hm : lastMarks [op, op'] [b, c] = false) : CE ca C W (.Compare a [op, op'] [b, c] pos) (E.chain (D.cmp p) (D.cmp p') f g h) ∧ CT ca C W (.Compare a [op, op'] [b, c] pos) (E.chain (D.cmp p) (D.cmp p') f g h) := by
  refine ⟨⟨fun ρ => ?_⟩, ⟨fun ρ => ?_⟩⟩
  · obtain ⟨ta, tb, tc, pa, pb, pc, i⟩ := chain_imp (p := p) (p' := p') ha hb hc ρ
    exact PE.mono (pe_chain ho ho' pa pb pc hm) i
  · obtain ⟨ta, tb, tc, pa, pb, pc, i⟩ := chain_imp (p := p) (p' := p') ha hb hc ρ
    exact PT.mono (pt_chain ho ho' pa pb pc hm) fun σ H Q q => i σ H _ q
end
end Vl
/-! The value layer, 10: subscripts, displays, built-in calls, slices, texts' methods. -/
namespace Vl
open PySem PySem.Spec PyProof.Rows L2

structure OKx (C : Cx) (r : R2) : Prop where
  run : ∀ {a b : Expr} {ta tb : TE} {pos : Pos}, PE C a ta → PE C b tb → PlainIx b → PE C (.Subscript a b pos) (tOp r ta tb)
def D.idx : D → D → Option D
  | .nd .lst _ _ xs, .int i => atI xs i
  | .nd .tup _ _ xs, .int i => atI xs i
  | .nd .scr _ _ xs, .int i => atI xs i
  | .nd (.dct ks) _ _ xs, k => k.key.bind fun k => look ks xs k
  | .str z, .int i => if z.length ≤ sizeLine then (atI z.cps.toList i).map fun c => .str ⟨#[c]⟩ else none
  | _, _ => none
theorem atI_map {α β : Type} (f : α → β) (xs : List α) (i : Int) : atI (xs.map f) i = (atI xs i).map f := by
  unfold atI
  rw [List.length_map]
  cases ixN xs.length i with
  | none => rfl
  | some j => show (xs.map f)[j]? = (xs[j]?).map f; rw [List.getElem?_map]
theorem atI_mem {α : Type} {xs : List α} {i : Int} {x : α} (h : atI xs i = some x) : x ∈ xs := by
  unfold atI at h
  cases e : ixN xs.length i with
  | none => rw [e] at h; cases h
  | some j => rw [e] at h; exact List.mem_of_getElem? h
section
variable {ca : Ca} {C : Cx} {W : WX} {e a b : Expr} {es : List Expr} {f g h : Ev} {fa : Env → R (List D)} {pos : Pos} {ρ : Env}
theorem okx_of {r : R2} (h : IxR C r) : OKx C r := ⟨fun ha hb hs => pe_ix h ha hb hs⟩
theorem okx_false : OKx C fun _ _ _ _ => False := ⟨fun ha hb hs => pe_ix (r := fun _ _ _ _ => False) (fun _ _ _ _ _ _ _ _ _ _ _ _ _ _ h _ => False.elim h) ha hb hs⟩
theorem okx_dget (hu : C.A.units + 1 < cLine) : OKx C (fun x y H Q => ∃ a v, x = .ref a ∧ DGet H a y (some v) ∧ Q v H) := ⟨fun ha hb hs => pe_dget hu ha hb hs⟩
theorem op2_idx (hu : C.A.units + 1 < cLine) : Op2 (cx ca C) (OKx C) D.idx := by
  intro d1 d2 d h
  unfold D.idx at h
  split at h
  · refine ⟨_, okx_of ix_list, fun F H x y Q s ok1 ok2 nd e1 e2 k => ?_⟩
    obtain ⟨a, xs, rfl, ex⟩ := er_nd e1
    subst ex
    rw [mapL_eq, atI_map] at h
    cases q : atI xs _ with
    | none => rw [q] at h; cases h
    | some z =>
      rw [q] at h
      cases h
      rw [er_int e2]
      exact ⟨a.1, xs.map val, _, val z, rfl, rfl, SqL.of (ok1.at_ s), by rw [atI_map, q]; rfl, k.kid s ok1 (List.nodup_append.mp nd).1 (atI_mem q) List.mem_cons_self⟩
  · refine ⟨_, okx_of ix_tup, fun F H x y Q s ok1 ok2 nd e1 e2 k => ?_⟩
    obtain ⟨a, xs, rfl, ex⟩ := er_nd e1
    subst ex
    rw [mapL_eq, atI_map] at h
    cases q : atI xs _ with
    | none => rw [q] at h; cases h
    | some z =>
      rw [q] at h
      cases h
      rw [er_int e2]
      exact ⟨a.1, xs.map val, _, val z, rfl, rfl, ok1.at_ s, by rw [atI_map, q]; rfl, k.kid s ok1 (List.nodup_append.mp nd).1 (atI_mem q) List.mem_cons_self⟩
  · refine ⟨_, okx_of ix_list, fun F H x y Q s ok1 ok2 nd e1 e2 k => ?_⟩
    obtain ⟨a, xs, rfl, ex⟩ := er_nd e1
    subst ex
    rw [mapL_eq, atI_map] at h
    cases q : atI xs _ with
    | none => rw [q] at h; cases h
    | some z =>
      rw [q] at h
      cases h
      rw [er_int e2]
      exact ⟨a.1, xs.map val, _, val z, rfl, rfl, ok1.at_ s, by rw [atI_map, q]; rfl, k.kid s ok1 (List.nodup_append.mp nd).1 (atI_mem q) List.mem_cons_self⟩
  · refine ⟨_, okx_dget hu, fun F H x y Q s ok1 ok2 nd e1 e2 k => ?_⟩
    obtain ⟨a, xs, rfl, ex⟩ := er_nd e1
    subst ex
    subst e2
    cases hk : D.key (er y) with
    | none => rw [hk] at h; cases h
    | some key =>
      rw [hk, Option.bind_some, mapL_eq, look_map] at h
      cases q : look _ xs key with
      | none => rw [q] at h; cases h
      | some z =>
        rw [q] at h
        cases h
        exact ⟨a.1, val z, rfl, .inl ⟨_, key, ok1.at_ s, key_val hk, by rw [valV_zip, look_map, q]; rfl⟩, k.kid s ok1 (List.nodup_append.mp nd).1 (look_mem q) List.mem_cons_self⟩
  · split at h
    · rename_i hz
      refine ⟨_, okx_of ix_str, fun F H x y Q s ok1 ok2 nd e1 e2 k => ?_⟩
      rw [er_str e1, er_int e2]
      cases q : atI (Array.toList _) _ with
      | none => rw [q] at h; cases h
      | some c =>
        rw [q] at h
        cases h
        exact ⟨_, _, c, rfl, rfl, hz, q, k.plain s rfl⟩
    · cases h
  · cases h
theorem ce_ix (hu : C.A.units + 64 < cLine) (ha : CE ca C W a f) (hb : CE ca C W b g) (hs : PlainIx b := by exact fun _ _ => rfl) : CE ca C W (.Subscript a b pos) (E.bin D.idx f g) := ⟨fun ρ => by
  obtain ⟨ta, tb, r, pa, pb, ok, i⟩ := two_imp okx_false (op2_idx (by omega)) ha hb ρ
  exact PE.mono (ok.run pa pb hs) i⟩

/-! ### displays -/
def D.mkl (ds : List D) : Option D := if allL notB ds = true ∧ ds.length ≤ sizeLine then some (.nd .lst .o () (mkL calm ds)) else none
def D.mkt (ds : List D) : Option D := if allL notB ds = true ∧ ds.length ≤ sizeLine then some (.nd .tup .c () (mkL calm ds)) else none
/-- a list that keeps what its items own -/
def D.mko (ds : List D) : Option D := if allL notB ds = true ∧ ds.length ≤ sizeLine then some (.nd .lst .o () ds) else none
theorem map_er {xs : List A} {ds : List D} (h : xs.map er = ds) : mapL (fun _ => ()) xs = ds := by rw [mapL_eq]; exact h
theorem PA.clos {C : Cx} {es : List Expr} {ta : TA} (h : PA C es ta) : PA C es (fun σ H Q => ∃ Q', ta σ H Q' ∧ ∀ vs H, Q' vs H → Q vs H) :=
  ⟨fun pos pins s σ H Q I ⟨Q', q, i⟩ => thn (h.run pos pins s σ H Q' I q) fun us s' ⟨vs, H', I', r, q'⟩ => ⟨vs, H', I', r, i _ _ q'⟩⟩
/-- a display, by the rule of its node -/
theorem ce_disp {gg : List D → Option D} {k : Kd} {mkE : List Expr → Expr} (hop : OpN (cx ca C) (fun r => ∀ ta, PA C es ta → PE C (mkE es) (tCB r ta)) gg) (hm : ∀ ta, PA C es ta → ∃ r0, PE C (mkE es) (tCB r0 ta)) (ha : CA ca C W es fa) : CE ca C W (mkE es) (E.args gg fa) := ⟨fun ρ => by
  obtain ⟨ta, r, pa, ok, i⟩ := args_imp (fun ta pa => by
    obtain ⟨r0, h0⟩ := hm _ (PA.clos pa)
    exact PE.mono h0 fun σ H Q q => ⟨_, q, fun vs H f => f.elim⟩) hop ha ρ
  exact PE.mono (ok ta pa) i⟩
theorem opn_lst {k : Kd} {m : Mk} {gg : List D → Option D} {mkE : List Expr → Expr} (hk : k = .lst ∨ k = .tup) (hm : m = .o ∨ m = .c) (hg : ∀ ds, gg ds = if allL notB ds = true ∧ ds.length ≤ sizeLine then some (.nd k m () (mkL calm ds)) else none)
    (hr : ∀ ta, PA C es ta → PE C (mkE es) (tCB (fun vs H Q => vs.length ≤ sizeLine ∧ ∀ p, H p = none → Q (.ref p) (upd H p (cont ca k (p, 0) vs))) ta)) : OpN (cx ca C) (fun r => ∀ ta, PA C es ta → PE C (mkE es) (tCB r ta)) gg := by
  intro ds d h
  rw [hg] at h
  split at h
  · rename_i hz
    cases h
    refine ⟨_, hr, fun F H xs Q s ok nd ex kk => ⟨by rw [List.length_map]; rw [← ex, List.length_map] at hz; exact hz.2, fun p hp => ?_⟩⟩
    have ex' := map_er ex
    exact kk.new hm s hp (by rcases hk with rfl | rfl <;> simp) (by rcases hk with rfl | rfl <;> trivial) ok (by rw [ex']) (by rw [← ex', allL_mapL] at hz; exact hz.1) fun a ha => ha
  · cases h
theorem ce_lst (ha : CA ca C W es fa) : CE ca C W (.List es pos) (E.args D.mkl fa) :=
  ce_disp (k := .lst) (gg := D.mkl) (mkE := fun es => .List es pos) (opn_lst (gg := D.mkl) (mkE := fun es => .List es pos) (k := .lst) (m := .o) (.inl rfl) (.inl rfl) (fun _ => rfl) fun ta pa => pe_lst pa) (fun ta pa => ⟨_, pe_lst pa⟩) ha
theorem ce_tup {x1} (ha : CA ca C W es fa) : CE ca C W (.Tuple es x1 pos) (E.args D.mkt fa) :=
  ce_disp (k := .tup) (gg := D.mkt) (mkE := fun es => .Tuple es x1 pos) (opn_lst (gg := D.mkt) (mkE := fun es => .Tuple es x1 pos) (k := .tup) (m := .c) (.inr rfl) (.inr rfl) (fun _ => rfl) fun ta pa => pe_tup pa) (fun ta pa => ⟨_, pe_tup pa⟩) ha
theorem ce_lsto (ha : CA ca C W es fa) : CE ca C W (.List es pos) (E.args D.mko fa) := by
  refine ce_disp (k := .lst) (mkE := fun es => .List es pos) ?_ (fun ta pa => ⟨_, pe_lst pa⟩) ha
  intro ds d h
  unfold D.mko at h
  split at h
  · rename_i hz
    cases h
    refine ⟨fun vs H Q => vs.length ≤ sizeLine ∧ ∀ p, H p = none → Q (.ref p) (upd H p (.lst vs)), fun ta pa => pe_lst pa, fun F H xs Q s ok nd ex kk => ⟨by rw [List.length_map]; rw [← ex, List.length_map] at hz; exact hz.2, fun p hp => ?_⟩⟩
    have ex' := map_er ex
    exact kk.newO s hp (.inl rfl) trivial ok ex' (by rw [← ex', allL_mapL] at hz; exact hz.1) nd fun a ha => ha
  · cases h
/-- *e among the items -/
def E.star (f : Ev) (g : Env → R (List D)) : Env → R (List D) := fun ρ => (f ρ).bind fun d ρ1 => match d with
  | .nd .lst _ _ xs => if allL isC xs = true then (g ρ1).bind fun ds ρ2 => .ok (xs ++ ds) ρ2 else .bad
  | .nd .tup _ _ xs => if allL isC xs = true then (g ρ1).bind fun ds ρ2 => .ok (xs ++ ds) ρ2 else .bad
  | _ => .bad

/-! ### built-in calls -/
theorem ce_callB {gg : List D → Option D} {x : Str} {id : String} {p : Pos} (h : OpN (cx ca C) (CallR C (.builtin id)) gg) (hg : Gl C x) (hm : C.mg x = none) (hv : bootBuiltins x = some (.builtin id)) (ha : CA ca C W (e :: es) fa) (hn : x ≠ "__name__" := by decide) (hdb : (x == ("__debug__" : Str)) = false := by decide)
    (he : starEach (e :: es) C.env = (false, eval e C.env) :: starEach es C.env := by rfl) (hpl : (backTo pos (starEach es C.env)).any (·.1) = false := by rfl) : CE ca C W (.Call (.Name x p) (e :: es) [] pos) (E.args gg fa) := ⟨fun ρ => by
  obtain ⟨ta, r, pa, ok, i⟩ := args_imp callR_false h ha ρ
  exact PE.mono (pe_callB ok hg hm hv pa hn hdb he hpl) i⟩
theorem ce_callTy {gg : List D → Option D} {x : Str} {T : String} {p : Pos} (h : OpN (cx ca C) (CallR C (.type T)) gg) (hg : Gl C x) (hm : C.mg x = none) (hv : bootBuiltins x = some (.type T)) (ha : CA ca C W (e :: es) fa) (hn : x ≠ "__name__" := by decide) (hdb : (x == ("__debug__" : Str)) = false := by decide)
    (he : starEach (e :: es) C.env = (false, eval e C.env) :: starEach es C.env := by rfl) (hpl : (backTo pos (starEach es C.env)).any (·.1) = false := by rfl) : CE ca C W (.Call (.Name x p) (e :: es) [] pos) (E.args gg fa) := ⟨fun ρ => by
  obtain ⟨ta, r, pa, ok, i⟩ := args_imp callR_false h ha ρ
  exact PE.mono (pe_callTy ok hg hm hv pa hn hdb he hpl) i⟩
theorem one_of {xs : List A} {d : D} (h : xs.map er = [d]) : ∃ x, xs = [x] ∧ er x = d := by
  cases xs with
  | nil => cases h
  | cons x r =>
    cases r with
    | nil => exact ⟨x, rfl, (List.cons.inj h).1⟩
    | cons y r => have := (List.cons.inj h).2; cases this
theorem two_of {xs : List A} {d d' : D} (h : xs.map er = [d, d']) : ∃ x y, xs = [x, y] ∧ er x = d ∧ er y = d' := by
  cases xs with
  | nil => cases h
  | cons x r =>
    obtain ⟨y, rfl, e⟩ := one_of (List.cons.inj h).2
    exact ⟨x, y, rfl, (List.cons.inj h).1, e⟩
def D.len : List D → Option D
  | [.str x] => if x.length ≤ sizeLine then some (.int x.length) else none
  | [.nd .lst _ _ xs] => some (.int xs.length)
  | [.nd .tup _ _ xs] => some (.int xs.length)
  | [.nd .scr _ _ xs] => some (.int xs.length)
  | [.nd (.dct ks) _ _ _] => some (.int ks.length)
  | _ => none
theorem call_lenR : CallR C (.builtin "len") (fun xs H Q => ∃ a kvs, xs = [V.ref a] ∧ Rd H a (.dK kvs) ∧ Q (.int kvs.length) H) := by
  intro pins s σ H xs us Q I r h
  obtain ⟨a, kvs, rfl, ha, q⟩ := h
  obtain ⟨u, rfl, ru⟩ := vals1 r
  cases ru
  exact d_len I ha fun t s' I' => ⟨.int kvs.length, H, I', ⟨t, rfl⟩, q⟩
theorem opn_len : OpN (cx ca C) (CallR C (.builtin "len")) D.len := by
  intro ds d h
  unfold D.len at h
  split at h
  · split at h
    · rename_i hz
      cases h
      refine ⟨_, call_len, fun F H xs Q s ok nd ex k => ?_⟩
      obtain ⟨x, rfl, e⟩ := one_of ex
      rw [er_str e] at k ⊢
      exact ⟨_, _, rfl, ⟨hz, rfl⟩, k.plain s rfl⟩
    · cases h
  · cases h
    refine ⟨_, call_len_seq, fun F H xs Q s ok nd ex k => ?_⟩
    obtain ⟨x, rfl, e⟩ := one_of ex
    obtain ⟨a, ys, rfl, ey⟩ := er_nd e
    refine ⟨a.1, ys.map val, rfl, .inl (SqL.of (ok.1.at_ s)), ?_⟩
    rw [← ey, mapL_len] at k
    rw [List.length_map]; exact k.plain s rfl
  · cases h
    refine ⟨_, call_len_seq, fun F H xs Q s ok nd ex k => ?_⟩
    obtain ⟨x, rfl, e⟩ := one_of ex
    obtain ⟨a, ys, rfl, ey⟩ := er_nd e
    refine ⟨a.1, ys.map val, rfl, .inr (ok.1.at_ s), ?_⟩
    rw [← ey, mapL_len] at k
    rw [List.length_map]; exact k.plain s rfl
  · cases h
    refine ⟨_, call_len_seq, fun F H xs Q s ok nd ex k => ?_⟩
    obtain ⟨x, rfl, e⟩ := one_of ex
    obtain ⟨a, ys, rfl, ey⟩ := er_nd e
    refine ⟨a.1, ys.map val, rfl, .inl (ok.1.at_ s), ?_⟩
    rw [← ey, mapL_len] at k
    rw [List.length_map]; exact k.plain s rfl
  · cases h
    refine ⟨_, call_lenR, fun F H xs Q s ok nd ex k => ?_⟩
    obtain ⟨x, rfl, e⟩ := one_of ex
    obtain ⟨a, ys, rfl, ey⟩ := er_nd e
    have hl := ok.1.shp.1
    refine ⟨a.1, _, rfl, ok.1.at_ s, ?_⟩
    rw [List.length_zip, List.length_map, ← hl, Nat.min_self]
    exact k.plain s rfl
  · cases h
def D.int_ : List D → Option D
  | [.int i] => some (.int i)
  | [.bl k] => some (.int (if k then 1 else 0))
  | _ => none
theorem opn_int : OpN (cx ca C) (CallR C (.type "int")) D.int_ := by
  intro ds d h
  unfold D.int_ at h
  split at h
  · cases h
    refine ⟨_, call_int1, fun F H xs Q s ok nd ex k => ?_⟩
    obtain ⟨x, rfl, e⟩ := one_of ex
    rw [er_int e] at k ⊢
    exact .inl ⟨_, rfl, k.plain s rfl⟩
  · cases h
    refine ⟨_, call_int1, fun F H xs Q s ok nd ex k => ?_⟩
    obtain ⟨x, rfl, e⟩ := one_of ex
    rw [er_bl e] at k ⊢
    exact .inr ⟨_, rfl, k.plain s rfl⟩
  · cases h
def D.abs : List D → Option D
  | [.int i] => some (.int (if i < 0 then -i else i))
  | _ => none
theorem opn_abs : OpN (cx ca C) (CallR C (.builtin "abs")) D.abs := by
  intro ds d h
  unfold D.abs at h
  split at h
  · cases h
    refine ⟨_, call_abs, fun F H xs Q s ok nd ex k => ?_⟩
    obtain ⟨x, rfl, e⟩ := one_of ex
    rw [er_int e] at k ⊢
    exact ⟨_, rfl, k.plain s rfl⟩
  · cases h
/-- list(xs), tuple(xs) -/
def D.list_ : List D → Option D
  | [.nd .lst _ _ xs] => if allL isC xs = true then some (.nd .lst .o () xs) else none
  | [.nd .tup _ _ xs] => if allL isC xs = true then some (.nd .lst .o () xs) else none
  | _ => none
def D.tuple_ : List D → Option D
  | [.nd .lst _ _ xs] => if allL isC xs = true then some (.nd .tup .c () xs) else none
  | [.nd .tup .c _ xs] => some (.nd .tup .c () xs)
  | _ => none
theorem er_cold {ys : List A} (h : allL isC (mapL (fun _ => ()) ys) = true) : allL isC ys = true := by rw [← allL_mapL]; exact h
theorem opn_list : OpN (cx ca C) (CallR C (.type "list")) D.list_ := by
  intro ds d h
  unfold D.list_ at h
  split at h
  · split at h
    · rename_i hz
      cases h
      refine ⟨_, call_list_of, fun F H xs Q s ok nd ex k => ?_⟩
      obtain ⟨x, rfl, e⟩ := one_of ex
      obtain ⟨a, ys, rfl, ey⟩ := er_nd e
      subst ey
      have c := er_cold hz
      exact ⟨a.1, ys.map val, rfl, .inl (SqL.of (ok.1.at_ s)), fun l hl => k.new (.inl rfl) s hl (.inl rfl) trivial ok.1.kids (by rw [← mapL_mkL, mkL_cold rfl c]) (allC_notB c) (by rw [adrL_nil rfl c]; exact fun _ z => (by cases z))⟩
    · cases h
  · split at h
    · rename_i hz
      cases h
      refine ⟨_, call_list_of, fun F H xs Q s ok nd ex k => ?_⟩
      obtain ⟨x, rfl, e⟩ := one_of ex
      obtain ⟨a, ys, rfl, ey⟩ := er_nd e
      subst ey
      have c := er_cold hz
      exact ⟨a.1, ys.map val, rfl, .inr (ok.1.at_ s), fun l hl => k.new (.inl rfl) s hl (.inl rfl) trivial ok.1.kids (by rw [← mapL_mkL, mkL_cold rfl c]) (allC_notB c) (by rw [adrL_nil rfl c]; exact fun _ z => (by cases z))⟩
    · cases h
  · cases h
theorem opn_tuple : OpN (cx ca C) (CallR C (.type "tuple")) D.tuple_ := by
  intro ds d h
  unfold D.tuple_ at h
  split at h
  · split at h
    · rename_i hz
      cases h
      refine ⟨_, call_tuple_of, fun F H xs Q s ok nd ex k => ?_⟩
      obtain ⟨x, rfl, e⟩ := one_of ex
      obtain ⟨a, ys, rfl, ey⟩ := er_nd e
      subst ey
      have c := er_cold hz
      exact ⟨a.1, ys.map val, rfl, .inl ⟨SqL.of (ok.1.at_ s), fun l hl => k.new (.inr rfl) s hl (.inr (.inl rfl)) trivial ok.1.kids (by rw [← mapL_mkL, mkL_cold rfl c]) (allC_notB c) (by rw [adrL_nil rfl c]; exact fun _ z => (by cases z))⟩⟩
    · cases h
  · cases h
    refine ⟨_, call_tuple_of, fun F H xs Q s ok nd ex k => ?_⟩
    obtain ⟨x, rfl, e⟩ := one_of ex
    obtain ⟨a, ys, rfl, ey⟩ := er_nd e
    subst ey
    refine ⟨a.1, ys.map val, rfl, .inr ⟨ok.1.at_ s, ?_⟩⟩
    rw [adrL_one] at nd
    exact LPost.part (z := .nd .tup .c a ys) k s ok.1 nd (fun p hp => by rw [adrL_one]; exact hp) fun p hp => by rw [adrL_one]; exact hp
  · cases h
end
end Vl
/-! The value layer, 11: fields, places by index, slices, texts, isinstance, f-strings, stars. -/
namespace Vl
open PySem PySem.Spec PyProof.Rows L2

def posG {κ : Type} [DecidableEq κ] : List κ → κ → Option Nat
  | [], _ => none
  | k' :: ks, k => if k' = k then some 0 else (posG ks k).map (· + 1)
theorem lookup_pos {β : Type} (f : Str) : ∀ (fs : List Str) (vs : List β), fs.length = vs.length → (fs.zip vs).lookup f = (posG fs f).bind fun j => vs[j]?
  | [], vs, h => by cases vs <;> rfl
  | k :: fs, [], h => by cases h
  | k :: fs, v :: vs, h => by
    have ih := lookup_pos f fs vs (by simpa using h)
    rw [List.zip_cons_cons, List.lookup]
    by_cases e : k = f
    · subst e
      have : (k == k) = true := by simp
      rw [this]
      unfold posG
      rw [if_pos rfl]; rfl
    · have : (f == k) = false := by simpa using fun z : f = k => e z.symm
      rw [this]
      unfold posG
      rw [if_neg e, ih]
      cases posG fs f <;> rfl
theorem pos_lt {κ : Type} [DecidableEq κ] {k : κ} : ∀ {ks : List κ} {j : Nat}, posG ks k = some j → j < ks.length
  | [], _, h => by cases h
  | k' :: ks, j, h => by
    unfold posG at h
    split at h
    · cases h; exact Nat.succ_pos _
    · cases q : posG ks k with
      | none => rw [q] at h; cases h
      | some i => rw [q] at h; cases h; exact Nat.succ_lt_succ (pos_lt q)
/-- p.f -/
def P.fld (Cs : List Str) (f : Str) (p : Pv) : Pv := fun ρ => (p ρ).bind fun q ρ1 => match getR ρ1 q.1 q.2 with
  | some (.nd (.ins n fs) _ _ _) => if n ∈ Cs then match posG fs f with
    | some j => .ok (q.1, q.2 ++ [j]) ρ1
    | none => .bad
    else .bad
  | _ => .bad
/-- p[e] -/
def P.ix (p : Pv) (f : Ev) : Pv := fun ρ => (p ρ).bind fun q ρ1 => (f ρ1).bind fun i ρ2 => match getR ρ2 q.1 q.2, i with
  | some (.nd .lst _ _ xs), .int i => match ixN xs.length i with
    | some j => .ok (q.1, q.2 ++ [j]) ρ2
    | none => .bad
  | some (.nd (.dct ks) _ _ _), k => match k.key.bind fun k => posG ks k with
    | some j => .ok (q.1, q.2 ++ [j]) ρ2
    | none => .bad
  | _, _ => .bad
/-- a class of one's own, and an attribute of its objects -/
structure FldOk (K : PySem.W.Frag) (ca : Ca) (Cs : List Str) (f : Str) : Prop where
  cls : ∀ n ∈ Cs, Cls K (ca n)
  no : ∀ n ∈ Cs, NoAttr K (ca n) f
theorem getR_at {r : AR} {i : Nat} {p : List Nat} {x0 x : A} (hi : r[i]? = some (some x0)) (hx : getT x0 p = some x) : getR (erR r) i p = some (er x) := by
  unfold getR
  rw [erR_get, hi]
  show getT (er x0) p = _
  rw [getT_map, hx]; rfl
section
variable {ca : Ca} {C : Cx} {W : WX} {e a b : Expr} {es : List Expr} {f g h : Ev} {fa : Env → R (List D)} {pos : Pos} {ρ : Env} {pv : Pv}
theorem zip_map_lookup {fs : List Str} {xs : List A} {n : Str} {j : Nat} (hl : fs.length = xs.length) (h : posG fs n = some j) : ∃ y, xs[j]? = some y ∧ (fs.zip (xs.map val)).lookup n = some (val y) := by
  have hj : j < xs.length := by rw [← hl]; exact pos_lt h
  refine ⟨xs[j], List.getElem?_eq_getElem hj, ?_⟩
  rw [lookup_pos n fs _ (by rw [List.length_map]; exact hl), h]
  show (xs.map val)[j]? = _
  rw [List.getElem?_map, List.getElem?_eq_getElem hj]; rfl
theorem cp_fld {Cs : List Str} {n : Str} (k : FldOk C.K ca Cs n) (h : CP ca C W e pv) (hb : attributeBase e n C.env (eval e C.env) = eval e C.env := by rfl) : CP ca C W (.Attribute e n pos) (P.fld Cs n pv) := ⟨fun ρ => by
  refine PE.mono (pe_fld (h.run ρ) hb) fun σ H Q ⟨F, r, s, e, p⟩ => ⟨F, r, s, e, ?_⟩
  unfold P.fld at p
  cases hp : pv ρ with
  | bad => rw [hp] at p; exact p
  | exc c fs ρ1 => rw [hp] at p; exact p
  | ok q ρ1 =>
    rw [hp, R.ok_bind] at p
    intro F1 H1 r1 x0 x g1 s1 e1 hi hx
    have hg := getR_at hi hx
    rw [e1] at hg
    rw [hg] at p
    cases x with
    | nd kd m ad xs =>
      cases kd with
      | ins c fs =>
        dsimp only [er, T.map] at p
        split at p
        · rename_i hc
          cases hj : posG fs n with
          | none => rw [hj] at p; exact p.elim
          | some j =>
            rw [hj] at p
            have ok := (s1.slotOk hi).get hx
            obtain ⟨y, hy, hl⟩ := zip_map_lookup (ok.shp.1) hj
            have at1 := ok.at_ s1.sub
            exact ⟨ad.1, ca c, ad.2, _, val y, rfl, at1.1, k.cls c hc, k.no c hc, hl, p F1 H1 r1 x0 y g1 s1 e1 hi (by rw [getT_append hx]; exact (getT_nd hy).trans (getT_nil y))⟩
        · exact p.elim
      | _ => exact p.elim
    | _ => exact p.elim⟩
/-- a way stays over a further step -/
theorem way_stays {r1 r2 : AR} {i : Nat} {p : List Nat} {x0 x : A} (un : fzR r2 = fzR r1) (hi : r1[i]? = some (some x0)) (hx : getT x0 p = some x) : ∃ y0 y, r2[i]? = some (some y0) ∧ getT y0 p = some y ∧ y.fz = x.fz := by
  have h1 : (fzR r1)[i]? = some (some x0.fz) := by unfold fzR; rw [List.getElem?_map, hi]; rfl
  rw [← un] at h1
  unfold fzR at h1
  rw [List.getElem?_map] at h1
  cases e : r2[i]? with
  | none => rw [e] at h1; cases h1
  | some o =>
    cases o with
    | none => rw [e] at h1; cases h1
    | some y0 =>
      rw [e] at h1
      have h2 : y0.fz = x0.fz := Option.some.inj (Option.some.inj h1)
      have h3 : getT y0.fz p = some x.fz := by rw [h2]; show getT (x0.mk calm) p = _; rw [getT_mk, hx]; rfl
      have h4 : getT (y0.mk calm) p = some x.fz := h3
      rw [getT_mk] at h4
      cases q : getT y0 p with
      | none => rw [q] at h4; cases h4
      | some y => rw [q] at h4; exact ⟨y0, y, rfl, q, Option.some.inj h4⟩
theorem fz_val {x y : A} (h : y.fz = x.fz) : val y = val x := by
  have h1 : val y.fz = val y := val_mk _ y
  have h2 : val x.fz = val x := val_mk _ x
  rw [← h1, h, h2]
theorem zip_look {ks : List Key} {xs : List A} {k : Key} {j : Nat} (hl : ks.length = xs.length) (h : posG ks k = some j) : ∃ y, xs[j]? = some y ∧ valV (ks.zip (xs.map val)) k = some (val y) := by
  have hj : j < xs.length := by rw [← hl]; exact pos_lt h
  refine ⟨xs[j], List.getElem?_eq_getElem hj, ?_⟩
  rw [valV_zip, look_map]
  have key : ∀ (ks : List Key) (xs : List A) (j : Nat) (y : A), posG ks k = some j → xs[j]? = some y → look ks xs k = some y := by
    intro ks
    induction ks with
    | nil => intro xs j y h; cases h
    | cons k' ks ih =>
      intro xs j y h hy
      unfold posG at h
      cases xs with
      | nil => cases hy
      | cons x xs =>
        show (if k' = k then some x else look ks xs k) = some y
        split at h
        · rename_i e
          cases h
          rw [if_pos e]; exact hy
        · rename_i e
          cases q : posG ks k with
          | none => rw [q] at h; cases h
          | some i =>
            rw [q] at h
            cases h
            rw [if_neg e]
            exact ih xs i y q hy
  rw [key ks xs j _ h (List.getElem?_eq_getElem hj)]; rfl
theorem cp_ix (hu : C.A.units + 64 < cLine) (h : CP ca C W a pv) (hb : CE ca C W b f) (hs : PlainIx b := by exact fun _ _ => rfl) : CP ca C W (.Subscript a b pos) (P.ix pv f) := ⟨fun ρ => by
  cases hp : pv ρ with
  | bad => exact PE.mono pe_false fun σ H Q ⟨F, r, s, e, p⟩ => by unfold P.ix at p; rw [hp] at p; exact p
  | exc c fs ρ1 => exact PE.mono (okx_false.run (h.run ρ) pe_false hs) fun σ H Q ⟨F, r, s, e, p⟩ => ⟨F, r, s, e, by unfold P.ix at p; rw [hp] at p ⊢; exact p⟩
  | ok q ρ1 =>
    cases hf : f ρ1 with
    | bad => exact PE.mono pe_false fun σ H Q ⟨F, r, s, e, p⟩ => by unfold P.ix at p; rw [hp, R.ok_bind, hf] at p; exact p
    | exc c fs ρ2 =>
      refine PE.mono (okx_false.run (h.run ρ) (hb.run ρ1) hs) fun σ H Q ⟨F, r, s, e, p⟩ => ⟨F, r, s, e, ?_⟩
      unfold P.ix at p; rw [hp, R.ok_bind, hf] at p
      rw [hp]
      intro F1 H1 r1 x0 x g1 s1 e1 hi hx
      refine ⟨F1, r1, s1, e1, ?_⟩
      rw [hf]
      exact fun F2 H2 r2 dx g2 s2 e2 x2 => p F2 H2 r2 dx (g1.trans s1 g2) s2 e2 x2
    | ok ix ρ2 =>
      have hu' : C.A.units + 1 < cLine := by omega
      by_cases hd : ∃ ks m u xs, getR ρ2 q.1 q.2 = some (.nd (.dct ks) m u xs)
      · obtain ⟨ks, m, u, xs, hg⟩ := hd
        refine PE.mono ((okx_dget hu').run (h.run ρ) (hb.run ρ1) hs) fun σ H Q ⟨F, r, s, e, p⟩ => ⟨F, r, s, e, ?_⟩
        unfold P.ix at p; rw [hp, R.ok_bind, hf, R.ok_bind, hg] at p
        rw [hp]
        intro F1 H1 r1 x0 x g1 s1 e1 hi hx
        refine ⟨F1, r1, s1, e1, ?_⟩
        rw [hf]
        intro F2 H2 r2 y g2 s2 e2 ok2 ex2 v2
        obtain ⟨z0, z, hi2, hx2, ez⟩ := way_stays g2.un hi hx
        have hg2 := getR_at hi2 hx2
        rw [e2, hg] at hg2
        obtain ⟨az, zs, rfl, ezs⟩ := er_nd (Option.some.inj hg2).symm
        have okz := (s2.slotOk hi2).get hx2
        subst ex2
        dsimp only at p
        cases hk : D.key (er y) with
        | none => rw [hk] at p; exact p.elim
        | some key =>
          rw [hk, Option.bind_some] at p
          cases hj : posG ks key with
          | none => rw [hj] at p; exact p.elim
          | some j =>
            rw [hj] at p
            obtain ⟨w, hw, hl⟩ := zip_look okz.shp.1 hj
            refine ⟨az.1, val w, (fz_val ez).symm.trans rfl, .inl ⟨_, key, okz.at_ s2.sub, key_val hk, hl.symm⟩, ?_⟩
            exact p F2 H2 r2 z0 w (g1.trans s1 g2) s2 e2 hi2 (by rw [getT_append hx2]; exact (getT_nd hw).trans (getT_nil w))
      · refine PE.mono ((okx_of ix_list).run (h.run ρ) (hb.run ρ1) hs) fun σ H Q ⟨F, r, s, e, p⟩ => ⟨F, r, s, e, ?_⟩
        unfold P.ix at p; rw [hp, R.ok_bind, hf, R.ok_bind] at p
        rw [hp]
        intro F1 H1 r1 x0 x g1 s1 e1 hi hx
        refine ⟨F1, r1, s1, e1, ?_⟩
        rw [hf]
        intro F2 H2 r2 y g2 s2 e2 ok2 ex2 v2
        obtain ⟨z0, z, hi2, hx2, ez⟩ := way_stays g2.un hi hx
        have hg2 := getR_at hi2 hx2
        rw [e2] at hg2
        rw [hg2] at p hd
        have okz := (s2.slotOk hi2).get hx2
        subst ex2
        cases z with
        | nd kd m az zs =>
          cases kd with
          | lst =>
            cases y with
            | int i =>
              dsimp only [er, T.map] at p
              cases hj : ixN (mapL (fun _ => ()) zs).length i with
              | none => rw [hj] at p; exact p.elim
              | some j =>
                rw [hj] at p
                rw [mapL_len] at hj
                have hlt : j < zs.length := (ixN_seq hj).2.1
                refine ⟨az.1, zs.map val, i, val zs[j], (fz_val ez).symm.trans rfl, rfl, SqL.of (okz.at_ s2.sub), ?_, ?_⟩
                · unfold atI
                  rw [List.length_map, hj]
                  show (zs.map val)[j]? = _
                  rw [List.getElem?_map, List.getElem?_eq_getElem hlt]; rfl
                · exact p F2 H2 r2 z0 zs[j] (g1.trans s1 g2) s2 e2 hi2 (by rw [getT_append hx2]; exact (getT_nd (List.getElem?_eq_getElem hlt)).trans (getT_nil _))
            | _ => exact p.elim
          | dct ks => exact absurd ⟨ks, m, (), _, rfl⟩ hd
          | _ => cases y <;> exact p.elim
        | _ => cases y <;> exact p.elim⟩

/-! ### slices -/
def cutG {α : Type} (xs : List α) (lo hi : Option Int) : List α := (xs.drop (HT.sIx xs.length 0 lo)).take (HT.sIx xs.length xs.length hi - HT.sIx xs.length 0 lo)
theorem cutG_map {α β : Type} (f : α → β) (xs : List α) (lo hi : Option Int) : cutG (xs.map f) lo hi = (cutG xs lo hi).map f := by
  unfold cutG
  rw [List.length_map, List.map_take, List.map_drop]
theorem cutV_eq (xs : List V) (lo hi : Option Int) : cutV xs lo hi = cutG xs lo hi := rfl
theorem cutG_mem {α : Type} {xs : List α} {lo hi : Option Int} : ∀ x ∈ cutG xs lo hi, x ∈ xs := fun x h => List.mem_of_mem_drop (List.mem_of_mem_take h)
def D.slice (d : D) (lo hi : Option Int) : Option D := match d with
  | .nd .lst _ _ xs => if allL isC xs = true then some (.nd .lst .o () (cutG xs lo hi)) else none
  | .nd .scr _ _ xs => if allL isC xs = true then some (.nd .lst .o () (cutG xs lo hi)) else none
  | .nd .tup _ _ xs => if allL isC xs = true ∧ ¬ (HT.sIx xs.length 0 lo = 0 ∧ HT.sIx xs.length xs.length hi = xs.length) then some (.nd .tup .c () (cutG xs lo hi)) else none
  | .str z => if z.length ≤ sizeLine then some (.str (cutS z lo hi)) else none
  | _ => none
/-- a slice's part -/
abbrev Eo := Env → R (Option Int)
def PostO (X : Ctx) (W : WX) (σ : St) (F H : Hp) (r : AR) (res : R (Option Int)) (Q : Option Int → Hp → Prop) : Prop := match res with
  | .bad => False
  | .ok o ρ' => ∀ F' H' r', Grow F H r F' H' r' → Stt X F' H' r' σ → erR r' = ρ' → Q o H'
  | .exc C fs ρ' => ∀ F' H' r' dx, Grow F H r F' H' r' → Stt X F' H' r' σ → erR r' = ρ' → XOk X F' H' dx fs → W (.ref (X.ca C)) dx σ H'
def rdO (X : Ctx) (W : WX) (f : Eo) (ρ : Env) : TO := fun σ H Q => ∃ F r, Stt X F H r σ ∧ erR r = ρ ∧ PostO X W σ F H r (f ρ) Q
structure CO (ca : Ca) (C : Cx) (W : WX) (e : Option Expr) (f : Eo) : Prop where
  run : ∀ ρ, PO C e (rdO ⟨C.K, ca.f, ca.fix, ca.cells, ca.known⟩ W f ρ)
def E.no : Eo := fun ρ => .ok none ρ
def E.part (f : Ev) : Eo := fun ρ => (f ρ).bind fun d ρ1 => match d with
  | .int i => .ok (some i) ρ1
  | _ => .bad
theorem PO.mono {C : Cx} {e : Option Expr} {t t' : TO} (h : PO C e t) (i : ∀ σ H Q, t' σ H Q → t σ H Q) : PO C e t' := ⟨fun pins s σ H Q I q => h.run pins s σ H Q I (i σ H Q q)⟩
theorem co_none : CO ca C W none E.no := ⟨fun ρ => PO.mono po_none fun σ H Q ⟨F, r, s, e, p⟩ => p F H r .refl s e⟩
theorem co_some (h : CE ca C W e f) : CO ca C W (some e) (E.part f) := ⟨fun ρ => PO.mono (po_some (h.run ρ)) fun σ H Q ⟨F, r, s, e, p⟩ => ⟨F, r, s, e, by
  unfold E.part at p
  cases hf : f ρ with
  | bad => rw [hf] at p; exact p
  | exc c fs ρ1 => rw [hf] at p; exact p
  | ok d ρ1 =>
    rw [hf, R.ok_bind] at p
    intro F1 H1 r1 x g1 s1 e1 ok1 ex1 v1
    subst ex1
    cases x with
    | int i => exact ⟨i, rfl, p F1 H1 r1 g1 s1 e1⟩
    | _ => exact p.elim⟩⟩
def E.sl (f : Ev) (lo hi : Eo) : Ev := fun ρ => (f ρ).bind fun d ρ1 => (lo ρ1).bind fun l ρ2 => (hi ρ2).bind fun h ρ3 => R.of (D.slice d l h) ρ3
def Sl1 (X : Ctx) (C : Cx) (d0 : D) (lo hi : Option Int) (d : D) : Prop := ∃ r, SlR C r ∧ ∀ F H x Q, Sub F H → Ok X F H x → (own x).Nodup → er x = d0 → LPost X F H [x] d Q → r (val x) lo hi H Q
theorem slice_rule {d0 d : D} {lo hi : Option Int} (h : D.slice d0 lo hi = some d) : Sl1 (cx ca C) C d0 lo hi d := by
  unfold D.slice at h
  split at h
  · split at h
    · rename_i hz
      cases h
      refine ⟨_, sl_list, fun F H x Q s ok nd e k => ?_⟩
      obtain ⟨a, xs, rfl, ex⟩ := er_nd e
      subst ex
      have c := er_cold hz
      have c2 := allL_sub c (cutG_mem (lo := lo) (hi := hi))
      refine ⟨a.1, xs.map val, rfl, SqL.of (ok.at_ s), fun p hp => ?_⟩
      have := k.new (xs := cutG xs lo hi) (.inl rfl) s hp (.inl rfl) trivial (ok.kids.sub cutG_mem) (by rw [← mapL_mkL, mkL_cold rfl c2, mapL_eq, mapL_eq, cutG_map]) (allC_notB c2) (by rw [adrL_nil rfl c2]; exact fun _ z => (by cases z))
      rw [cutV_eq, cutG_map]; exact this
    · cases h
  · split at h
    · rename_i hz
      cases h
      refine ⟨_, sl_list, fun F H x Q s ok nd e k => ?_⟩
      obtain ⟨a, xs, rfl, ex⟩ := er_nd e
      subst ex
      have c := er_cold hz
      have c2 := allL_sub c (cutG_mem (lo := lo) (hi := hi))
      refine ⟨a.1, xs.map val, rfl, ok.at_ s, fun p hp => ?_⟩
      have := k.new (xs := cutG xs lo hi) (.inl rfl) s hp (.inl rfl) trivial (ok.kids.sub cutG_mem) (by rw [← mapL_mkL, mkL_cold rfl c2, mapL_eq, mapL_eq, cutG_map]) (allC_notB c2) (by rw [adrL_nil rfl c2]; exact fun _ z => (by cases z))
      rw [cutV_eq, cutG_map]; exact this
    · cases h
  · split at h
    · rename_i hz
      cases h
      refine ⟨_, sl_tup, fun F H x Q s ok nd e k => ?_⟩
      obtain ⟨a, xs, rfl, ex⟩ := er_nd e
      subst ex
      have c := er_cold hz.1
      have c2 := allL_sub c (cutG_mem (lo := lo) (hi := hi))
      refine ⟨a.1, xs.map val, rfl, ok.at_ s, by rw [List.length_map]; rw [mapL_len] at hz; exact hz.2, fun p hp => ?_⟩
      have := k.new (xs := cutG xs lo hi) (.inr rfl) s hp (.inr (.inl rfl)) trivial (ok.kids.sub cutG_mem) (by rw [← mapL_mkL, mkL_cold rfl c2, mapL_eq, mapL_eq, cutG_map]) (allC_notB c2) (by rw [adrL_nil rfl c2]; exact fun _ z => (by cases z))
      rw [cutV_eq, cutG_map]; exact this
    · cases h
  · split at h
    · rename_i hz
      cases h
      refine ⟨_, sl_str, fun F H x Q s ok nd e k => ?_⟩
      rw [er_str e]
      exact ⟨_, rfl, hz, k.plain s rfl⟩
    · cases h
  · cases h
theorem sl_false : SlR C fun _ _ _ _ _ => False := fun _ _ _ _ _ _ _ _ _ _ _ _ _ _ _ _ _ h => h.elim
theorem po_false {e : Option Expr} : PO C e fun _ _ _ => False := ⟨fun _ _ _ _ _ _ h => h.elim⟩
theorem ce_sl {l u : Option Expr} {lo hi : Eo} {p2 : Pos} (ha : CE ca C W a f) (hl : CO ca C W l lo) (hh : CO ca C W u hi) : CE ca C W (.Subscript a (.Slice l u none p2) pos) (E.sl f lo hi) := ⟨fun ρ => by
  cases hf : f ρ with
  | bad => exact PE.mono pe_false fun σ H Q ⟨F, r, s, e, p⟩ => by unfold E.sl at p; rw [hf] at p; exact p
  | exc c fs ρ1 => exact PE.mono (pe_slice sl_false (ha.run ρ) po_false po_false) fun σ H Q ⟨F, r, s, e, p⟩ => ⟨F, r, s, e, by unfold E.sl at p; rw [hf] at p ⊢; exact p⟩
  | ok d ρ1 =>
    cases hlo : lo ρ1 with
    | bad => exact PE.mono pe_false fun σ H Q ⟨F, r, s, e, p⟩ => by unfold E.sl at p; rw [hf, R.ok_bind, hlo] at p; exact p
    | exc c fs ρ2 =>
      refine PE.mono (pe_slice sl_false (ha.run ρ) (hl.run ρ1) po_false) fun σ H Q ⟨F, r, s, e, p⟩ => ⟨F, r, s, e, ?_⟩
      unfold E.sl at p; rw [hf, R.ok_bind, hlo] at p
      rw [hf]
      intro F1 H1 r1 x g1 s1 e1 ok1 ex1 v1
      exact ⟨F1, r1, s1, e1, by rw [hlo]; exact fun F2 H2 r2 dx g2 s2 e2 x2 => p F2 H2 r2 dx (g1.trans s1 g2) s2 e2 x2⟩
    | ok l' ρ2 =>
      cases hhi : hi ρ2 with
      | bad => exact PE.mono pe_false fun σ H Q ⟨F, r, s, e, p⟩ => by unfold E.sl at p; rw [hf, R.ok_bind, hlo, R.ok_bind, hhi] at p; exact p
      | exc c fs ρ3 =>
        refine PE.mono (pe_slice sl_false (ha.run ρ) (hl.run ρ1) (hh.run ρ2)) fun σ H Q ⟨F, r, s, e, p⟩ => ⟨F, r, s, e, ?_⟩
        unfold E.sl at p; rw [hf, R.ok_bind, hlo, R.ok_bind, hhi] at p
        rw [hf]
        intro F1 H1 r1 x g1 s1 e1 ok1 ex1 v1
        refine ⟨F1, r1, s1, e1, ?_⟩
        rw [hlo]
        intro F2 H2 r2 g2 s2 e2
        exact ⟨F2, r2, s2, e2, by rw [hhi]; exact fun F3 H3 r3 dx g3 s3 e3 x3 => p F3 H3 r3 dx ((g1.trans s1 g2).trans s2 g3) s3 e3 x3⟩
      | ok h' ρ3 =>
        cases hd : D.slice d l' h' with
        | none => exact PE.mono pe_false fun σ H Q ⟨F, r, s, e, p⟩ => by unfold E.sl at p; rw [hf, R.ok_bind, hlo, R.ok_bind, hhi, R.ok_bind, hd] at p; exact p
        | some d' =>
          obtain ⟨r0, ho, hr⟩ := slice_rule (ca := ca) (C := C) hd
          refine PE.mono (pe_slice ho (ha.run ρ) (hl.run ρ1) (hh.run ρ2)) fun σ H Q ⟨F, r, s, e, p⟩ => ⟨F, r, s, e, ?_⟩
          unfold E.sl at p; rw [hf, R.ok_bind, hlo, R.ok_bind, hhi, R.ok_bind, hd] at p
          rw [hf]
          intro F1 H1 r1 x g1 s1 e1 ok1 ex1 v1
          refine ⟨F1, r1, s1, e1, ?_⟩
          rw [hlo]
          intro F2 H2 r2 g2 s2 e2
          refine ⟨F2, r2, s2, e2, ?_⟩
          rw [hhi]
          intro F3 H3 r3 g3 s3 e3
          have n1 : ∀ a ∈ own x, a ∉ adrR .o r1 := fun a ha hr1 => (s.own_there (g1.ow a hr1)).1 (v1.new a ha)
          have g123 := (g1.trans s1 g2).trans s2 g3
          exact hr F3 H3 x Q s3.sub (ok1.grow s1 n1 (g2.trans s2 g3)) v1.nd ex1 (fin_leaf s s3 g123 e3 (fun a ha => by rw [adrL_one] at ha; exact v1.new a ha) (fun b hb => by rw [adrL_one] at hb; exact v1.bo b hb) p)⟩
end
end Vl
/-! The value layer, 12: statements. -/
namespace Vl
open PySem PySem.Spec PyProof.Rows L2

inductive SR where
  | nx (ρ : Env) | ret (d : D) (ρ : Env) | bk (ρ : Env) | ct (ρ : Env) | exc (C : Str) (fs : List (Str × D)) (ρ : Env) | bad
abbrev Sv := Env → SR
/-- from one state to another, the slots' objects changed -/
structure GrowS (F H : Hp) (r : AR) (F' H' : Hp) (r' : AR) : Prop where
  same : ∀ a u, a ∉ adrR .o r → H a = some u → H' a = some u
  fs : ∀ a u, F a = some u → F' a = some u
  fr : ∀ a, F a = none → F' a ≠ none → H a = none ∨ a ∈ adrR .o r
  ow : ∀ a ∈ adrR .o r', H a = none ∨ a ∈ adrR .o r
  bo : ∀ b ∈ adrR .b r', b ∈ adrR .b r
  there : ∀ a, H a ≠ none → H' a ≠ none
section
variable {X : Ctx} {F F1 F2 H H1 H2 : Hp} {r r1 r2 : AR} {σ σ1 : St}
theorem Grow.toS (g : Grow F H r F1 H1 r1) : GrowS F H r F1 H1 r1 where
  same := fun a u _ h => g.same a u h
  fs := g.fs
  fr := g.fr
  ow := fun a h => .inr (g.ow a h)
  bo := fun b h => (g.bo b).mp h
  there := fun a h => by
    cases e : H a with
    | none => exact absurd e h
    | some u => rw [g.same a u e]; exact fun z => by cases z
theorem GrowS.refl : GrowS F H r F H r := Grow.refl.toS
theorem GrowS.trans (g : GrowS F H r F1 H1 r1) (g' : GrowS F1 H1 r1 F2 H2 r2) : GrowS F H r F2 H2 r2 where
  same := fun a u ha h => by
    refine g'.same a u (fun h1 => ?_) (g.same a u ha h)
    rcases g.ow a h1 with q | q
    · rw [q] at h; cases h
    · exact ha q
  fs := fun a u h => g'.fs a u (g.fs a u h)
  fr := fun a h h' => by
    cases e : F1 a with
    | some u => exact g.fr a h (by rw [e]; exact fun z => by cases z)
    | none =>
      rcases g'.fr a e h' with q | q
      · refine .inl ?_
        cases e2 : H a with
        | none => rfl
        | some u => exact absurd q (g.there a (by rw [e2]; exact fun z => by cases z))
      · exact g.ow a q
  ow := fun a h => by
    rcases g'.ow a h with q | q
    · refine .inl ?_
      cases e2 : H a with
      | none => rfl
      | some u => exact absurd q (g.there a (by rw [e2]; exact fun z => by cases z))
    · exact g.ow a q
  bo := fun b h => g.bo b (g'.bo b h)
  there := fun a h => g'.there a (g.there a h)
end
/-- a value handed on -/
structure VRet (X : Ctx) (F' H' : Hp) (r' : AR) (x : A) : Prop where
  ok : Ok X F' H' x
  nd : (own x).Nodup
  out : ∀ a ∈ own x, a ∉ adrR .o r'
def PostS (X : Ctx) (W : WX) (F H : Hp) (r : AR) (res : SR) (D : Ends) : Prop := match res with
  | .bad => False
  | .nx ρ' => ∀ F' H' r' σ', GrowS F H r F' H' r' → Stt X F' H' r' σ' → erR r' = ρ' → D.nx σ' H'
  | .bk ρ' => ∀ F' H' r' σ', GrowS F H r F' H' r' → Stt X F' H' r' σ' → erR r' = ρ' → D.bk σ' H'
  | .ct ρ' => ∀ F' H' r' σ', GrowS F H r F' H' r' → Stt X F' H' r' σ' → erR r' = ρ' → D.ct σ' H'
  | .ret d ρ' => ∀ F' H' r' σ' x, GrowS F H r F' H' r' → Stt X F' H' r' σ' → erR r' = ρ' → VRet X F' H' r' x → (∀ a ∈ own x, H a = none ∨ a ∈ adrR .o r) → er x = d → D.rt (val x) H'
  | .exc C fs ρ' => ∀ F' H' r' σ' dx, GrowS F H r F' H' r' → Stt X F' H' r' σ' → erR r' = ρ' → XOk X F' H' dx fs → W (.ref (X.ca C)) dx σ' H'
def rdS (X : Ctx) (W : WX) (f : Sv) (ρ : Env) : TS := fun D σ H => ∃ F r, Stt X F H r σ ∧ erR r = ρ ∧ PostS X W F H r (f ρ) D
/-- the statement st does f -/
structure CS (ca : Ca) (C : Cx) (W : WX) (st : Stmt) (f : Sv) : Prop where
  run : ∀ ρ, PS C st (rdS ⟨C.K, ca.f, ca.fix, ca.cells, ca.known⟩ W f ρ)
structure CSs (ca : Ca) (C : Cx) (W : WX) (sts : List Stmt) (f : Sv) : Prop where
  run : ∀ ρ, PSs C sts (rdS ⟨C.K, ca.f, ca.fix, ca.cells, ca.known⟩ W f ρ)
theorem PS.mono {C : Cx} {e : Stmt} {t t' : TS} (h : PS C e t) (i : ∀ D σ H, t' D σ H → t D σ H) : PS C e t' := ⟨fun pins s σ H D I q => h.run pins s σ H D I (i D σ H q)⟩
theorem PSs.mono {C : Cx} {e : List Stmt} {t t' : TS} (h : PSs C e t) (i : ∀ D σ H, t' D σ H → t D σ H) : PSs C e t' := ⟨fun pins s σ H D I q => h.run pins s σ H D I (i D σ H q)⟩
theorem ps_false {C : Cx} {e : Stmt} : PS C e (fun _ _ _ => False) := ⟨fun _ _ _ _ _ _ h => h.elim⟩
theorem pss_false {C : Cx} {e : List Stmt} : PSs C e (fun _ _ _ => False) := ⟨fun _ _ _ _ _ _ h => h.elim⟩
theorem PostS.back {X : Ctx} {W : WX} {F H F1 H1 : Hp} {r r1 : AR} {res : SR} {D : Ends} (g : GrowS F H r F1 H1 r1) (p : PostS X W F H r res D) : PostS X W F1 H1 r1 res D := by
  cases res with
  | bad => exact p
  | nx ρ' => exact fun F' H' r' σ' g' s' e' => p F' H' r' σ' (g.trans g') s' e'
  | bk ρ' => exact fun F' H' r' σ' g' s' e' => p F' H' r' σ' (g.trans g') s' e'
  | ct ρ' => exact fun F' H' r' σ' g' s' e' => p F' H' r' σ' (g.trans g') s' e'
  | ret d ρ' =>
    refine fun F' H' r' σ' x g' s' e' v o ex => p F' H' r' σ' x (g.trans g') s' e' v (fun a ha => ?_) ex
    rcases o a ha with q | q
    · refine .inl ?_
      cases e2 : H a with
      | none => rfl
      | some u => exact absurd q (g.there a (by rw [e2]; exact fun z => by cases z))
    · exact g.ow a q
  | exc c fs ρ' => exact fun F' H' r' σ' dx g' s' e' x => p F' H' r' σ' dx (g.trans g') s' e' x
theorem PostS.imp {X : Ctx} {W : WX} {F H : Hp} {r : AR} {res : SR} {D D' : Ends} (p : PostS X W F H r res D) (hn : ∀ σ H, D.nx σ H → D'.nx σ H) (hr : ∀ v H, D.rt v H → D'.rt v H) (hb : ∀ σ H, D.bk σ H → D'.bk σ H) (hc : ∀ σ H, D.ct σ H → D'.ct σ H) : PostS X W F H r res D' := by
  cases res with
  | bad => exact p
  | nx ρ' => exact fun F' H' r' σ' g' s' e' => hn _ _ (p F' H' r' σ' g' s' e')
  | bk ρ' => exact fun F' H' r' σ' g' s' e' => hb _ _ (p F' H' r' σ' g' s' e')
  | ct ρ' => exact fun F' H' r' σ' g' s' e' => hc _ _ (p F' H' r' σ' g' s' e')
  | ret d ρ' => exact fun F' H' r' σ' x g' s' e' v o ex => hr _ _ (p F' H' r' σ' x g' s' e' v o ex)
  | exc c fs ρ' => exact p

def SR.andThen (x : SR) (k : Sv) : SR := match x with
  | .nx ρ => k ρ
  | y => y
def R.toS {β : Type} (x : R β) (k : β → Env → SR) : SR := match x with
  | .ok v ρ => k v ρ
  | .exc C fs ρ => .exc C fs ρ
  | .bad => .bad
theorem R.ok_toS {β : Type} (v : β) (ρ : Env) (k : β → Env → SR) : (R.ok v ρ).toS k = k v ρ := rfl
def S.nil : Sv := fun ρ => .nx ρ
def S.seq (f g : Sv) : Sv := fun ρ => (f ρ).andThen g
def S.brk : Sv := fun ρ => .bk ρ
def S.cont : Sv := fun ρ => .ct ρ
def S.ret (f : Ev) : Sv := fun ρ => (f ρ).toS fun d ρ1 => if d.nob = true then .ret d ρ1 else .bad
def S.retN : Sv := fun ρ => .ret .non ρ
def S.ite (c : Ev) (f g : Sv) : Sv := fun ρ => (c ρ).toS fun d ρ1 => match d with
  | .bl true => f ρ1
  | .bl false => g ρ1
  | _ => .bad
def S.ex (f : Ev) : Sv := fun ρ => (f ρ).toS fun _ ρ1 => .nx ρ1
abbrev Gv := D → Env → Option Env
def G.name (i : Nat) : Gv := fun d ρ => if i < ρ.length then some (ρ.set i (some d)) else none
def S.asg (f : Ev) (g : Gv) : Sv := fun ρ => (f ρ).toS fun d ρ1 => if d.nob = true then match g d ρ1 with
  | some ρ2 => .nx ρ2
  | none => .bad
  else .bad
/-- only the slots ss differ -/
def Only (ss : List Nat) (σ σ' : St) : Prop := σ'.length = σ.length ∧ ∀ j, j ∉ ss → σ'[j]? = σ[j]?
theorem Only.trans {s1 s2 : List Nat} {σ σ1 σ2 : St} (h : Only s1 σ σ1) (h' : Only s2 σ1 σ2) : Only (s1 ++ s2) σ σ2 :=
  ⟨h'.1.trans h.1, fun j hj => (h'.2 j fun z => hj (List.mem_append_right _ z)).trans (h.2 j fun z => hj (List.mem_append_left _ z))⟩
/-- a target -/
def rdG (X : Ctx) (ss : List Nat) (d : D) (ρ ρ' : Env) : TG := fun v σ H Q => ∃ F r x, Stt X F H r σ ∧ erR r = ρ ∧ val x = v ∧ er x = d ∧ Ok X F H x ∧ (own x).Nodup ∧ (∀ a ∈ own x, a ∉ adrR .o r) ∧ (∀ a ∈ own x, a ∉ adrR .b r) ∧ (∀ b ∈ bor x, b ∈ adrR .b r) ∧
  ∀ r' σ', Stt X F H r' σ' → erR r' = ρ' → (∀ a ∈ adrR .o r', a ∈ adrR .o r ∨ a ∈ own x) → (∀ b ∈ adrR .b r', b ∈ adrR .b r) → Only ss σ σ' → Q σ' H
structure CG (ca : Ca) (C : Cx) (t : Expr) (ss : List Nat) (g : Gv) : Prop where
  run : ∀ d ρ ρ', g d ρ = some ρ' → PG C t (rdG ⟨C.K, ca.f, ca.fix, ca.cells, ca.known⟩ ss d ρ ρ')
section
variable {ca : Ca} {C : Cx} {W : WX} {e a b t : Expr} {st : Stmt} {rest : List Stmt} {f f' : Ev} {g : Gv} {u v : Sv} {pos : Pos} {ρ : Env}
theorem css_nil : CSs ca C W [] S.nil := ⟨fun ρ => PSs.mono pss_nil fun D σ H ⟨F, r, s, e, p⟩ => p F H r σ .refl s e⟩
theorem css_cons (h : CS ca C W st u) (k : CSs ca C W rest v) : CSs ca C W (st :: rest) (S.seq u v) := ⟨fun ρ => by
  cases hu : u ρ with
  | nx ρ1 =>
    refine PSs.mono (pss_cons (h.run ρ) (k.run ρ1)) fun D σ H ⟨F, r, s, e, p⟩ => ⟨F, r, s, e, ?_⟩
    unfold S.seq at p; rw [hu] at p
    rw [hu]
    exact fun F1 H1 r1 σ1 g1 s1 e1 => ⟨F1, r1, s1, e1, PostS.back g1 p⟩
  | bad => exact PSs.mono pss_false fun D σ H ⟨F, r, s, e, p⟩ => by unfold S.seq at p; rw [hu] at p; exact p
  | bk ρ1 => exact PSs.mono (pss_cons (h.run ρ) pss_false) fun D σ H ⟨F, r, s, e, p⟩ => ⟨F, r, s, e, by unfold S.seq at p; rw [hu] at p ⊢; exact p⟩
  | ct ρ1 => exact PSs.mono (pss_cons (h.run ρ) pss_false) fun D σ H ⟨F, r, s, e, p⟩ => ⟨F, r, s, e, by unfold S.seq at p; rw [hu] at p ⊢; exact p⟩
  | ret d ρ1 => exact PSs.mono (pss_cons (h.run ρ) pss_false) fun D σ H ⟨F, r, s, e, p⟩ => ⟨F, r, s, e, by unfold S.seq at p; rw [hu] at p ⊢; exact p⟩
  | exc c fs ρ1 => exact PSs.mono (pss_cons (h.run ρ) pss_false) fun D σ H ⟨F, r, s, e, p⟩ => ⟨F, r, s, e, by unfold S.seq at p; rw [hu] at p ⊢; exact p⟩⟩
theorem cs_pass : CS ca C W (.Pass pos) S.nil := ⟨fun ρ => PS.mono ps_pass fun D σ H ⟨F, r, s, e, p⟩ => p F H r σ .refl s e⟩
theorem cs_brk : CS ca C W (.Break pos) S.brk := ⟨fun ρ => PS.mono ps_break fun D σ H ⟨F, r, s, e, p⟩ => p F H r σ .refl s e⟩
theorem cs_cont : CS ca C W (.Continue pos) S.cont := ⟨fun ρ => PS.mono ps_continue fun D σ H ⟨F, r, s, e, p⟩ => p F H r σ .refl s e⟩
theorem cs_retN : CS ca C W (.Return none pos) S.retN := ⟨fun ρ => PS.mono ps_retN fun D σ H ⟨F, r, s, e, p⟩ => p F H r σ .non .refl s e ⟨trivial, List.nodup_nil, fun _ z => (by cases z)⟩ (fun _ z => (by cases z)) rfl⟩
/-- an exception of an expression is the statement's -/
theorem exc_toS {X : Ctx} {F H : Hp} {r : AR} {σ : St} {n : Str} {fs : List (Str × D)} {ρ1 : Env} {D : Ends} {Q : VK} (p : PostS X W F H r (.exc n fs ρ1) D) : PostE X W σ F H r (.exc n fs ρ1) Q :=
  fun F' H' r' dx g s e x => p F' H' r' σ dx g.toS s e x
theorem cs_ret (h : CE ca C W e f) : CS ca C W (.Return (some e) pos) (S.ret f) := ⟨fun ρ => by
  refine PS.mono (ps_ret (h.run ρ)) fun D σ H ⟨F, r, s, e, p⟩ => ⟨F, r, s, e, ?_⟩
  unfold S.ret at p
  cases hf : f ρ with
  | bad => rw [hf] at p; exact p
  | exc c fs ρ1 => rw [hf] at p; exact exc_toS p
  | ok d ρ1 =>
    rw [hf, R.ok_toS] at p
    split at p
    · rename_i hn
      intro F1 H1 r1 x g1 s1 e1 ok1 ex1 v1
      exact p F1 H1 r1 σ x g1.toS s1 e1 ⟨ok1, v1.nd, fun a ha hr => (s.own_there (g1.ow a hr)).1 (v1.new a ha)⟩ (fun a ha => .inl (v1.new a ha)) ex1
    · exact p.elim⟩
theorem cs_ex (h : CE ca C W e f) (hs : swapsWith e none pos.line C.env = pure false := by rfl) : CS ca C W (.Expr e pos) (S.ex f) := ⟨fun ρ => by
  refine PS.mono (ps_expr (h.run ρ) hs) fun D σ H ⟨F, r, s, e, p⟩ => ⟨F, r, s, e, ?_⟩
  unfold S.ex at p
  cases hf : f ρ with
  | bad => rw [hf] at p; exact p
  | exc c fs ρ1 => rw [hf] at p; exact exc_toS p
  | ok d ρ1 =>
    rw [hf, R.ok_toS] at p
    exact fun F1 H1 r1 x g1 s1 e1 ok1 ex1 v1 => p F1 H1 r1 σ g1.toS s1 e1⟩
theorem cs_ite {tt ee : List Stmt} {c : Expr} {h : Ev} (hc : CT ca C W c h) (ht : CSs ca C W tt u) (he : CSs ca C W ee v) : CS ca C W (.If c tt ee pos) (S.ite h u v) := ⟨fun ρ => by
  cases hf : h ρ with
  | bad => exact PS.mono ps_false fun D σ H ⟨F, r, s, e, p⟩ => by unfold S.ite at p; rw [hf] at p; exact p
  | exc n fs ρ1 =>
    refine PS.mono (ps_if (hc.run ρ) pss_false pss_false) fun D σ H ⟨F, r, s, e, p⟩ => ?_
    unfold S.ite at p; rw [hf] at p
    exact test_exc (Q' := fun _ _ => True) hf F r s e (exc_toS p)
  | ok d ρ1 =>
    cases d with
    | bl k =>
      refine PS.mono (ps_if (hc.run ρ) (ht.run ρ1) (he.run ρ1)) fun D σ H ⟨F, r, s, e, p⟩ => ?_
      unfold S.ite at p; rw [hf, R.ok_toS] at p
      refine test_step hf F r s e fun F1 H1 r1 g1 s1 e1 => ?_
      cases k with
      | true => rw [if_pos rfl]; exact ⟨F1, r1, s1, e1, PostS.back g1.toS p⟩
      | false => rw [if_neg (by decide)]; exact ⟨F1, r1, s1, e1, PostS.back g1.toS p⟩
    | _ => exact PS.mono ps_false fun D σ H ⟨F, r, s, e, p⟩ => by unfold S.ite at p; rw [hf] at p; exact p⟩
theorem PG.mono {C : Cx} {e : Expr} {t t' : TG} (h : PG C e t) (i : ∀ v σ H Q, t' v σ H Q → t v σ H Q) : PG C e t' := ⟨fun pins s σ H x u Q I r q => h.run pins s σ H x u Q I r (i x σ H Q q)⟩
theorem pg_false {C : Cx} {e : Expr} : PG C e (fun _ _ _ _ => False) := ⟨fun _ _ _ _ _ _ _ _ _ h => h.elim⟩
theorem cs_asg {ss : List Nat} (h : CE ca C W e f) (k : CG ca C t ss g) (hs : swapsWithSole [t] e pos.line C.env = pure false := by rfl) (hw : swappedStores [t] e C.env = pure none := by rfl) (h1 : List.map (·.2) (assignEach [t] C.env) = [assign t C.env] := by rfl) : CS ca C W (.Assign [t] e pos) (S.asg f g) := ⟨fun ρ => by
  cases hf : f ρ with
  | bad => exact PS.mono ps_false fun D σ H ⟨F, r, s, e, p⟩ => by unfold S.asg at p; rw [hf] at p; exact p
  | exc c fs ρ1 => exact PS.mono (ps_asg (h.run ρ) pg_false hs hw h1) fun D σ H ⟨F, r, s, e, p⟩ => ⟨F, r, s, e, by unfold S.asg at p; rw [hf] at p ⊢; exact exc_toS p⟩
  | ok d ρ1 =>
    by_cases hn : d.nob = true
    · cases hg : g d ρ1 with
      | none => exact PS.mono ps_false fun D σ H ⟨F, r, s, e, p⟩ => by unfold S.asg at p; rw [hf, R.ok_toS, if_pos hn, hg] at p; exact p
      | some ρ2 =>
        refine PS.mono (ps_asg (h.run ρ) (k.run d ρ1 ρ2 hg) hs hw h1) fun D σ H ⟨F, r, s, e, p⟩ => ⟨F, r, s, e, ?_⟩
        unfold S.asg at p; rw [hf, R.ok_toS, if_pos hn, hg] at p
        rw [hf]
        intro F1 H1 r1 x g1 s1 e1 ok1 ex1 v1
        have nb : x.nob = true := by rw [← hn, ← ex1]; exact (T.all_map _ _ x).symm
        refine ⟨F1, r1, x, s1, e1, rfl, ex1, ok1, v1.nd, fun a ha hr => (s.own_there (g1.ow a hr)).1 (v1.new a ha), fun a ha hr => s.bor_there ((g1.bo a).mp hr) (v1.new a ha), fun b hb => (by have q0 : bor x = [] := nob_bor nb; rw [q0] at hb; cases hb), fun r2 σ2 s2 e2 ow bo _ => ?_⟩
        refine p F1 H1 r2 σ2 ⟨g1.toS.same, g1.fs, g1.fr, fun a ha => ?_, fun b hb => (g1.bo b).mp (bo b hb), g1.toS.there⟩ s2 e2
        rcases ow a ha with q | q
        · exact .inr (g1.ow a q)
        · exact .inl (v1.new a q)
    · exact PS.mono ps_false fun D σ H ⟨F, r, s, e, p⟩ => by unfold S.asg at p; rw [hf, R.ok_toS, if_neg hn] at p; exact p⟩
/-- a slot is given another value -/
theorem Stt.setSlot {X : Ctx} {F H : Hp} {r : AR} {σ : St} {i : Nat} {x : A} (s : Stt X F H r σ) (hfx : ∀ p ∈ X.fix, p.1 ≠ i) (hi : i < r.length) (ok : Ok X F H x) (nd : (own x).Nodup) (out : ∀ a ∈ own x, a ∉ adrR .o r) (outb : ∀ a ∈ own x, a ∉ adrR .b r) (bo : ∀ b ∈ bor x, b ∈ adrR .b r) :
    Stt X F H (r.set i (some x)) (σ.set i (some (Vl.val x))) ∧ (∀ a ∈ adrR .o (r.set i (some x)), a ∈ adrR .o r ∨ a ∈ own x) ∧ (∀ b ∈ adrR .b (r.set i (some x)), b ∈ adrR .b r) := by
  obtain ⟨o, ho⟩ : ∃ o, r[i]? = some o := ⟨r[i], List.getElem?_eq_getElem hi⟩
  have mo : ∀ a ∈ adrR .o (r.set i (some x)), a ∈ adrR .o r ∨ a ∈ own x := fun a ha => by
    rcases flat_mem (g := adrO .o) (y := some x) ho s.nd ha with q | q
    · exact .inr q
    · exact .inl q.1
  have mb : ∀ b ∈ adrR .b (r.set i (some x)), b ∈ adrR .b r := fun b hb => by
    obtain ⟨y, hy, hby⟩ := mem_adrR.mp hb
    obtain ⟨j, hj⟩ := List.mem_iff_getElem?.mp hy
    by_cases q : j = i
    · subst q
      rw [List.getElem?_set_self hi] at hj
      have e : x = y := Option.some.inj (Option.some.inj hj)
      subst e
      exact bo b hby
    · rw [List.getElem?_set_ne (Ne.symm q)] at hj
      exact mem_adrR.mpr ⟨y, List.mem_of_getElem? hj, hby⟩
  refine ⟨⟨?_, fun y hy => ?_, flat_nodup (g := adrO .o) ho s.nd nd fun a ha => .inr (out a ha), fun b hb h => ?_, s.sub, fun p hp => (by rw [List.getElem?_set_ne (fun z => hfx p hp z.symm)]; exact s.fx p hp), s.kn⟩, mo, mb⟩
  · rw [s.val]
    unfold valR
    rw [List.map_set]
    rfl
  · obtain ⟨j, hj⟩ := List.mem_iff_getElem?.mp hy
    by_cases q : j = i
    · subst q
      rw [List.getElem?_set_self hi] at hj
      have e : x = y := Option.some.inj (Option.some.inj hj)
      subst e
      exact ok
    · rw [List.getElem?_set_ne (Ne.symm q)] at hj
      exact s.ok y (List.mem_of_getElem? hj)
  · have hb' := mb b hb
    rcases mo b h with q | q
    · exact s.bd b hb' q
    · exact outb b q hb'
theorem cg_name {i : Nat} {x : Str} (hfx : ∀ p ∈ ca.fix, p.1 ≠ i) (hd : C.N.Nodup) (hN : C.N[i]? = some x := by rfl) (hl : C.env.scope.names.lookup x = some .local ∨ C.env.scope.names.lookup x = some .cell := by first | exact Or.inl rfl | exact Or.inr rfl) (hf : C.fn x = true ∨ C.env.scope.names.lookup x = some .local := by first | exact .inl rfl | exact .inr rfl) {pos : Pos} : CG ca C (.Name x pos) [i] (G.name i) := ⟨fun d ρ ρ' hg => by
  unfold G.name at hg
  split at hg
  · rename_i hi
    cases hg
    refine PG.mono (pg_name hd hN hl hf) fun v σ H Q ⟨F, r, y, s, e, ev, ex, ok, nd, out, outb, bo, k⟩ => ?_
    have hi' : i < r.length := by rw [← e] at hi; unfold erR at hi; rw [List.length_map] at hi; exact hi
    obtain ⟨s2, mo, mb⟩ := s.setSlot hfx hi' ok nd out outb bo
    rw [← ev]
    refine k _ _ s2 ?_ mo mb ⟨List.length_set, fun j hj => List.getElem?_set_ne fun z => hj (by rw [z]; exact List.mem_singleton.mpr rfl)⟩
    unfold erR
    rw [List.map_set, ← e]
    show (List.map (Option.map er) r).set i (some (er y)) = (erR r).set i (some d)
    rw [ex]; rfl
  · cases hg⟩
end
end Vl
/-! The value layer, 13: what a loop walks; for. -/
namespace Vl
open PySem PySem.Spec PyProof.Rows L2

/-- what is settled stays settled, what is lent to the slots stays as it is -/
structure GrowI (F H : Hp) (r : AR) (F' H' : Hp) : Prop where
  fs : ∀ a u, F a = some u → F' a = some u
  bs : ∀ b ∈ adrR .b r, ∀ u, H b = some u → H' b = some u
/-- J hands out the items ds, one a turn, in any later state -/
def ItOk (X : Ctx) (J : It) (F' H' : Hp) (r' : AR) (ds : List D) : Prop := ∀ i F2 H2 r2 σ2, GrowI F' H' r' F2 H2 → Stt X F2 H2 r2 σ2 →
  (∀ d, ds[i]? = some d → J.go i H2 ∧ ∀ x H3, J.yld i H2 x H3 → ∃ F3 z, Grow F2 H2 r2 F3 H3 r2 ∧ Stt X F3 H3 r2 σ2 ∧ Ok X F3 H3 z ∧ er z = d ∧ val z = x ∧ z.cold = true) ∧ (ds.length ≤ i → J.stop i H2)
def PostI (X : Ctx) (W : WX) (σ : St) (F H : Hp) (r : AR) (res : R (List D)) (Q : It → Hp → Prop) : Prop := match res with
  | .bad => False
  | .ok ds ρ' => ∀ F' H' r' J, Grow F H r F' H' r' → Stt X F' H' r' σ → erR r' = ρ' → ItOk X J F' H' r' ds → Q J H'
  | .exc C fs ρ' => ∀ F' H' r' dx, Grow F H r F' H' r' → Stt X F' H' r' σ → erR r' = ρ' → XOk X F' H' dx fs → W (.ref (X.ca C)) dx σ H'
abbrev Iv := Env → R (List D)
def rdI (X : Ctx) (W : WX) (f : Iv) (ρ : Env) : TI := fun σ H Q => ∃ F r, Stt X F H r σ ∧ erR r = ρ ∧ PostI X W σ F H r (f ρ) Q
structure CI (ca : Ca) (C : Cx) (W : WX) (tg e : Expr) (f : Iv) : Prop where
  run : ∀ ρ, PI C tg e (rdI ⟨C.K, ca.f, ca.fix, ca.cells, ca.known⟩ W f ρ)
theorem PI.mono {C : Cx} {tg e : Expr} {t t' : TI} (h : PI C tg e t) (i : ∀ σ H Q, t' σ H Q → t σ H Q) : PI C tg e t' := ⟨fun pins s σ H R I q => h.run pins s σ H R I (i σ H R q)⟩
theorem pi_false {C : Cx} {tg e : Expr} : PI C tg e (fun _ _ _ => False) := ⟨fun _ _ _ _ _ _ h => h.elim⟩
/-- what a value that is walked hands out -/
def D.its : D → Option (List D)
  | .nd .lst m _ xs => if m ≠ .b ∧ allL isC xs = true then some xs else none
  | .nd .scr .c _ xs => some xs
  | .nd .tup .c _ xs => some xs
  | .str z => some (z.cps.toList.map fun c => .str ⟨#[c]⟩)
  | _ => none
def I.of (f : Ev) : Iv := fun ρ => (f ρ).bind fun d ρ1 => match D.its d with
  | some ds => .ok ds ρ1
  | none => .bad
/-- range(n), range(a, b) -/
def rangeD (lo : Int) (n : Nat) : List D := (List.range n).map fun (i : Nat) => .int (lo + i)
def okRg (i : Int) : Bool := decide (-(2 ^ 62) ≤ i ∧ i < 2 ^ 62)
def I.range1 (f : Env → R (List D)) : Iv := fun ρ => (f ρ).bind fun ds ρ1 => match ds with
  | [.int j] => if okRg j = true then .ok (rangeD 0 j.toNat) ρ1 else .bad
  | _ => .bad
def I.range2 (f : Env → R (List D)) : Iv := fun ρ => (f ρ).bind fun ds ρ1 => match ds with
  | [.int i, .int j] => if okRg i = true ∧ okRg j = true then .ok (rangeD i (j - i).toNat) ρ1 else .bad
  | _ => .bad
def forL (g : Gv) (body : Sv) : List D → Env → SR
  | [], ρ => .nx ρ
  | d :: ds, ρ => match g d ρ with
    | none => .bad
    | some ρ1 => match body ρ1 with
      | .nx ρ2 => forL g body ds ρ2
      | .ct ρ2 => forL g body ds ρ2
      | .bk ρ2 => .nx ρ2
      | y => y
def S.for_ (f : Iv) (g : Gv) (body : Sv) : Sv := fun ρ => (f ρ).toS fun ds ρ1 => forL g body ds ρ1
section
variable {X : Ctx} {F F' H H' : Hp} {r r' : AR} {σ : St} {W : WX}
theorem Grow.same_ (s : Stt X F H r σ) : Grow F H r F H r := .refl
theorem ItOk.of_static {J : It} {ds : List D} (zs : List A) (hz : zs.map er = ds) (hc : ∀ z ∈ zs, z.cold = true) (hok : ∀ z ∈ zs, Ok X F' H' z)
    (hgo : ∀ i F2 H2 r2 σ2, GrowI F' H' r' F2 H2 → Stt X F2 H2 r2 σ2 → (∀ z, zs[i]? = some z → J.go i H2 ∧ ∀ x H3, J.yld i H2 x H3 → H3 = H2 ∧ val z = x) ∧ (zs.length ≤ i → J.stop i H2)) : ItOk X J F' H' r' ds := by
  intro i F2 H2 r2 σ2 g s
  obtain ⟨h1, h2⟩ := hgo i F2 H2 r2 σ2 g s
  refine ⟨fun d hd => ?_, fun h => h2 (by rw [← hz, List.length_map] at h; exact h)⟩
  rw [← hz, List.getElem?_map] at hd
  cases e : zs[i]? with
  | none => rw [e] at hd; cases hd
  | some z =>
    rw [e] at hd
    obtain ⟨a, b⟩ := h1 z e
    refine ⟨a, fun x H3 y => ?_⟩
    obtain ⟨rfl, ev⟩ := b x H3 y
    have hm := List.mem_of_getElem? e
    have c := hc z hm
    have ok2 : Ok X F2 H3 z := cold_move (hok z hm) c g.fs
    exact ⟨F2, z, .refl, s, ok2, Option.some.inj hd, ev, c⟩
where
  cold_move {X : Ctx} {F H F' H' : Hp} {z : A} (ok : Ok X F H z) (c : z.cold = true) (fs : ∀ a u, F a = some u → F' a = some u) : Ok X F' H' z :=
    Ok.stay ok (T.all_imp (fun m hm => by cases m <;> first | rfl | exact absurd hm Bool.false_ne_true) c) fs fun a ha => by rw [cold_own c] at ha; cases ha
end
section
variable {ca : Ca} {C : Cx} {W : WX} {e a b tg : Expr} {es body : List Stmt} {f : Ev} {fi : Iv} {fa : Env → R (List D)} {g : Gv} {u : Sv} {pos : Pos} {ρ : Env}
theorem ci_of (h : CE ca C W e f) : CI ca C W tg e (I.of f) := ⟨fun ρ => by
  cases hf : f ρ with
  | bad => exact PI.mono pi_false fun σ H Q ⟨F, r, s, e, p⟩ => by unfold I.of at p; rw [hf] at p; exact p
  | exc c fs ρ1 => exact PI.mono (pi_list (h.run ρ)) fun σ H Q ⟨F, r, s, e, p⟩ => ⟨F, r, s, e, by unfold I.of at p; rw [hf] at p ⊢; exact p⟩
  | ok d ρ1 =>
    cases hi : D.its d with
    | none => exact PI.mono pi_false fun σ H Q ⟨F, r, s, e, p⟩ => by unfold I.of at p; rw [hf, R.ok_bind, hi] at p; exact p
    | some ds =>
      unfold D.its at hi
      split at hi
      · -- a list
        rename_i m u0 xs0
        split at hi
        · rename_i hz
          cases hi
          refine PI.mono (pi_list (h.run ρ)) fun σ H Q ⟨F, r, s, e, p⟩ => ⟨F, r, s, e, ?_⟩
          unfold I.of at p; rw [hf, R.ok_bind, show D.its (.nd .lst m u0 ds) = some ds from if_pos hz] at p
          rw [hf]
          intro F1 H1 r1 x g1 s1 e1 ok1 ex1 v1
          obtain ⟨ad, xs, rfl, exs⟩ := er_nd ex1
          subst exs
          have c := er_cold hz.2
          have call : ∀ z ∈ xs, z.cold = true := fun z hz => by rw [allL_eq, List.all_eq_true] at c; exact c z hz
          refine ⟨ad.1, rfl, ⟨_, SqL.of (ok1.at_ s1.sub)⟩, ?_⟩
          -- the list is settled ahead of the walk
          have noB : (T.nd .lst m ad xs : A).nob = true := by
            rw [T.nob, T.all, Bool.and_eq_true]
            exact ⟨by cases m <;> first | rfl | exact absurd rfl hz.1, allC_notB c⟩
          have hown : ∀ q ∈ own (T.nd .lst m ad xs), q ∉ adrR .o r1 := fun q hq hr => (s.own_there (g1.ow q hr)).1 (v1.new q hq)
          have ff : ∀ q w, F1 q = some w → frz F1 H1 (own (T.nd .lst m ad xs)) q = some w := fun q w hw => by
            rw [frz_out (fun hq => by rw [(ok1.own_there q hq).2] at hw; cases hw)]; exact hw
          have sb : Sub (frz F1 H1 (own (T.nd .lst m ad xs))) H1 := fun q w hw => by
            by_cases hq : q ∈ own (T.nd .lst m ad xs)
            · rw [frz_in hq] at hw; exact .inl hw
            · rw [frz_out hq] at hw; exact s1.sub q w hw
          have fr : ∀ q, F1 q = none → frz F1 H1 (own (T.nd .lst m ad xs)) q ≠ none → H1 q = none ∨ q ∉ adrR .o r1 := fun q h1 h2 => by
            by_cases hq : q ∈ own (T.nd .lst m ad xs)
            · exact .inr (hown q hq)
            · rw [frz_out hq] at h2; exact absurd h1 h2
          have s2 := s1.grow0 (fun _ _ h => h) ff fr sb
          have okz : Ok (cx ca C) (frz F1 H1 (own (T.nd .lst m ad xs))) H1 (T.nd .lst m ad xs).fz := ok1.fz noB ff fun q hq => frz_in hq
          have g2 : Grow F H r (frz F1 H1 (own (T.nd .lst m ad xs))) H1 r1 := ⟨g1.same, fun q w hw => ff q w (g1.fs q w hw), fun q h1 h2 => (by
            cases e : F1 q with
            | some w => exact g1.fr q h1 (by rw [e]; exact fun z => by cases z)
            | none =>
              by_cases hq : q ∈ own (T.nd .lst m ad xs)
              · exact .inl (v1.new q hq)
              · rw [frz_out hq, e] at h2; exact absurd rfl h2), g1.ow, g1.bo, g1.un⟩
          have hlst : ∀ F2 H2 r2 σ2, GrowI (frz F1 H1 (own (T.nd .lst m ad xs))) H1 r1 F2 H2 → Stt (cx ca C) F2 H2 r2 σ2 → SqL C.K H2 ad.1 (xs.map val) := fun F2 H2 r2 σ2 gg ss => by
            have a0 := okz.1.2.1
            have a1 : At C.K ca F2 .lst ad ((mkL calm xs).map val) := a0.same gg.fs
            rw [valL_mk] at a1
            exact SqL.of (ss.sub.at_ a1)
          refine p _ H1 r1 _ g2 s2 e1 (ItOk.of_static xs (by rw [mapL_eq]) call (fun z hz => ?_) fun i F2 H2 r2 σ2 gg ss => ?_)
          · have := OkL_iff.mp okz.2 z (by rw [mkL_cold rfl c]; exact hz)
            exact this
          · have hq := hlst F2 H2 r2 σ2 gg ss
            refine ⟨fun z hz => ⟨⟨xs.map val, val z, hq, by rw [List.getElem?_map, hz]; rfl⟩, fun x H3 y => ⟨y.1, ?_⟩⟩, fun hl => ⟨xs.map val, hq, by rw [List.length_map]; exact hl⟩⟩
            have := y.2 _ hq
            rw [List.getElem?_map, hz] at this
            exact Option.some.inj this
        · cases hi
      · -- the script, a written list
        rename_i u0 xs0
        cases hi
        refine PI.mono (pi_list (h.run ρ)) fun σ H Q ⟨F, r, s, e, p⟩ => ⟨F, r, s, e, ?_⟩
        unfold I.of at p; rw [hf, R.ok_bind, show D.its (.nd .scr .c u0 ds) = some ds from rfl] at p
        rw [hf]
        intro F1 H1 r1 x g1 s1 e1 ok1 ex1 v1
        obtain ⟨ad, xs, rfl, exs⟩ := er_nd ex1
        subst exs
        have c := ok1.1.2.2
        have call : ∀ z ∈ xs, z.cold = true := fun z hz => by rw [allL_eq, List.all_eq_true] at c; exact c z hz
        refine ⟨ad.1, rfl, ⟨_, ok1.at_ s1.sub⟩, ?_⟩
        have hlst : ∀ F2 H2 r2 σ2, GrowI F1 H1 r1 F2 H2 → Stt (cx ca C) F2 H2 r2 σ2 → SqL C.K H2 ad.1 (xs.map val) := fun F2 H2 r2 σ2 gg ss => by
          have a1 : At C.K ca F2 .scr ad (xs.map val) := At.same ok1.1.2.1 gg.fs
          exact ss.sub.at_ a1
        refine p _ H1 r1 _ g1 s1 e1 (ItOk.of_static xs (by rw [mapL_eq]) call (fun z hz => OkL_iff.mp ok1.2 z hz) fun i F2 H2 r2 σ2 gg ss => ?_)
        have hq := hlst F2 H2 r2 σ2 gg ss
        refine ⟨fun z hz => ⟨⟨xs.map val, val z, hq, by rw [List.getElem?_map, hz]; rfl⟩, fun x H3 y => ⟨y.1, ?_⟩⟩, fun hl => ⟨xs.map val, hq, by rw [List.length_map]; exact hl⟩⟩
        have := y.2 _ hq
        rw [List.getElem?_map, hz] at this
        exact Option.some.inj this
      · -- a tuple
        rename_i u0 xs0
        cases hi
        refine PI.mono (pi_tup (h.run ρ)) fun σ H Q ⟨F, r, s, e, p⟩ => ⟨F, r, s, e, ?_⟩
        unfold I.of at p; rw [hf, R.ok_bind, show D.its (.nd .tup .c u0 ds) = some ds from rfl] at p
        rw [hf]
        intro F1 H1 r1 x g1 s1 e1 ok1 ex1 v1
        obtain ⟨ad, xs, rfl, exs⟩ := er_nd ex1
        subst exs
        have c := ok1.1.2.2
        have call : ∀ z ∈ xs, z.cold = true := fun z hz => by rw [allL_eq, List.all_eq_true] at c; exact c z hz
        refine ⟨ad.1, rfl, ⟨_, ok1.at_ s1.sub⟩, ?_⟩
        have hlst : ∀ F2 H2 r2 σ2, GrowI F1 H1 r1 F2 H2 → Stt (cx ca C) F2 H2 r2 σ2 → SqT C.K H2 ad.1 (xs.map val) := fun F2 H2 r2 σ2 gg ss => by
          have a1 : At C.K ca F2 .tup ad (xs.map val) := At.same ok1.1.2.1 gg.fs
          exact ss.sub.at_ a1
        refine p _ H1 r1 _ g1 s1 e1 (ItOk.of_static xs (by rw [mapL_eq]) call (fun z hz => OkL_iff.mp ok1.2 z hz) fun i F2 H2 r2 σ2 gg ss => ?_)
        have hq := hlst F2 H2 r2 σ2 gg ss
        refine ⟨fun z hz => ⟨⟨xs.map val, val z, hq, by rw [List.getElem?_map, hz]; rfl⟩, fun x H3 y => ⟨y.1, ?_⟩⟩, fun hl => ⟨xs.map val, hq, by rw [List.length_map]; exact hl⟩⟩
        have := y.2 _ hq
        rw [List.getElem?_map, hz] at this
        exact Option.some.inj this
      · -- a text
        rename_i z
        cases hi
        refine PI.mono (pi_str (h.run ρ)) fun σ H Q ⟨F, r, s, e, p⟩ => ⟨F, r, s, e, ?_⟩
        unfold I.of at p; rw [hf, R.ok_bind, show D.its (.str z) = some (z.cps.toList.map fun c => .str ⟨#[c]⟩) from rfl] at p
        rw [hf]
        intro F1 H1 r1 x g1 s1 e1 ok1 ex1 v1
        refine ⟨z, by rw [er_str ex1]; rfl, ?_⟩
        refine p F1 H1 r1 _ g1 s1 e1 (ItOk.of_static (z.cps.toList.map fun c => (.str ⟨#[c]⟩ : A)) (by rw [List.map_map]; rfl) (fun w hw => ?_) (fun w hw => ?_) fun i F2 H2 r2 σ2 gg ss => ?_)
        · obtain ⟨c, _, rfl⟩ := List.mem_map.mp hw; rfl
        · obtain ⟨c, _, rfl⟩ := List.mem_map.mp hw; trivial
        · refine ⟨fun w hw => ?_, fun hl => by rw [List.length_map, Array.length_toList] at hl; exact hl⟩
          rw [List.getElem?_map, Array.getElem?_toList] at hw
          cases hc : z.cps[i]? with
          | none => rw [hc] at hw; cases hw
          | some c =>
            rw [hc] at hw
            have hw : (.str ⟨#[c]⟩ : A) = w := Option.some.inj hw
            subst hw
            refine ⟨(Array.getElem?_eq_some_iff.mp hc).1, fun x H3 y => ⟨y.1, ?_⟩⟩
            obtain ⟨c', hc', rfl⟩ := y.2
            rw [hc] at hc'
            cases hc'
            rfl
      · cases hi⟩
/-- a place that is walked: a lent list is read as it is -/
def I.ofp (p : Pv) (f : Ev) : Iv := fun ρ => match p ρ with
  | .ok q ρ1 => match getR ρ1 q.1 q.2 with
    | some (.nd .lst .b _ xs) => if allL isC xs = true then .ok xs ρ1 else .bad
    | _ => I.of f ρ
  | _ => I.of f ρ
theorem ci_ofp {pv : Pv} (h : CP ca C W e pv) (h' : CE ca C W e f) : CI ca C W tg e (I.ofp pv f) := ⟨fun ρ => by
  have base := (ci_of (tg := tg) h').run ρ
  unfold rdI I.ofp at *
  cases hp : pv ρ with
  | bad => exact base
  | exc c fs ρ1 => exact base
  | ok q ρ1 =>
    dsimp only
    split
    · rename_i u xs0 hg
      split
      · rename_i hz
        refine PI.mono (pi_list (h.run ρ)) fun σ H Q ⟨F, r, s, e, p⟩ => ⟨F, r, s, e, ?_⟩
        rw [hp]
        intro F1 H1 r1 x0 x g1 s1 e1 hi hx
        have hg2 : getR ρ1 q.1 q.2 = some (er x) := by
          rw [← e1]
          unfold getR
          rw [erR_get, hi]
          show getT (er x0) q.2 = _
          rw [getT_map, hx]; rfl
        rw [hg] at hg2
        obtain ⟨ad, xs, rfl, exs⟩ := er_nd (Option.some.inj hg2).symm
        subst exs
        have okx := (s1.slotOk hi).get hx
        have c := er_cold hz
        have call : ∀ z ∈ xs, z.cold = true := fun z hz => by rw [allL_eq, List.all_eq_true] at c; exact c z hz
        have hb : ad.1 ∈ adrR .b r1 := mem_adrR.mpr ⟨x0, slot_mem hi, adr_get hx _ (List.mem_append_left _ (by rw [if_pos rfl]; exact ndA_fst))⟩
        have h0 : H1 ad.1 = some (.lst (xs.map val)) := okx.1.2.1
        refine ⟨ad.1, rfl, ⟨_, SqL.of h0⟩, ?_⟩
        refine p F1 H1 r1 _ g1 s1 e1 (ItOk.of_static xs (by rw [mapL_eq]) call (fun z hz => OkL_iff.mp okx.2 z hz) fun i F2 H2 r2 σ2 gg ss => ?_)
        have hq : SqL C.K H2 ad.1 (xs.map val) := SqL.of (gg.bs _ hb _ h0)
        refine ⟨fun z hz => ⟨⟨xs.map val, val z, hq, by rw [List.getElem?_map, hz]; rfl⟩, fun x H3 y => ⟨y.1, ?_⟩⟩, fun hl => ⟨xs.map val, hq, by rw [List.length_map]; exact hl⟩⟩
        have := y.2 _ hq
        rw [List.getElem?_map, hz] at this
        exact Option.some.inj this
      · exact PI.mono pi_false fun σ H Q ⟨F, r, s, e, p⟩ => p
    · exact base⟩
theorem itOk_range {X : Ctx} {F' H' : Hp} {r' : AR} (lo : Int) (n : Nat) : ItOk X (Itr lo n) F' H' r' (rangeD lo n) := by
  refine ItOk.of_static ((List.range n).map fun (i : Nat) => (.int (lo + i) : A)) (by rw [List.map_map]; rfl) (fun w hw => ?_) (fun w hw => ?_) fun i F2 H2 r2 σ2 gg ss => ?_
  · obtain ⟨c, _, rfl⟩ := List.mem_map.mp hw; rfl
  · obtain ⟨c, _, rfl⟩ := List.mem_map.mp hw; trivial
  · refine ⟨fun w hw => ?_, fun hl => by rw [List.length_map, List.length_range] at hl; exact hl⟩
    rw [List.getElem?_map] at hw
    cases hc : (List.range n)[i]? with
    | none => rw [hc] at hw; cases hw
    | some c =>
      rw [hc] at hw
      have hi : i < n := by have := (List.getElem?_eq_some_iff.mp hc).1; rw [List.length_range] at this; exact this
      rw [List.getElem?_range hi] at hc
      cases hc
      cases hw
      exact ⟨hi, fun x H3 y => ⟨y.1, y.2.symm⟩⟩
theorem ci_range1 {p : Pos} {e : Expr} (hg : Gl C "range") (hm : C.mg "range" = none) (ha : CA ca C W [e] fa) (hs : starEach [e] C.env = (false, eval e C.env) :: starEach [] C.env := by rfl) : CI ca C W tg (.Call (.Name "range" p) [e] [] pos) (I.range1 fa) := ⟨fun ρ => by
  refine PI.mono (pi_range1 hg hm (ha.run ρ) hs) fun σ H Q ⟨F, r, s, e, p⟩ => ⟨F, r, s, e, ?_⟩
  unfold I.range1 at p
  cases hf : fa ρ with
  | bad => rw [hf] at p; exact p
  | exc c fs ρ1 => rw [hf] at p; exact p
  | ok ds ρ1 =>
    rw [hf, R.ok_bind] at p
    intro F1 H1 r1 xs g1 s1 e1 ok1 ex1 nd1 new1 bo1
    split at p
    · rename_i j
      split at p
      · rename_i hz
        obtain ⟨x, rfl, ex⟩ := one_of ex1
        have hz := of_decide_eq_true (show decide (_ ∧ _) = true from hz)
        exact ⟨j, by rw [er_int ex]; rfl, hz.1, hz.2, p F1 H1 r1 _ g1 s1 e1 (itOk_range 0 _)⟩
      · exact p.elim
    · exact p.elim⟩
theorem ci_range2 {p : Pos} {e e2 : Expr} (hg : Gl C "range") (hm : C.mg "range" = none) (ha : CA ca C W [e, e2] fa) (hs : starEach [e, e2] C.env = [(false, eval e C.env), (false, eval e2 C.env)] := by rfl) (hs2 : starEach [e2] C.env = [(false, eval e2 C.env)] := by rfl) :
    CI ca C W tg (.Call (.Name "range" p) [e, e2] [] pos) (I.range2 fa) := ⟨fun ρ => by
  refine PI.mono (pi_range2 hg hm (ha.run ρ) hs hs2) fun σ H Q ⟨F, r, s, e, p⟩ => ⟨F, r, s, e, ?_⟩
  unfold I.range2 at p
  cases hf : fa ρ with
  | bad => rw [hf] at p; exact p
  | exc c fs ρ1 => rw [hf] at p; exact p
  | ok ds ρ1 =>
    rw [hf, R.ok_bind] at p
    intro F1 H1 r1 xs g1 s1 e1 ok1 ex1 nd1 new1 bo1
    split at p
    · rename_i i j
      split at p
      · rename_i hz
        obtain ⟨x, y, rfl, ex, ey⟩ := two_of ex1
        have h1 := of_decide_eq_true (show decide (_ ∧ _) = true from hz.1)
        have h2 := of_decide_eq_true (show decide (_ ∧ _) = true from hz.2)
        exact ⟨i, j, by rw [er_int ex, er_int ey]; rfl, ⟨h1.1, h1.2, h2.1, h2.2⟩, p F1 H1 r1 _ g1 s1 e1 (itOk_range i _)⟩
      · exact p.elim
    · exact p.elim⟩
/-- the loop -/
theorem cs_for {ss : List Nat} (hp : PassesOwn (model C.prog C.w) C.A C.env C.xe) (hc : C.calm = true) (hi : CI ca C W tg e fi) (hg : CG ca C tg ss g) (hb : CSs ca C W body u) (hs : ∀ x, foldedSetIterable e C.env x = pure x := by intro _; rfl) : CS ca C W (.For tg e body [] pos) (S.for_ fi g u) := ⟨fun ρ => by
  cases hf : fi ρ with
  | bad => exact PS.mono ps_false fun D σ H ⟨F, r, s, e, p⟩ => by unfold S.for_ at p; rw [hf] at p; exact p
  | exc c fs ρ1 =>
    refine PS.mono (ps_for hp hc (hi.run ρ) pg_false pss_false hs) fun D σ H ⟨F, r, s, e, p⟩ => ⟨F, r, s, e, ?_⟩
    unfold S.for_ at p; rw [hf] at p ⊢
    exact fun F' H' r' dx g s e x => p F' H' r' σ dx g.toS s e x
  | ok ds ρ1 =>
    -- the turns' readings: any state in which the rest of the items is walked
    have hgT : PG C tg (fun v σ H Q => ∃ d ρ ρ', g d ρ = some ρ' ∧ rdG (cx ca C) ss d ρ ρ' v σ H Q) := ⟨fun pins s σ H x w Q I r ⟨d, ρ, ρ', hgd, q⟩ => (hg.run d ρ ρ' hgd).run pins s σ H x w Q I r q⟩
    have hbT : PSs C body (fun D σ H => ∃ ρ, rdS (cx ca C) W u ρ D σ H) := ⟨fun pins s σ H D I ⟨ρ, q⟩ => (hb.run ρ).run pins s σ H D I q⟩
    refine PS.mono (ps_for hp hc (hi.run ρ) hgT hbT hs) fun D σ H ⟨F, r, s, e, p⟩ => ⟨F, r, s, e, ?_⟩
    unfold S.for_ at p; rw [hf, R.ok_toS] at p
    rw [hf]
    intro F1 H1 r1 J g1 s1 e1 it
    refine ⟨fun i m σ2 H2 => m = ds.length - i ∧ i ≤ ds.length ∧ ∃ F2 r2, Stt (cx ca C) F2 H2 r2 σ2 ∧ GrowS F1 H1 r1 F2 H2 r2 ∧ PostS (cx ca C) W F2 H2 r2 (forL g u (ds.drop i) (erR r2)) D, ⟨ds.length, by simp, Nat.zero_le _, F1, r1, s1, .refl, ?_⟩, ?_⟩
    · rw [List.drop_zero, e1]; exact PostS.back g1.toS p
    · rintro i m σ2 H2 ⟨rfl, hi2, F2, r2, s2, gs, q⟩
      obtain ⟨h1, h2⟩ := it i F2 H2 r2 σ2 ⟨gs.fs, fun b hb u hu => gs.same b u (s1.bd b hb) hu⟩ s2
      by_cases hlt : i < ds.length
      · have hd : ds[i]? = some ds[i] := List.getElem?_eq_getElem hlt
        obtain ⟨go, yl⟩ := h1 _ hd
        have hdrop : ds.drop i = ds[i] :: ds.drop (i + 1) := List.drop_eq_getElem_cons hlt
        rw [hdrop] at q
        refine .inr ⟨go, fun σ' H' => (i + 1 ≤ ds.length ∧ ∃ F3 r3, Stt (cx ca C) F3 H' r3 σ' ∧ GrowS F1 H1 r1 F3 H' r3 ∧ PostS (cx ca C) W F3 H' r3 (forL g u (ds.drop (i + 1)) (erR r3)) D), fun σ' H' hN => ⟨ds.length - (i + 1), by omega, rfl, hN.1, hN.2⟩, fun x H3 y => ?_⟩
        obtain ⟨F3, z, g3, s3, okz, ez, evz, cz⟩ := yl x H3 y
        have gs3 := gs.trans g3.toS
        have q := PostS.back g3.toS q
        unfold forL at q
        cases hgz : g ds[i] (erR r2) with
        | none => rw [hgz] at q; exact q.elim
        | some ρ2 =>
          rw [hgz] at q
          refine ⟨ds[i], erR r2, ρ2, hgz, F3, r2, z, s3, rfl, evz, ez, okz, by rw [cold_own cz]; exact List.nodup_nil, by rw [cold_own cz]; exact fun _ h => (by cases h), by rw [cold_own cz]; exact fun _ h => (by cases h), by rw [cold_bor cz]; exact fun _ h => (by cases h), fun r4 σ4 s4 e4 ow4 bo4 _ => ?_⟩
          have g4 : GrowS F3 H3 r2 F3 H3 r4 := ⟨fun _ _ _ h => h, fun _ _ h => h, fun _ h h' => absurd h h', fun a ha => .inr ((ow4 a ha).elim id fun h => by rw [cold_own cz] at h; cases h), bo4, fun _ h => h⟩
          have gs4 := gs3.trans g4
          have q := PostS.back g4 q
          refine ⟨ρ2, F3, r4, s4, e4, ?_⟩
          dsimp only at q
          cases hu : u ρ2 with
          | bad => rw [hu] at q; exact q.elim
          | nx ρ5 =>
            rw [hu] at q
            exact fun F5 H5 r5 σ5 g5 s5 e5 => ⟨hlt, F5, r5, s5, gs4.trans g5, by rw [e5]; exact PostS.back g5 q⟩
          | ct ρ5 =>
            rw [hu] at q
            exact fun F5 H5 r5 σ5 g5 s5 e5 => ⟨hlt, F5, r5, s5, gs4.trans g5, by rw [e5]; exact PostS.back g5 q⟩
          | bk ρ5 => rw [hu] at q; exact q
          | ret d ρ5 => rw [hu] at q; exact q
          | exc c fs ρ5 => rw [hu] at q; exact q
      · have e5 : i = ds.length := by omega
        subst e5
        rw [List.drop_length] at q
        exact .inl ⟨h2 (Nat.le_refl _), q F2 H2 r2 σ2 .refl s2 rfl⟩⟩
end
end Vl
/-! The value layer, 14: what changes an owned object: append, extend, pop, stores by place, key, field. -/
namespace Vl
open PySem PySem.Spec PyProof.Rows L2

section
variable {X : Ctx} {F F' H H0 F0 : Hp} {r r0 : AR} {σ : St} {i : Nat} {p : List Nat} {x0 : A} {k k' : Kd} {a : AA} {xs ys : List A}
/-- an owned node's content is another one: its kids are old ones, or settled -/
theorem Stt.put (s0 : Stt X F0 H0 r0 σ) (g : Grow F0 H0 r0 F H r) (s : Stt X F H r σ) (hi : r[i]? = some (some x0)) (hx : getT x0 p = some (.nd k .o a xs)) (hnd : ndA k' a = ndA k a) (hshp : shp k' ys.length) (hins : ∀ C fs, k' = .ins C fs → H a.2 = some (.own a.1) ∧ a.2 ≠ a.1)
    (ff : ∀ q u, F q = some u → F' q = some u) (fo : ∀ q ∈ adrR .o r, F' q = none) (fr : ∀ q, F q = none → F' q ≠ none → H0 q = none) (sub : Sub F' H) (hys : ∀ y ∈ ys, y ∈ xs ∨ (Ok X F' H y ∧ y.nob = true ∧ ∀ q ∈ own y, H0 q = none ∧ q ∉ adrR .o r ∧ q ∉ adrR .b r ∧ F' q = none)) (hn : (adrL .o ys).Nodup) (hex : ∀ C fs, k' ≠ .exn C fs := by intro _ _ z; cases z) :
    Stt X F' (upd H a.1 (cont X.ca k' a (ys.map Vl.val))) (modS (fun _ => .nd k' .o a ys) r i p) σ ∧ GrowS F0 H0 r0 F' (upd H a.1 (cont X.ca k' a (ys.map Vl.val))) (modS (fun _ => .nd k' .o a ys) r i p) := by
  have okx := (s.slotOk hi).get hx
  have ndx : (own (T.nd k .o a xs)).Nodup := by
    have nd0 := s.slotNd hi
    have key : ∀ {p : List Nat} {t x : A}, (own t).Nodup → getT t p = some x → (own x).Nodup := by
      intro p
      induction p with
      | nil => intro t x h e; rw [getT_nil] at e; cases e; exact h
      | cons j p ih =>
        intro t x h e
        obtain ⟨k, m, b, zs, y, rfl, hy, hx⟩ := getT_cons e
        exact ih (nodup_of_mem (nodup_kids h) (List.mem_of_getElem? hy)) hx
    exact key nd0 hx
  have ndx' : (ndA k a ++ adrL .o xs).Nodup := by
    have h : ((if Mk.o = .o then ndA k a else []) ++ adrL .o xs).Nodup := ndx
    rw [if_pos rfl] at h; exact h
  have hin : ∀ q ∈ own (T.nd k .o a xs), q ∈ adrR .o r := fun q hq => Stt.own_sub hi q (adr_get hx q hq)
  have own_node : ∀ q, q ∈ ndA k a ∨ q ∈ adrL .o xs → q ∈ own (T.nd k .o a xs) := fun q hq => by
    show q ∈ (if Mk.o = .o then ndA k a else []) ++ adrL .o xs
    rw [if_pos rfl]; exact List.mem_append.mpr hq
  have hko : ∀ q ∈ adrL .o ys, q ∈ adrL .o xs ∨ (H0 q = none ∧ q ∉ adrR .o r ∧ q ∉ adrR .b r ∧ F' q = none) := fun q hq => by
    rw [adrL_eq] at hq
    obtain ⟨y, hy, hqy⟩ := List.mem_flatMap.mp hq
    rcases hys y hy with h | h
    · exact .inl (adrL_mem h hqy)
    · exact .inr (h.2.2 q hqy)
  have hnew : ∀ q ∈ own (T.nd k' .o a ys), q ∈ own (T.nd k .o a xs) ∨ (H0 q = none ∧ q ∉ adrR .o r ∧ q ∉ adrR .b r ∧ F' q = none) := fun q hq => by
    have hq : q ∈ (if Mk.o = .o then ndA k' a else []) ++ adrL .o ys := hq
    rw [if_pos rfl, hnd] at hq
    rcases List.mem_append.mp hq with h | h
    · exact .inl (own_node q (.inl h))
    · exact (hko q h).imp (fun w => own_node q (.inr w)) id
  have a1in : a.1 ∈ own (T.nd k .o a xs) := own_node _ (.inl ndA_fst)
  have hFa : ∀ q ∈ ndA k a, F' q = none := fun q hq => fo q (hin q (own_node q (.inl hq)))
  have nbx := okx.1.2.2.2
  rw [allL_eq, List.all_eq_true] at nbx
  have nby : allL notB ys = true := by
    rw [allL_eq, List.all_eq_true]
    intro y hy
    rcases hys y hy with h | h
    · exact nbx y h
    · exact h.2.1
  have hkid : ∀ q ∈ adrL .o xs, q ∉ ndA k a := fun q hq h => (List.nodup_append.mp ndx').2.2 q h q hq rfl
  have oky : ∀ y ∈ ys, Ok X F' (upd H a.1 (cont X.ca k' a (ys.map Vl.val))) y := fun y hy => by
    rcases hys y hy with h | h
    · refine Ok.stay (OkL_iff.mp okx.2 y h) (nbx y h) ff fun q hq => ⟨?_, fo q (hin q (own_node q (.inr (adrL_mem h hq))))⟩
      rw [upd_ne (fun e => hkid q (adrL_mem h hq) (by rw [e]; exact ndA_fst))]
    · exact Ok.stay h.1 h.2.1 (fun _ _ h => h) fun q hq => ⟨upd_ne (fun e => (h.2.2 q hq).2.1 (by rw [e]; exact hin _ a1in)), (h.2.2 q hq).2.2.2⟩
  have okn : Ok X F' (upd H a.1 (cont X.ca k' a (ys.map Vl.val))) (.nd k' .o a ys) := by
    refine ⟨⟨hshp, ⟨upd_same, ?_⟩, fun q hq => hFa q (by rw [← hnd]; exact hq), nby⟩, OkL_iff.mpr oky⟩
    cases k' with
    | ins C fs =>
      obtain ⟨h1, h2⟩ := hins C fs rfl
      show upd H a.1 _ a.2 = some (.own a.1)
      rw [upd_ne h2]; exact h1
    | exn C fs => exact absurd rfl (hex C fs)
    | _ => trivial
  have sub' : Sub F' (upd H a.1 (cont X.ca k' a (ys.map Vl.val))) := fun q u hq => by
    rw [upd_ne (fun e => by rw [e, hFa a.1 ndA_fst] at hq; cases hq)]
    exact sub q u hq
  have e := modS_at (f := fun _ => T.nd k' .o a ys) (p := p) hi
  have s' := s.mod (f := fun _ => T.nd k' .o a ys) hi hx rfl rfl okn (by rw [T.nob, T.all, Bool.and_eq_true]; exact ⟨rfl, nby⟩)
    (by
      show ((if Mk.o = .o then ndA k' a else []) ++ adrL .o ys).Nodup
      rw [if_pos rfl, hnd]
      refine List.nodup_append.mpr ⟨(List.nodup_append.mp ndx').1, hn, fun q hq q2 hq2 e => ?_⟩
      rcases hko q2 hq2 with w | w
      · exact (List.nodup_append.mp ndx').2.2 q hq q2 w e
      · exact w.2.1 (by rw [← e]; exact hin q (own_node q (.inl hq))))
    (fun q hq => (hnew q hq).imp id fun w => w.2.1) (fun b hb => .inl fun h => (hnew b h).elim (fun w => s.bd b hb (hin b w)) fun w => w.2.2.1 hb) ff
    (fun q u hq h => by rw [upd_ne (fun e => hq (by rw [e]; exact a1in))]; exact h) (fun q hq _ => fo q hq) sub'
  refine ⟨s', ⟨fun q u hq h => ?_, fun q u h => ff q u (g.fs q u h), fun q h h' => ?_, fun q hq => ?_, fun b hb => ?_, fun q h => ?_⟩⟩
  · rw [upd_ne (fun e => hq (by rw [e]; exact g.ow _ (hin _ a1in)))]
    exact g.same q u h
  · cases e2 : F q with
    | some u => exact g.fr q h (by rw [e2]; exact fun z => by cases z)
    | none => exact .inl (fr q e2 h')
  · rw [e] at hq
    have hq : q ∈ (r.set i (some (x0.mod (fun _ => T.nd k' .o a ys) p))).flatMap (adrO .o) := hq
    rcases flat_mem (x := some x0) hi s.nd hq with w | w
    · rcases adr_mod hx (s.slotNd hi) (fun _ _ _ _ => .inr trivial) q w with v | v
      · rcases hnew q v with u | u
        · exact .inr (g.ow q (hin q u))
        · exact .inl u.1
      · exact .inr (g.ow q (Stt.own_sub hi q v.1))
    · exact .inr (g.ow q w.1)
  · refine (g.bo b).mp ?_
    rw [e] at hb
    obtain ⟨y, hy, hby⟩ := mem_adrR.mp hb
    obtain ⟨j, hj⟩ := List.mem_iff_getElem?.mp hy
    by_cases q : j = i
    · subst q
      rw [List.getElem?_set_self (by exact (List.getElem?_eq_some_iff.mp hi).1)] at hj
      have e3 : x0.mod (fun _ => T.nd k' .o a ys) p = y := Option.some.inj (Option.some.inj hj)
      rw [← e3] at hby
      have nb3 : (x0.mod (fun _ => T.nd k' .o a ys) p).nob = true := mod_nob (root_nob (s.slotOk hi) hx rfl) hx (by rw [T.nob, T.all, Bool.and_eq_true]; exact ⟨rfl, nby⟩)
      have q0 : adr .b (x0.mod (fun _ => T.nd k' .o a ys) p) = [] := nob_bor nb3
      rw [q0] at hby; cases hby
    · rw [List.getElem?_set_ne (Ne.symm q)] at hj
      exact mem_adrR.mpr ⟨y, List.mem_of_getElem? hj, hby⟩
  · by_cases e2 : q = a.1
    · rw [e2, upd_same]; exact fun z => by cases z
    · rw [upd_ne e2]
      cases e3 : H0 q with
      | none => exact absurd e3 h
      | some u => rw [g.same q u e3]; exact fun z => by cases z
/-- a fresh value is settled beside a state -/
theorem settle_new {x : A} (s0 : Stt X F0 H0 r0 σ) (g : Grow F0 H0 r0 F H r) (s : Stt X F H r σ) (ok : Ok X F H x) (v : VOk H0 r0 x) (nb : x.nob = true) :
    (∀ q u, F q = some u → frz F H (own x) q = some u) ∧ (∀ q ∈ adrR .o r, frz F H (own x) q = none) ∧ (∀ q, F q = none → frz F H (own x) q ≠ none → H0 q = none) ∧ Sub (frz F H (own x)) H ∧ Ok X (frz F H (own x)) H x.fz := by
  have ff : ∀ q u, F q = some u → frz F H (own x) q = some u := fun q u h => by
    rw [frz_out (fun hq => by rw [(ok.own_there q hq).2] at h; cases h)]; exact h
  refine ⟨ff, fun q hq => ?_, fun q h h' => ?_, fun q u h => ?_, ok.fz nb ff fun q hq => frz_in hq⟩
  · rw [frz_out (fun h => (s0.own_there (g.ow q hq)).1 (v.new q h))]
    exact (s.own_there hq).2
  · by_cases hq : q ∈ own x
    · exact v.new q hq
    · rw [frz_out hq] at h'; exact absurd h h'
  · by_cases hq : q ∈ own x
    · rw [frz_in hq] at h; exact .inl h
    · rw [frz_out hq] at h; exact s.sub q u h
end
def T.kids {α : Type} (ys : List (T α)) : T α → T α
  | .nd k m a _ => .nd k m a ys
  | t => t
/-- a method of an owned list, of one argument, that gives None: gk: the kids behind it -/
def S.lm1 (gk : List D → D → Option (List D)) (p : Pv) (f : Ev) : Sv := fun ρ => (p ρ).toS fun q ρ1 => match getR ρ1 q.1 q.2 with
  | some (.nd .lst .o _ _) => (f ρ1).toS fun d ρ2 => match getR ρ2 q.1 q.2 with
    | some (.nd .lst .o _ xs) => match gk xs d with
      | some ys => .nx (modS (T.kids ys) ρ2 q.1 q.2)
      | none => .bad
    | _ => .bad
  | _ => .bad
def gAppend (xs : List D) (d : D) : Option (List D) := if d.nob = true ∧ xs.length < sizeLine then some (xs ++ [d.fz]) else none
def gExtend (xs : List D) (d : D) : Option (List D) := match d with
  | .nd .lst _ _ ys => if allL isC ys = true ∧ xs.length + ys.length ≤ sizeLine then some (xs ++ ys) else none
  | _ => none
/-- what a list's method of one argument owes -/
def LM1 (C : Cx) (ca : Ca) (r : V → List V → Hp → VK → Prop) (gk : List D → D → Option (List D)) : Prop := ∀ (F H : Hp) (xs : List A) (y : A) (ds : List D), gk (mapL (fun _ => ()) xs) (er y) = some ds → Ok (cx ca C) F H y → Sub F H →
  ∃ ys : List A, mapL (fun _ => ()) ys = ds ∧ (∀ z ∈ ys, z ∈ xs ∨ (y.nob = true ∧ z = y.fz) ∨ (z.cold = true ∧ Ok (cx ca C) F H z)) ∧ ((adrL .o xs).Nodup → (adrL .o ys).Nodup) ∧ ∀ l Q, H l = some (.lst (xs.map val)) → Q .non (upd H l (.lst (ys.map val))) → r (.ref l) [val y] H Q
section
variable {ca : Ca} {C : Cx} {W : WX} {e o : Expr} {f : Ev} {pv : Pv} {pos apos epos : Pos} {ρ : Env}
theorem lm_append : LM1 C ca rAppend gAppend := by
  intro F H xs y ds h ok s
  unfold gAppend at h
  split at h
  · rename_i hz
    cases h
    have nb : y.nob = true := by rw [← hz.1]; exact (T.all_map _ _ y).symm
    refine ⟨xs ++ [y.fz], by rw [mapL_append]; congr 1; show [er y.fz] = _; rw [show er y.fz = (er y).fz from T.map_mk _ _ y], fun z hz => ?_, fun nd => ?_, fun l Q hl q => ⟨l, _, val y, rfl, rfl, hl, by rw [List.length_map]; rw [mapL_len] at hz; exact hz.2, ?_⟩⟩
    · rcases List.mem_append.mp hz with h | h
      · exact .inl h
      · exact .inr (.inl ⟨nb, List.mem_singleton.mp h⟩)
    · rw [adrL_eq, List.flatMap_append]
      have q0 : adr .o y.fz = [] := cold_own (fz_cold y)
      simp only [List.flatMap_cons, List.flatMap_nil, q0, List.append_nil]
      rw [← adrL_eq]; exact nd
    · have : (xs ++ [y.fz]).map val = xs.map val ++ [val y] := by rw [List.map_append]; congr 1; show [val y.fz] = _; rw [show val y.fz = val y from val_mk _ y]
      rw [← this]; exact q
  · cases h
theorem lm_extend : LM1 C ca rExtend gExtend := by
  intro F H xs y ds h ok s
  unfold gExtend at h
  split at h
  · rename_i m u ys0 hy
    split at h
    · rename_i hz
      cases h
      obtain ⟨b, ys, rfl, ey⟩ := er_nd hy
      subst ey
      have c := er_cold hz.1
      have call := c
      rw [allL_eq, List.all_eq_true] at call
      refine ⟨xs ++ ys, by rw [mapL_append], fun z hz => ?_, fun nd => ?_, fun l Q hl q => ⟨l, b.1, _, _, rfl, rfl, hl, ok.at_ s, by rw [List.length_map, List.length_map]; rw [mapL_len, mapL_len] at hz; exact hz.2, by rw [← List.map_append]; exact q⟩⟩
      · rcases List.mem_append.mp hz with h | h
        · exact .inl h
        · exact .inr (.inr ⟨call z h, OkL_iff.mp ok.2 z h⟩)
      · rw [adrL_eq, List.flatMap_append, ← adrL_eq, ← adrL_eq, adrL_nil (p := isC) rfl c, List.append_nil]; exact nd
    · cases h
  · cases h
theorem cold_kid {X : Ctx} {F H F' H' : Hp} {z : A} (ok : Ok X F H z) (c : z.cold = true) (fs : ∀ a u, F a = some u → F' a = some u) : Ok X F' H' z :=
  Ok.stay ok (T.all_imp (fun m hm => by cases m <;> first | rfl | exact absurd hm Bool.false_ne_true) c) fs fun a ha => by rw [cold_own c] at ha; cases ha
theorem cold_new {X : Ctx} {F H H0 : Hp} {r : AR} {z : A} (c : z.cold = true) (ok : Ok X F H z) : Ok X F H z ∧ z.nob = true ∧ ∀ q ∈ own z, H0 q = none ∧ q ∉ adrR .o r ∧ q ∉ adrR .b r ∧ F q = none :=
  ⟨ok, T.all_imp (fun m hm => by cases m <;> first | rfl | exact absurd hm Bool.false_ne_true) c, fun q hq => by rw [cold_own c] at hq; cases hq⟩
theorem cs_lm1 {name : Str} {id : String} {r : V → List V → Hp → VK → Prop} {gk : List D → D → Option (List D)} (slot : Slot "list" name id) (hty : typeOf (.builtin id) = pure (.type "method_descriptor")) (mt : MtR C id r) (lm : LM1 C ca r gk)
    (h : CP ca C W o pv) (hv : CE ca C W e f) (hbase : attributeBase o name C.env (eval o C.env) = eval o C.env := by rfl)
    (hfew : ((backTo pos (starEach [e] C.env)).all (fun x => !x.1) && (backToKw pos (keywordEach [] C.env)).all (fun x => x.1.isSome) && decide (([e] : List Expr).length + ([] : List Keyword).length + (if ([] : List Keyword).isEmpty then 0 else 1) < 30)) = true := by rfl)
    (hline : (apos.endLine == pos.line) = true := by rfl) (hs : starEach [e] C.env = (false, eval e C.env) :: starEach [] C.env := by rfl) (hplain : (backTo pos (starEach [] C.env)).any (·.1) = false := by rfl)
    (hsw : swapsWith (.Call (.Attribute o name apos) [e] [] pos) none epos.line C.env = pure false := by rfl) : CS ca C W (.Expr (.Call (.Attribute o name apos) [e] [] pos) epos) (S.lm1 gk pv f) := ⟨fun ρ => by
  cases hp : pv ρ with
  | bad => exact PS.mono ps_false fun D σ H ⟨F, r, s, e, p⟩ => by unfold S.lm1 at p; rw [hp] at p; exact p
  | exc c fs ρ1 =>
    refine PS.mono (ps_expr (pe_bm PySem.F.plainAttrs_list slot hty mt (h.run ρ) (pa_cons pe_false pa_nil hs) hbase hfew hline hs hplain) hsw) fun D σ H ⟨F, r, s, e, p⟩ => ⟨F, r, s, e, ?_⟩
    unfold S.lm1 at p; rw [hp] at p ⊢
    exact fun F' H' r' dx g s e x => p F' H' r' σ dx g.toS s e x
  | ok q ρ1 =>
    refine PS.mono (ps_expr (pe_bm PySem.F.plainAttrs_list slot hty mt (h.run ρ) (pa_cons (hv.run ρ1) pa_nil hs) hbase hfew hline hs hplain) hsw) fun D σ H ⟨F, r, s, e, p⟩ => ⟨F, r, s, e, ?_⟩
    unfold S.lm1 at p; rw [hp, R.ok_toS] at p
    rw [hp]
    intro F1 H1 r1 x0 x g1 s1 e1 hi hx
    have hg1 := getR_at hi hx
    rw [e1] at hg1
    rw [hg1] at p
    split at p
    · rename_i hnd
      obtain ⟨a1, xs1, rfl, _⟩ := er_nd (Option.some.inj hnd)
      have okx1 := (s1.slotOk hi).get hx
      refine ⟨.inl ⟨rfl, _, SqL.of (okx1.at_ s1.sub)⟩, ?_⟩
      refine ⟨F1, r1, s1, e1, ?_⟩
      cases hf : f ρ1 with
      | bad => rw [hf] at p; exact p.elim
      | exc c fs ρ2 =>
        rw [hf] at p
        exact fun F2 H2 r2 dx g2 s2 e2 x2 => p F2 H2 r2 σ dx (g1.trans s1 g2).toS s2 e2 x2
      | ok d ρ2 =>
        rw [hf, R.ok_toS] at p
        intro F2 H2 r2 y g2 s2 e2 ok2 ex2 v2
        obtain ⟨z0, z, hi2, hx2, ez⟩ := way_stays g2.un hi hx
        have hg2 := getR_at hi2 hx2
        rw [e2] at hg2
        rw [hg2] at p
        split at p
        · rename_i u2 xsD hnd2
          obtain ⟨a2, xs2, rfl, exs2⟩ := er_nd (Option.some.inj hnd2)
          have okz := (s2.slotOk hi2).get hx2
          have ea : a2.1 = a1.1 := by have := fz_val ez; exact V.ref.inj this
          subst ex2
          cases hgk : gk xsD (er y) with
          | none => rw [hgk] at p; exact p.elim
          | some ds =>
            rw [hgk] at p
            rw [← exs2] at hgk
            obtain ⟨ys, eys, hys, hny, hr⟩ := lm F2 H2 xs2 y ds hgk ok2 s2.sub
            have g12 := g1.trans s1 g2
            have v02 := v2.back g1
            have full := okz.1.2.1.1
            refine hr a1.1 _ (by rw [← ea]; exact full) ?_
            show D.nx σ _
            by_cases nb : y.nob = true
            · obtain ⟨ff, fo, fr, sb, oky⟩ := settle_new s g12 s2 ok2 v02 nb
              have hk : ∀ z ∈ ys, z ∈ xs2 ∨ (Ok (cx ca C) (frz F2 H2 (own y)) H2 z ∧ z.nob = true ∧ ∀ q ∈ own z, H q = none ∧ q ∉ adrR .o r2 ∧ q ∉ adrR .b r2 ∧ frz F2 H2 (own y) q = none) := fun z hz => by
                rcases hys z hz with w | w | w
                · exact .inl w
                · rw [w.2]; exact .inr (cold_new (fz_cold y) oky)
                · exact .inr (cold_new w.1 (cold_kid w.2 w.1 ff))
              obtain ⟨s3, g3⟩ := Stt.put (k' := .lst) (ys := ys) s g12 s2 hi2 hx2 rfl trivial (fun _ _ z => by cases z) ff fo fr sb hk (hny (nodup_kids (slot_nd s2 hi2 hx2)))
              have := p _ _ _ σ g3 s3 (by rw [erR_mod (f := fun _ => T.nd .lst .o a2 ys) (g := T.kids ds) hi2 hx2 (by show T.nd .lst .o () (mapL (fun _ => ()) ys) = T.nd .lst .o () ds; rw [eys]), e2])
              rw [ea] at this
              exact this
            · have hk : ∀ z ∈ ys, z ∈ xs2 ∨ (Ok (cx ca C) F2 H2 z ∧ z.nob = true ∧ ∀ q ∈ own z, H q = none ∧ q ∉ adrR .o r2 ∧ q ∉ adrR .b r2 ∧ F2 q = none) := fun z hz => by
                rcases hys z hz with w | w | w
                · exact .inl w
                · exact absurd w.1 nb
                · exact .inr (cold_new w.1 w.2)
              obtain ⟨s3, g3⟩ := Stt.put (k' := .lst) (ys := ys) s g12 s2 hi2 hx2 rfl trivial (fun _ _ z => by cases z) (fun _ _ h => h) (fun q hq => (s2.own_there hq).2) (fun _ h h' => absurd h h') s2.sub hk (hny (nodup_kids (slot_nd s2 hi2 hx2)))
              have := p _ _ _ σ g3 s3 (by rw [erR_mod (f := fun _ => T.nd .lst .o a2 ys) (g := T.kids ds) hi2 hx2 (by show T.nd .lst .o () (mapL (fun _ => ()) ys) = T.nd .lst .o () ds; rw [eys]), e2])
              rw [ea] at this
              exact this
        · exact p.elim
    · exact p.elim⟩
where
  slot_nd {X : Ctx} {F H : Hp} {r : AR} {σ : St} {i : Nat} {p : List Nat} {x0 x : A} (s : Stt X F H r σ) (hi : r[i]? = some (some x0)) (hx : getT x0 p = some x) : (own x).Nodup := by
    have nd0 := s.slotNd hi
    have key : ∀ {p : List Nat} {t x : A}, (own t).Nodup → getT t p = some x → (own x).Nodup := by
      intro p
      induction p with
      | nil => intro t x h e; rw [getT_nil] at e; cases e; exact h
      | cons j p ih =>
        intro t x h e
        obtain ⟨k, m, b, zs, y, rfl, hy, hx⟩ := getT_cons e
        exact ih (nodup_of_mem (nodup_kids h) (List.mem_of_getElem? hy)) hx
    exact key nd0 hx
abbrev S.append := S.lm1 gAppend
abbrev S.extend := S.lm1 gExtend
end
end Vl
/-! The value layer, 15: pop, stores by place, key and field; tuples as targets. -/
namespace Vl
open PySem PySem.Spec PyProof.Rows L2

def putG {κ α : Type} [DecidableEq κ] (ks : List κ) (xs : List α) (k : κ) (x : α) : List κ × List α := match posG ks k with
  | some j => (ks, xs.set j x)
  | none => (ks ++ [k], xs ++ [x])
section
variable {κ : Type} [DecidableEq κ]
theorem posG_none {k : κ} : ∀ {ks : List κ}, posG ks k = none → k ∉ ks
  | [], _, h => by cases h
  | k' :: ks, h, hm => by
    unfold posG at h
    split at h
    · cases h
    · rename_i ne
      rcases List.mem_cons.mp hm with e | hm
      · exact ne e.symm
      · refine posG_none (ks := ks) ?_ hm
        cases q : posG ks k with
        | none => rfl
        | some j => rw [q] at h; cases h
theorem posG_get {k : κ} : ∀ {ks : List κ} {j : Nat}, posG ks k = some j → ks[j]? = some k
  | [], _, h => by cases h
  | k' :: ks, j, h => by
    unfold posG at h
    split at h
    · rename_i e
      cases h
      exact congrArg some e
    · cases q : posG ks k with
      | none => rw [q] at h; cases h
      | some i =>
        rw [q] at h
        cases h
        show ks[i]? = some k
        exact posG_get q
theorem putG_map {α β : Type} (f : α → β) (ks : List κ) (xs : List α) (k : κ) (x : α) : putG ks (xs.map f) k (f x) = ((putG ks xs k x).1, (putG ks xs k x).2.map f) := by
  unfold putG
  cases posG ks k with
  | none => simp
  | some j => simp [List.map_set]
theorem putG_len {α : Type} (ks : List κ) (xs : List α) (k : κ) (x : α) (h : ks.length = xs.length) : (putG ks xs k x).1.length = (putG ks xs k x).2.length := by
  unfold putG
  cases posG ks k with
  | none => simp [h]
  | some j => simp [h]
theorem putG_nodup {α : Type} (ks : List κ) (xs : List α) (k : κ) (x : α) (h : ks.Nodup) : (putG ks xs k x).1.Nodup := by
  unfold putG
  cases e : posG ks k with
  | none => exact List.nodup_append.mpr ⟨h, by simp, fun a ha b hb q => by rw [List.mem_singleton.mp hb] at q; exact posG_none e (by rw [← q]; exact ha)⟩
  | some j => exact h
theorem putG_mem {α : Type} {ks : List κ} {xs : List α} {k : κ} {x y : α} (h : y ∈ (putG ks xs k x).2) : y ∈ xs ∨ y = x := by
  unfold putG at h
  cases e : posG ks k with
  | none =>
    rw [e] at h
    rcases List.mem_append.mp h with h | h
    · exact .inl h
    · exact .inr (List.mem_singleton.mp h)
  | some j =>
    rw [e] at h
    exact List.mem_or_eq_of_mem_set h
end
/-- what a store's kids own -/
theorem put_nodup {κ : Type} [DecidableEq κ] {ks : List κ} {xs : List A} {k : κ} {x : A} (h : (adrL .o xs).Nodup) (hx : (own x).Nodup) (hd : ∀ a ∈ own x, a ∉ adrL .o xs) : (adrL .o (putG ks xs k x).2).Nodup := by
  unfold putG
  cases posG ks k with
  | none =>
    show (adrL .o (xs ++ [x])).Nodup
    rw [adrL_eq, List.flatMap_append, ← adrL_eq]
    refine List.nodup_append.mpr ⟨h, by simpa using hx, fun a ha b hb e => ?_⟩
    subst e
    have hb : a ∈ own x := by simpa using hb
    exact hd a hb ha
  | some j =>
    show (adrL .o (xs.set j x)).Nodup
    by_cases hj : j < xs.length
    · rw [adrL_eq] at h hd ⊢
      exact flat_nodup (List.getElem?_eq_getElem hj) h hx fun a ha => .inr (hd a ha)
    · rw [List.set_eq_of_length_le (by omega)]; exact h
theorem putK_zip : ∀ (ks : List Key) (vs : List V) (k : Key) (v : V), ks.length = vs.length → ks.Nodup → putK (ks.zip vs) k v = (putG ks vs k v).1.zip (putG ks vs k v).2 := by
  intro ks vs k v hl nd
  have hv : valV (ks.zip vs) k = (posG ks k).bind fun j => vs[j]? := by
    rw [valV_zip]
    clear nd
    induction ks generalizing vs with
    | nil => cases vs <;> rfl
    | cons k' ks ih =>
      cases vs with
      | nil => cases hl
      | cons x vs =>
        show (if k' = k then some x else look ks vs k) = _
        unfold posG
        by_cases e : k' = k
        · rw [if_pos e, if_pos e]; rfl
        · rw [if_neg e, if_neg e, ih vs (by simpa using hl)]
          cases posG ks k <;> rfl
  cases e : posG ks k with
  | none =>
    rw [e] at hv
    rw [putK_new v hv]
    unfold putG
    rw [e]
    show ks.zip vs ++ [(k, v)] = (ks ++ [k]).zip (vs ++ [v])
    rw [List.zip_append hl]; rfl
  | some j =>
    unfold putK
    have hj := pos_lt e
    have hany : ((ks.zip vs).any fun kv => decide (kv.1 = k)) = true := by
      rw [valV_any, hv, e]
      show (vs[j]?).isSome = true
      rw [List.getElem?_eq_getElem (by omega)]; rfl
    rw [if_pos hany]
    unfold putG
    rw [e]
    show (ks.zip vs).map (fun kv => if kv.1 = k then (kv.1, v) else kv) = ks.zip (vs.set j v)
    clear hv hany
    induction ks generalizing vs j with
    | nil => cases e
    | cons k' ks ih =>
      cases vs with
      | nil => cases hl
      | cons x vs =>
        unfold posG at e
        by_cases ek : k' = k
        · rw [if_pos ek] at e
          cases e
          show (if k' = k then (k', v) else (k', x)) :: (ks.zip vs).map _ = (k', v) :: ks.zip vs
          rw [if_pos ek]
          congr 1
          have hn : k ∉ ks := by rw [← ek]; exact (List.nodup_cons.mp nd).1
          have key : ∀ l : List (Key × V), (∀ q ∈ l, q.1 ≠ k) → l.map (fun kv => if kv.1 = k then (kv.1, v) else kv) = l := by
            intro l
            induction l with
            | nil => intro _; rfl
            | cons q l ih2 =>
              intro hl2
              rw [List.map_cons, if_neg (hl2 q List.mem_cons_self), ih2 fun z hz => hl2 z (List.mem_cons_of_mem _ hz)]
          exact key _ fun q hq e => hn (by rw [← e]; exact (List.of_mem_zip hq).1)
        · rw [if_neg ek] at e
          cases q : posG ks k with
          | none => rw [q] at e; cases e
          | some i =>
            rw [q] at e
            cases e
            show (if k' = k then (k', v) else (k', x)) :: (ks.zip vs).map _ = (k', x) :: ks.zip (vs.set i v)
            rw [if_neg ek, ih vs (by simpa using hl) (List.nodup_cons.mp nd).2 i q (pos_lt q)]
theorem putF_zip : ∀ (fs : List Str) (vs : List V) (f : Str) (v : V), fs.length = vs.length → putF f v (fs.zip vs) = (putG fs vs f v).1.zip (putG fs vs f v).2
  | [], [], f, v, _ => rfl
  | [], _ :: _, f, v, h => by cases h
  | _ :: _, [], f, v, h => by cases h
  | g :: fs, x :: vs, f, v, h => by
    have ih := putF_zip fs vs f v (by simpa using h)
    show (if g = f then (g, v) :: fs.zip vs else (g, x) :: putF f v (fs.zip vs)) = _
    rw [ih]
    unfold putG
    rw [show posG (g :: fs) f = if g = f then some 0 else (posG fs f).map (· + 1) from rfl]
    by_cases e : g = f
    · rw [if_pos e, if_pos e]; rfl
    · rw [if_neg e, if_neg e]
      cases posG fs f <;> rfl
/-- p.f = e; what e owns stays owned -/
def S.setf (Cs : List Str) (n : Str) (p : Pv) (f : Ev) : Sv := fun ρ => (f ρ).toS fun d ρ1 => (p ρ1).toS fun q ρ2 => match getR ρ2 q.1 q.2 with
  | some (.nd (.ins c fs) .o _ xs) => if c ∈ Cs ∧ d.nob = true ∧ fs.length < 1000 then .nx (modS (fun _ => .nd (.ins c (putG fs xs n d).1) .o () (putG fs xs n d).2) ρ2 q.1 q.2) else .bad
  | _ => .bad
section
variable {ca : Ca} {C : Cx} {W : WX} {e o : Expr} {f g : Ev} {pv : Pv} {pos apos epos tpos : Pos} {ρ : Env}
theorem slot_nd {X : Ctx} {F H : Hp} {r : AR} {σ : St} {i : Nat} {p : List Nat} {x0 x : A} (s : Stt X F H r σ) (hi : r[i]? = some (some x0)) (hx : getT x0 p = some x) : (own x).Nodup := by
  have nd0 := s.slotNd hi
  have key : ∀ {p : List Nat} {t x : A}, (own t).Nodup → getT t p = some x → (own x).Nodup := by
    intro p
    induction p with
    | nil => intro t x h e; rw [getT_nil] at e; cases e; exact h
    | cons j p ih =>
      intro t x h e
      obtain ⟨k, m, b, zs, y, rfl, hy, hx⟩ := getT_cons e
      exact ih (nodup_of_mem (nodup_kids h) (List.mem_of_getElem? hy)) hx
  exact key nd0 hx
/-- a fresh value is kept beside a state: what it owns is of no slot -/
theorem fresh_new {X : Ctx} {F H F2 H2 : Hp} {r r2 : AR} {σ : St} {x : A} (s : Stt X F H r σ) (g : Grow F H r F2 H2 r2) (ok : Ok X F2 H2 x) (v : VOk H r x) (nb : x.nob = true) :
    Ok X F2 H2 x ∧ x.nob = true ∧ ∀ q ∈ own x, H q = none ∧ q ∉ adrR .o r2 ∧ q ∉ adrR .b r2 ∧ F2 q = none :=
  ⟨ok, nb, fun q hq => ⟨v.new q hq, fun h => (s.own_there (g.ow q h)).1 (v.new q hq), fun h => s.bor_there ((g.bo q).mp h) (v.new q hq), (ok.own_there q hq).2⟩⟩
theorem cs_setf {Cs : List Str} {n : Str} (k : FldOk C.K ca Cs n) (hv : CE ca C W e f) (h : CP ca C W o pv) (hs : swapsWith e (some (.Attribute o n tpos)) pos.line C.env = pure false := by rfl) : CS ca C W (.Assign [.Attribute o n tpos] e pos) (S.setf Cs n pv f) := ⟨fun ρ => by
  cases hf : f ρ with
  | bad => exact PS.mono ps_false fun D σ H ⟨F, r, s, e, p⟩ => by unfold S.setf at p; rw [hf] at p; exact p
  | exc c fs ρ1 =>
    refine PS.mono (ps_fld pe_false (hv.run ρ) hs) fun D σ H ⟨F, r, s, e, p⟩ => ⟨F, r, s, e, ?_⟩
    unfold S.setf at p; rw [hf] at p ⊢
    exact fun F' H' r' dx g s e x => p F' H' r' σ dx g.toS s e x
  | ok d ρ1 =>
    refine PS.mono (ps_fld (h.run ρ1) (hv.run ρ) hs) fun D σ H ⟨F, r, s, e, p⟩ => ⟨F, r, s, e, ?_⟩
    unfold S.setf at p; rw [hf, R.ok_toS] at p
    rw [hf]
    intro F1 H1 r1 x g1 s1 e1 ok1 ex1 v1
    refine ⟨F1, r1, s1, e1, ?_⟩
    cases hp : pv ρ1 with
    | bad => rw [hp] at p; exact p.elim
    | exc c fs ρ2 =>
      rw [hp] at p
      exact fun F2 H2 r2 dx g2 s2 e2 x2 => p F2 H2 r2 σ dx (g1.trans s1 g2).toS s2 e2 x2
    | ok q ρ2 =>
      rw [hp, R.ok_toS] at p
      intro F2 H2 r2 z0 z g2 s2 e2 hi hz
      have hg2 := getR_at hi hz
      rw [e2] at hg2
      rw [hg2] at p
      split at p
      · rename_i c fs u xsD hnd
        obtain ⟨a, xs, rfl, exs⟩ := er_nd (Option.some.inj hnd)
        split at p
        · rename_i hc
          have okz := (s2.slotOk hi).get hz
          have full := okz.1.2.1
          have shp := okz.shp
          have g12 := g1.trans s1 g2
          have n1 : ∀ b ∈ own x, b ∉ adrR .o r1 := fun b hb hr1 => (s.own_there (g1.ow b hr1)).1 (v1.new b hb)
          have okx := ok1.grow s1 n1 g2
          have nb : x.nob = true := by rw [← hc.2.1, ← ex1]; exact (T.all_map _ _ x).symm
          have new := fresh_new s g12 okx v1 nb
          have hlen : fs.length = (xs.map val).length := by rw [List.length_map]; exact shp.1
          refine ⟨a.1, ca c, a.2, _, rfl, full.1, k.cls c hc.1, k.no c hc.1, by rw [List.length_zip, ← hlen, Nat.min_self]; exact hc.2.2, ?_⟩
          rw [putF_zip fs _ n _ hlen, putG_map val fs xs n x]
          have ndx := slot_nd s2 hi hz
          have ndk := nodup_kids ndx
          have a12 : a.2 ≠ a.1 := fun e => by
            have h2 : H2 a.2 = some (.own a.1) := full.2
            rw [e, full.1] at h2
            cases h2
          have hdis : ∀ b ∈ own x, b ∉ adrL .o xs := fun b hb h => (new.2.2 b hb).2.1 (Stt.own_sub hi b (adr_get hz b (adr_nd_kids h)))
          have := Stt.put (k' := .ins c (putG fs xs n x).1) (ys := (putG fs xs n x).2) s g12 s2 hi hz rfl ⟨putG_len fs xs n x shp.1, putG_nodup fs xs n x shp.2⟩ (fun _ _ _ => ⟨full.2, a12⟩)
            (fun _ _ h => h) (fun b hb => (s2.own_there hb).2) (fun _ h h' => absurd h h') s2.sub (fun y hy => (putG_mem hy).imp id fun e => by rw [e]; exact new) (put_nodup ndk v1.nd hdis)
          obtain ⟨s3, g3⟩ := this
          refine p _ _ _ σ g3 s3 ?_
          rw [erR_mod (f := fun _ => T.nd (.ins c (putG fs xs n x).1) .o a (putG fs xs n x).2) (g := fun _ => T.nd (.ins c (putG fs xsD n d).1) .o () (putG fs xsD n d).2) hi hz ?_, e2]
          show T.nd (.ins c (putG fs xs n x).1) .o () (mapL (fun _ => ()) (putG fs xs n x).2) = _
          rw [← exs, ← ex1, mapL_eq, mapL_eq, putG_map er fs xs n x]
        · exact p.elim
      · exact p.elim⟩
end
end Vl
/-! The value layer, 16: tuples as targets; stores by key and by place; pop. -/
namespace Vl
open PySem PySem.Spec PyProof.Rows L2

def goG : List Gv → List D → Env → Option Env
  | [], [], ρ => some ρ
  | g :: gs, d :: ds, ρ => (g d ρ).bind fun ρ1 => goG gs ds ρ1
  | _, _, _ => none
def G.tup (gs : List Gv) : Gv := fun d ρ => match d with
  | .nd .tup .c _ xs => goG gs xs ρ
  | _ => none
def rdGs (X : Ctx) (ss : List Nat) (ds : List D) (ρ ρ' : Env) : TGs := fun vs σ H Q => ∃ (F : Hp) (r : AR) (xs : List A), Stt X F H r σ ∧ erR r = ρ ∧ xs.map val = vs ∧ xs.map er = ds ∧ (∀ x ∈ xs, x.cold = true ∧ Ok X F H x) ∧
  ∀ r' σ', Stt X F H r' σ' → erR r' = ρ' → (∀ a ∈ adrR .o r', a ∈ adrR .o r) → (∀ b ∈ adrR .b r', b ∈ adrR .b r) → Only ss σ σ' → Q σ' H
structure CGs (ca : Ca) (C : Cx) (ts : List Expr) (ss : List Nat) (gs : List Gv) : Prop where
  len : ts.length = gs.length
  run : ∀ ds ρ ρ', goG gs ds ρ = some ρ' → PGs C ts (rdGs ⟨C.K, ca.f, ca.fix, ca.cells, ca.known⟩ ss ds ρ ρ')
theorem PGs.mono {C : Cx} {e : List Expr} {t t' : TGs} (h : PGs C e t) (i : ∀ v σ H Q, t' v σ H Q → t v σ H Q) : PGs C e t' := ⟨fun pins s σ H x u Q I r q => h.run pins s σ H x u Q I r (i x σ H Q q)⟩
theorem goG_len : ∀ {gs : List Gv} {ds : List D} {ρ ρ' : Env}, goG gs ds ρ = some ρ' → ds.length = gs.length
  | [], [], _, _, _ => rfl
  | [], _ :: _, _, _, h => by cases h
  | _ :: _, [], _, _, h => by cases h
  | g :: gs, d :: ds, ρ, ρ', h => by
    have h : ((g d ρ).bind fun ρ1 => goG gs ds ρ1) = some ρ' := h
    cases e : g d ρ with
    | none => rw [e] at h; cases h
    | some ρ1 => rw [e] at h; rw [List.length_cons, List.length_cons, goG_len h]
section
variable {ca : Ca} {C : Cx} {W : WX} {e o b t : Expr} {ts : List Expr} {f g : Ev} {gv : Gv} {gs : List Gv} {pv : Pv} {pos apos epos tpos : Pos} {ρ : Env}
theorem cgs_nil : CGs ca C [] [] [] := ⟨rfl, fun ds ρ ρ' h => PGs.mono pgs_nil fun v σ H Q ⟨F, r, xs, s, e, ev, ed, ok, k⟩ => by
  cases ds with
  | nil =>
    cases h
    have : xs = [] := List.map_eq_nil_iff.mp ed
    subst this
    exact ⟨ev.symm, k r σ s e (fun _ h => h) (fun _ h => h) ⟨rfl, fun _ _ => rfl⟩⟩
  | cons d ds => cases h⟩
theorem cgs_cons {s1 s2 : List Nat} (h1 : CG ca C t s1 gv) (h2 : CGs ca C ts s2 gs) (hs : (assignEach (t :: ts) C.env).map (·.2) = assign t C.env :: (assignEach ts C.env).map (·.2) := by rfl) : CGs ca C (t :: ts) (s1 ++ s2) (gv :: gs) := ⟨by rw [List.length_cons, List.length_cons, h2.len], fun ds ρ ρ' h => by
  cases ds with
  | nil => cases h
  | cons d ds =>
    have h : ((gv d ρ).bind fun ρ1 => goG gs ds ρ1) = some ρ' := h
    cases e : gv d ρ with
    | none => rw [e] at h; cases h
    | some ρ1 =>
      rw [e] at h
      refine PGs.mono (pgs_cons (h1.run d ρ ρ1 e) (h2.run ds ρ1 ρ' h) hs) fun v σ H Q ⟨F, r, xs, s, e, ev, ed, ok, k⟩ => ?_
      cases xs with
      | nil => cases ed
      | cons x xs =>
        subst ev
        have hd := List.cons.inj ed
        have okx := ok x List.mem_cons_self
        refine ⟨val x, xs.map val, rfl, F, r, x, s, e, rfl, hd.1, okx.2, by rw [cold_own okx.1]; exact List.nodup_nil, by rw [cold_own okx.1]; exact fun _ z => (by cases z), by rw [cold_own okx.1]; exact fun _ z => (by cases z), by rw [cold_bor okx.1]; exact fun _ z => (by cases z), fun r1 σ1 s1 e1 ow1 bo1 on1 => ?_⟩
        refine ⟨F, r1, xs, s1, e1, rfl, hd.2, fun y hy => ok y (List.mem_cons_of_mem _ hy), fun r2 σ2 s2 e2 ow2 bo2 on2 => k r2 σ2 s2 e2 (fun a ha => ?_) (fun b hb => bo1 b (bo2 b hb)) (on1.trans on2)⟩
        rcases ow1 a (ow2 a ha) with q | q
        · exact q
        · rw [cold_own okx.1] at q; cases q⟩
theorem cg_tup {k : Nat} {ss : List Nat} (hc : C.calm = true) (h : CGs ca C ts ss gs) (hn : (assignEach ts C.env).length = gs.length := by rfl) (hst : (assignEach ts C.env).findIdx? (·.1) = none := by rfl) : CG ca C (.Tuple ts k pos) ss (G.tup gs) := ⟨fun d ρ ρ' hg => by
  unfold G.tup at hg
  split at hg
  · rename_i u ds
    refine PG.mono (pg_tup hc (h.run ds ρ ρ' hg) hn hst) fun v σ H Q ⟨F, r, x, s, e, ev, ex, ok, nd, out, outb, bo, kk⟩ => ?_
    obtain ⟨a, xs, rfl, exs⟩ := er_nd ex
    subst ev
    have exs' : xs.map er = ds := by rw [← exs, mapL_eq]
    have c := ok.1.2.2
    rw [allL_eq, List.all_eq_true] at c
    have hl : xs.length = ds.length := by rw [← exs', List.length_map]
    refine ⟨a.1, xs.map val, rfl, ok.at_ s.sub, by rw [List.length_map, hl, goG_len hg], F, r, xs, s, e, rfl, exs', fun x hx => ⟨c x hx, OkL_iff.mp ok.2 x hx⟩, fun r' σ' s' e' ow bo' on => kk r' σ' s' e' (fun a ha => .inl (ow a ha)) bo' on⟩
  · cases hg⟩
/-- p[i] = e: a dict, a list; the value is settled -/
def S.seti (p : Pv) (g f : Ev) : Sv := fun ρ => (f ρ).toS fun d ρ1 => (p ρ1).toS fun q ρ2 => (g ρ2).toS fun k ρ3 => match getR ρ3 q.1 q.2, k with
  | some (.nd (.dct ks) .o _ xs), k => match k.key with
    | some key => if d.nob = true ∧ ks.length < sizeLine then .nx (modS (fun _ => .nd (.dct (putG ks xs key d.fz).1) .o () (putG ks xs key d.fz).2) ρ3 q.1 q.2) else .bad
    | none => .bad
  | _, _ => .bad
theorem cs_seti (hu : C.A.units + 64 < cLine) (hv : CE ca C W e f) (h : CP ca C W o pv) (hb : CE ca C W b g) (hs : swapsWith e (some (.Subscript o b tpos)) pos.line C.env = pure false := by rfl) : CS ca C W (.Assign [.Subscript o b tpos] e pos) (S.seti pv g f) := ⟨fun ρ => by
  have hu' : C.A.units + 1 < cLine := by omega
  cases hf : f ρ with
  | bad => exact PS.mono ps_false fun D σ H ⟨F, r, s, e, p⟩ => by unfold S.seti at p; rw [hf] at p; exact p
  | exc c fs ρ1 =>
    refine PS.mono (ps_dput hu' pe_false pe_false (hv.run ρ) hs) fun D σ H ⟨F, r, s, e, p⟩ => ⟨F, r, s, e, ?_⟩
    unfold S.seti at p; rw [hf] at p ⊢
    exact fun F' H' r' dx g s e x => p F' H' r' σ dx g.toS s e x
  | ok d ρ1 =>
    cases hp : pv ρ1 with
    | bad => exact PS.mono ps_false fun D σ H ⟨F, r, s, e, p⟩ => by unfold S.seti at p; rw [hf, R.ok_toS, hp] at p; exact p
    | exc c fs ρ2 =>
      refine PS.mono (ps_dput hu' (h.run ρ1) pe_false (hv.run ρ) hs) fun D σ H ⟨F, r, s, e, p⟩ => ⟨F, r, s, e, ?_⟩
      unfold S.seti at p; rw [hf, R.ok_toS, hp] at p
      rw [hf]
      intro F1 H1 r1 x g1 s1 e1 ok1 ex1 v1
      exact ⟨F1, r1, s1, e1, by rw [hp]; exact fun F2 H2 r2 dx g2 s2 e2 x2 => p F2 H2 r2 σ dx (g1.trans s1 g2).toS s2 e2 x2⟩
    | ok q ρ2 =>
      refine PS.mono (ps_dput hu' (h.run ρ1) (hb.run ρ2) (hv.run ρ) hs) fun D σ H ⟨F, r, s, e, p⟩ => ⟨F, r, s, e, ?_⟩
      unfold S.seti at p; rw [hf, R.ok_toS, hp, R.ok_toS] at p
      rw [hf]
      intro F1 H1 r1 x g1 s1 e1 ok1 ex1 v1
      refine ⟨F1, r1, s1, e1, ?_⟩
      rw [hp]
      intro F2 H2 r2 z0 z g2 s2 e2 hi hz
      refine ⟨F2, r2, s2, e2, ?_⟩
      cases hg : g ρ2 with
      | bad => rw [hg] at p; exact p.elim
      | exc c fs ρ3 =>
        rw [hg] at p
        exact fun F3 H3 r3 dx g3 s3 e3 x3 => p F3 H3 r3 σ dx ((g1.trans s1 g2).trans s2 g3).toS s3 e3 x3
      | ok kd ρ3 =>
        rw [hg, R.ok_toS] at p
        intro F3 H3 r3 y g3 s3 e3 ok3 ex3 v3
        obtain ⟨w0, w, hi3, hw, ew⟩ := way_stays g3.un hi hz
        have hg3 := getR_at hi3 hw
        rw [e3] at hg3
        rw [hg3] at p
        split at p
        · rename_i k0 ks u xsD hnd
          obtain ⟨a, xs, rfl, exs⟩ := er_nd (Option.some.inj hnd)
          subst ex3
          cases hk : Vl.D.key (er y) with
          | none => rw [hk] at p; exact p.elim
          | some key =>
            rw [hk] at p
            dsimp only at p
            split at p
            · rename_i hc
              have okw := (s3.slotOk hi3).get hw
              have full := okw.1.2.1
              have shp := okw.shp
              have g12 := g1.trans s1 g2
              have g123 := g12.trans s2 g3
              have n1 : ∀ b ∈ own x, b ∉ adrR .o r1 := fun b hb hr1 => (s.own_there (g1.ow b hr1)).1 (v1.new b hb)
              have okx := ok1.grow s1 n1 (g2.trans s2 g3)
              have nb : x.nob = true := by rw [← hc.1, ← ex1]; exact (T.all_map _ _ x).symm
              obtain ⟨ff, fo, fr, sb, okf⟩ := settle_new s g123 s3 okx v1 nb
              have hlen : ks.length = (xs.map val).length := by rw [List.length_map]; exact shp.1
              have ea : val z = .ref a.1 := (fz_val ew).symm
              have new : Ok (cx ca C) (frz F3 H3 (own x)) H3 x.fz ∧ x.fz.nob = true ∧ ∀ q ∈ own x.fz, H q = none ∧ q ∉ adrR .o r3 ∧ q ∉ adrR .b r3 ∧ frz F3 H3 (own x) q = none := cold_new (fz_cold x) okf
              have ndk := nodup_kids (slot_nd s3 hi3 hw)
              obtain ⟨s4, g4⟩ := Stt.put (k' := .dct (putG ks xs key x.fz).1) (ys := (putG ks xs key x.fz).2) s g123 s3 hi3 hw rfl ⟨putG_len ks xs key x.fz shp.1, putG_nodup ks xs key x.fz shp.2⟩ (fun _ _ z => by cases z)
                ff fo fr sb (fun y hy => (putG_mem hy).imp id fun e => by rw [e]; exact new) (put_nodup ndk (by rw [cold_own (fz_cold x)]; exact List.nodup_nil) (by rw [cold_own (fz_cold x)]; exact fun _ z => (by cases z)))
              refine ⟨a.1, upd H3 a.1 (cont ca (.dct (putG ks xs key x.fz).1) a ((putG ks xs key x.fz).2.map val)), ea, .inl ⟨_, key, full.1, key_val hk, by rw [List.length_zip, ← hlen, Nat.min_self]; exact hc.2, ?_⟩, ?_⟩
              · show upd H3 a.1 (.dK ((putG ks xs key x.fz).1.zip ((putG ks xs key x.fz).2.map val))) = _
                rw [putK_zip ks _ key _ hlen shp.2]
                have e1 := putG_map val ks xs key x.fz
                rw [show val x.fz = val x from val_mk _ x] at e1
                rw [e1]
              · refine p _ _ _ σ g4 s4 ?_
                rw [erR_mod (f := fun _ => T.nd (.dct (putG ks xs key x.fz).1) .o a (putG ks xs key x.fz).2) (g := fun _ => T.nd (.dct (putG ks xsD key d.fz).1) .o () (putG ks xsD key d.fz).2) hi3 hw ?_, e3]
                show T.nd (.dct (putG ks xs key x.fz).1) .o () (mapL (fun _ => ()) (putG ks xs key x.fz).2) = _
                rw [← exs, ← ex1, mapL_eq, mapL_eq, ← show er x.fz = (er x).fz from T.map_mk _ _ x, putG_map er ks xs key x.fz]
            · exact p.elim
        · exact p.elim⟩
/-- p.pop() as a statement: its last item goes -/
def S.pop (p : Pv) : Sv := fun ρ => (p ρ).toS fun q ρ1 => match getR ρ1 q.1 q.2 with
  | some (.nd .lst .o _ xs) => if xs ≠ [] then .nx (modS (fun _ => .nd .lst .o () xs.dropLast) ρ1 q.1 q.2) else .bad
  | _ => .bad
theorem cs_pop (h : CP ca C W o pv) (hbase : attributeBase o "pop" C.env (eval o C.env) = eval o C.env := by rfl) (hline : (apos.endLine == pos.line) = true := by rfl)
    (hsw : swapsWith (.Call (.Attribute o "pop" apos) [] [] pos) none epos.line C.env = pure false := by rfl) : CS ca C W (.Expr (.Call (.Attribute o "pop" apos) [] [] pos) epos) (S.pop pv) := ⟨fun ρ => by
  refine PS.mono (ps_expr (pe_bm0 PySem.F.plainAttrs_list PySem.F.slot_list_pop PySem.F.type_list_pop mt_pop (h.run ρ) hbase hline) hsw) fun D σ H ⟨F, r, s, e, p⟩ => ⟨F, r, s, e, ?_⟩
  unfold S.pop at p
  cases hp : pv ρ with
  | bad => rw [hp] at p; exact p
  | exc c fs ρ1 => rw [hp] at p; exact fun F' H' r' dx g s e x => p F' H' r' σ dx g.toS s e x
  | ok q ρ1 =>
    rw [hp, R.ok_toS] at p
    intro F1 H1 r1 x0 x g1 s1 e1 hi hx
    have hg1 := getR_at hi hx
    rw [e1] at hg1
    rw [hg1] at p
    split at p
    · rename_i u xsD hnd
      obtain ⟨a, xs, rfl, exs⟩ := er_nd (Option.some.inj hnd)
      have okx := (s1.slotOk hi).get hx
      split at p
      · rename_i hne
        have hne' : xs ≠ [] := fun z => hne (by rw [← exs, z]; rfl)
        have hpos : 0 < xs.length := List.length_pos_iff.mpr hne'
        refine ⟨.inl ⟨rfl, _, SqL.of (okx.at_ s1.sub)⟩, a.1, xs.map val, val xs[xs.length - 1], rfl, rfl, okx.1.2.1.1, ?_, ?_⟩
        · rw [List.length_map, List.getElem?_map, List.getElem?_eq_getElem (by omega)]; rfl
        · have hsub : ∀ y ∈ xs.dropLast, y ∈ xs := fun y hy => (List.dropLast_sublist xs).subset hy
          have ndk := nodup_kids (slot_nd s1 hi hx)
          have hn : (adrL .o xs.dropLast).Nodup := by
            have e3 : xs.dropLast ++ [xs.getLast hne'] = xs := List.dropLast_concat_getLast hne'
            rw [← e3, adrL_eq, List.flatMap_append] at ndk
            rw [adrL_eq]
            exact (List.nodup_append.mp ndk).1
          obtain ⟨s2, g2⟩ := Stt.put (k' := .lst) (ys := xs.dropLast) s g1 s1 hi hx rfl trivial (fun _ _ z => by cases z) (fun _ _ h => h) (fun b hb => (s1.own_there hb).2) (fun _ h h' => absurd h h') s1.sub (fun y hy => .inl (hsub y hy)) hn
          have := p _ _ _ σ g2 s2 (by rw [erR_mod (f := fun _ => T.nd .lst .o a xs.dropLast) (g := fun _ => T.nd .lst .o () xsD.dropLast) hi hx (by show T.nd .lst .o () (mapL (fun _ => ()) xs.dropLast) = _; rw [← exs, mapL_eq, mapL_eq, List.map_dropLast]), e1])
          rw [List.map_dropLast] at this
          exact this
      · exact p.elim
    · exact p.elim⟩
end
end Vl
/-! The value layer, 18: defs and calls. -/
namespace Vl
open PySem PySem.Spec PyProof.Rows L2

section
variable {X : Ctx} {F F' H H' : Hp} {r : AR} {σ : St}
/- changes elsewhere leave a tree as it is -/
mutual
theorem Ok.keep : ∀ {x : A}, Ok X F H x → (∀ a u, F a = some u → F' a = some u) → (∀ a ∈ own x, H' a = H a ∧ F' a = none) → (∀ b ∈ bor x, ∀ u, H b = some u → H' b = some u) → Ok X F' H' x
  | .non, _, _, _, _ => trivial
  | .bl _, _, _, _, _ => trivial
  | .int _, _, _, _, _ => trivial
  | .str _, _, _, _, _ => trivial
  | .nd k m a xs, h, hf, ho, hb => by
    obtain ⟨⟨sh, n⟩, l⟩ := h
    refine ⟨⟨sh, ?_⟩, OkL.keep l hf (fun p hp => ho p (List.mem_append_right _ hp)) fun p hp => hb p (List.mem_append_right _ hp)⟩
    cases m with
    | c => exact ⟨n.1.same hf, n.2⟩
    | o =>
      have h2 : ∀ c ∈ ndA k a, H' c = H c ∧ F' c = none := fun c hc => ho c (List.mem_append_left _ (by rw [if_pos rfl]; exact hc))
      exact ⟨n.1.keep fun c hc => (h2 c hc).1, fun c hc => (h2 c hc).2, n.2.2⟩
    | b =>
      have h2 : ∀ c ∈ ndA k a, ∀ u, H c = some u → H' c = some u := fun c hc => hb c (List.mem_append_left _ (by rw [if_pos rfl]; exact hc))
      have rd : ∀ {u}, Rd H a.1 u → Rd H' a.1 u := fun {u} h => by
        rcases h with h | ⟨o, h⟩
        · exact .inl (h2 _ ndA_fst _ h)
        · exact .inr ⟨o, h2 _ ndA_fst _ h⟩
      refine ⟨?_, n.2.1, fun c hc => ?_⟩
      · cases k with
        | lst => exact h2 _ ndA_fst _ n.1
        | scr => exact n.1.imp rd id
        | tup => exact n.1.imp rd id
        | dct ks => exact rd n.1
        | dtt ks => exact rd n.1
        | ins C fs => exact ⟨h2 _ ndA_fst _ n.1.1, h2 a.2 (by simp [ndA]) _ n.1.2⟩
        | exn C fs => exact n.1.imp id fun ⟨gs, h, z⟩ => ⟨gs, h2 a.2 (by simp [ndA]) _ h, z⟩
      · cases e : H c with
        | none => exact absurd e (n.2.2 c hc)
        | some u => rw [h2 c hc u e]; exact fun z => by cases z
theorem OkL.keep : ∀ {xs : List A}, OkL X F H xs → (∀ a u, F a = some u → F' a = some u) → (∀ a ∈ adrL .o xs, H' a = H a ∧ F' a = none) → (∀ b ∈ adrL .b xs, ∀ u, H b = some u → H' b = some u) → OkL X F' H' xs
  | [], _, _, _, _ => trivial
  | x :: xs, h, hf, ho, hb => ⟨Ok.keep h.1 hf (fun p hp => ho p (List.mem_append_left _ hp)) (fun p hp => hb p (List.mem_append_left _ hp)),
      OkL.keep h.2 hf (fun p hp => ho p (List.mem_append_right _ hp)) fun p hp => hb p (List.mem_append_right _ hp)⟩
end
theorem Stt.keep (s : Stt X F H r σ) (hf : ∀ a u, F a = some u → F' a = some u) (ho : ∀ a ∈ adrR .o r, H' a = H a ∧ F' a = none) (hb : ∀ b ∈ adrR .b r, ∀ u, H b = some u → H' b = some u) (sub : Sub F' H') : Stt X F' H' r σ :=
  ⟨s.val, fun x hx => (s.ok x hx).keep hf (fun a ha => ho a (mem_adrR.mpr ⟨x, hx, ha⟩)) (fun b hb' => hb b (mem_adrR.mpr ⟨x, hx, hb'⟩)), s.nd, s.bd, sub, s.fx, s.knUp hf⟩
end
section
variable {K : PySem.W.Frag} {cf : Str → Addr} {fx fx' : List (Nat × V)} {cs cs' : List (Addr × HO)} {kn kn' : List A} {F H : Hp}
/- the fixed slots don't matter to a tree -/
mutual
theorem Ok.ctx : ∀ {x : A}, Ok ⟨K, cf, fx, cs, kn⟩ F H x → Ok ⟨K, cf, fx', cs', kn'⟩ F H x
  | .non, _ => trivial
  | .bl _, _ => trivial
  | .int _, _ => trivial
  | .str _, _ => trivial
  | .nd k m a xs, h => ⟨h.1, OkL.ctx h.2⟩
theorem OkL.ctx : ∀ {xs : List A}, OkL ⟨K, cf, fx, cs, kn⟩ F H xs → OkL ⟨K, cf, fx', cs', kn'⟩ F H xs
  | [], _ => trivial
  | x :: xs, h => ⟨Ok.ctx h.1, OkL.ctx h.2⟩
end
theorem XOk.ctx {dx : Option Addr} {fs : List (Str × D)} (h : XOk ⟨K, cf, fx, cs, kn⟩ F H dx fs) : XOk ⟨K, cf, fx', cs', kn'⟩ F H dx fs := by
  cases dx with
  | none => exact h
  | some d =>
    obtain ⟨xs, gs, h1, h2, h3⟩ := h
    exact ⟨xs, gs, h1, fun p hp => ⟨(h2 p hp).1, (h2 p hp).2.ctx⟩, h3⟩
end

/-! ### what a call owes -/
inductive Out where
  | ok (d : D) (os : List D) | exc (C : Str) (fs : List (Str × D)) (os : List D) | bad
def pick {α : Type} : List Bool → List (Option α) → Option (List α)
  | [], _ => some []
  | true :: ms, some x :: r => (pick ms r).map (x :: ·)
  | false :: ms, _ :: r => pick ms r
  | _, _ => none
theorem pick_map {α β : Type} (f : α → β) : ∀ (ms : List Bool) (r : List (Option α)), pick ms (r.map (Option.map f)) = (pick ms r).map (List.map f)
  | [], r => rfl
  | true :: ms, [] => rfl
  | true :: ms, none :: r => rfl
  | true :: ms, some x :: r => by
    show (pick ms (r.map (Option.map f))).map (f x :: ·) = ((pick ms r).map (x :: ·)).map (List.map f)
    rw [pick_map f ms r]
    cases pick ms r <;> rfl
  | false :: ms, [] => rfl
  | false :: ms, o :: r => by
    show pick ms (r.map (Option.map f)) = (pick ms r).map (List.map f)
    exact pick_map f ms r
theorem pick_sub {q : Mk} : ∀ {ms : List Bool} {r : AR} {ys : List A}, pick ms r = some ys → (adrL q ys).Sublist (adrR q r)
  | [], r, ys, h => by cases h; exact List.nil_sublist _
  | true :: ms, [], ys, h => by cases h
  | true :: ms, none :: r, ys, h => by cases h
  | true :: ms, some x :: r, ys, h => by
    have h : (pick ms r).map (x :: ·) = some ys := h
    cases e : pick ms r with
    | none => rw [e] at h; cases h
    | some zs =>
      rw [e] at h; cases h
      exact (List.Sublist.refl (adr q x)).append (pick_sub e)
  | false :: ms, [], ys, h => by cases h
  | false :: ms, o :: r, ys, h => by
    have h : pick ms r = some ys := h
    exact (pick_sub h).trans (List.sublist_append_right (adrO q o) _)
theorem pick_mem {α : Type} : ∀ {ms : List Bool} {r : List (Option α)} {ys : List α}, pick ms r = some ys → ∀ y ∈ ys, some y ∈ r
  | [], r, ys, h => by cases h; exact fun _ z => (by cases z)
  | true :: ms, [], ys, h => by cases h
  | true :: ms, none :: r, ys, h => by cases h
  | true :: ms, some x :: r, ys, h => by
    have h : (pick ms r).map (x :: ·) = some ys := h
    cases e : pick ms r with
    | none => rw [e] at h; cases h
    | some zs =>
      rw [e] at h; cases h
      intro y hy
      rcases List.mem_cons.mp hy with rfl | hy
      · exact List.mem_cons_self
      · exact List.mem_cons_of_mem _ (pick_mem e y hy)
  | false :: ms, [], ys, h => by cases h
  | false :: ms, o :: r, ys, h => by
    have h : pick ms r = some ys := h
    exact fun y hy => List.mem_cons_of_mem _ (pick_mem h y hy)
/-- the values of the picked ones -/
def fixOf : Nat → List Bool → List A → List (Nat × V)
  | i, true :: ms, x :: xs => (i, val x) :: fixOf (i + 1) ms xs
  | i, false :: ms, _ :: xs => fixOf (i + 1) ms xs
  | _, _, _ => []
theorem fix_at : ∀ {i : Nat} {ms : List Bool} {as : List A}, ∀ p ∈ fixOf i ms as, ∃ j x, p.1 = i + j ∧ as[j]? = some x ∧ p.2 = val x ∧ ms[j]? = some true
  | i, [], as, p, h => by cases h
  | i, true :: ms, [], p, h => by cases h
  | i, false :: ms, [], p, h => by cases h
  | i, true :: ms, x :: xs, p, h => by
    rcases List.mem_cons.mp h with rfl | h
    · exact ⟨0, x, rfl, rfl, rfl, rfl⟩
    · obtain ⟨j, y, e1, e2, e3, e4⟩ := fix_at p h
      exact ⟨j + 1, y, by rw [e1]; omega, e2, e3, e4⟩
  | i, false :: ms, x :: xs, p, h => by
    obtain ⟨j, y, e1, e2, e3, e4⟩ := fix_at (i := i + 1) p h
    exact ⟨j + 1, y, by rw [e1]; omega, e2, e3, e4⟩
theorem pick_fix : ∀ {ms : List Bool} {as : List A} {σ : St} {ys : List V} {i : Nat}, pick ms σ = some ys → (∀ p ∈ fixOf i ms as, ∀ j, p.1 = i + j → σ[j]? = some (some p.2)) → ms.length ≤ as.length → pick ms (as.map fun x => some (val x)) = some ys
  | [], as, σ, ys, i, h, _, _ => by cases h; rfl
  | m :: ms, [], σ, ys, i, _, _, hl => absurd hl (by simp)
  | true :: ms, a :: as, [], ys, i, h, _, _ => by cases h
  | true :: ms, a :: as, none :: σ, ys, i, h, _, _ => by cases h
  | true :: ms, a :: as, some v :: σ, ys, i, h, k, hl => by
    have h : (pick ms σ).map (v :: ·) = some ys := h
    cases e : pick ms σ with
    | none => rw [e] at h; cases h
    | some zs =>
      rw [e] at h; cases h
      have e0 : v = val a := Option.some.inj (Option.some.inj (k _ List.mem_cons_self 0 rfl))
      subst e0
      have ih := pick_fix (i := i + 1) (as := as) e (fun p hp j ej => k p (List.mem_cons_of_mem _ hp) (j + 1) (by rw [ej]; omega)) (Nat.le_of_succ_le_succ hl)
      show (pick ms (as.map fun x => some (val x))).map (val a :: ·) = _
      rw [ih]; rfl
  | false :: ms, a :: as, [], ys, i, h, _, _ => by cases h
  | false :: ms, a :: as, o :: σ, ys, i, h, k, hl => by
    have h : pick ms σ = some ys := h
    exact pick_fix (i := i + 1) (as := as) h (fun p hp j ej => k p hp (j + 1) (by rw [ej]; omega)) (Nat.le_of_succ_le_succ hl)

/-- behind a call -/
structure Done (X : Ctx) (ms : List Bool) (F H : Hp) (as : List A) (F' H' : Hp) (ys : List A) (os : List D) : Prop where
  same : ∀ a u, a ∉ adrL .o as → H a = some u → H' a = some u
  fs : ∀ a u, F a = some u → F' a = some u
  fr : ∀ a, F a = none → F' a ≠ none → H a = none ∨ a ∈ adrL .o as
  there : ∀ a, H a ≠ none → H' a ≠ none
  sub : Sub F' H'
  ok : OkL X F' H' ys
  er : ys.map er = os
  val : pick ms (as.map fun x => some (val x)) = some (ys.map val)
  nd : (adrL .o ys).Nodup
  ow : ∀ a ∈ adrL .o ys, H a = none ∨ a ∈ adrL .o as
  nob : allL notB ys = true
/-- what a call gives -/
structure Gives (X : Ctx) (H : Hp) (as : List A) (F' H' : Hp) (ys : List A) (z : A) : Prop where
  ok : Ok X F' H' z
  nob : z.nob = true
  nd : (own z).Nodup
  out : ∀ a ∈ own z, a ∉ adrL .o ys
  ow : ∀ a ∈ own z, H a = none ∨ a ∈ adrL .o as
/-- a def: how many parameters, which of them it may change, what it does -/
structure Fc where
  np : Nat
  ms : List Bool
  fn : List D → Out
/-- a def's promise -/
def spM (K : PySem.W.Frag) (cf : Str → Addr) (c : Fc) : Sp := fun vs H Q E => ∃ (F : Hp) (as : List A), as.map val = vs ∧ Sub F H ∧ OkL ⟨K, cf, [], [], []⟩ F H as ∧ (adrL .o as).Nodup ∧ (∀ b ∈ adrL .b as, b ∉ adrL .o as) ∧ as.length = c.np ∧
  match c.fn (as.map er) with
  | .bad => False
  | .ok d os => ∀ F' H' ys z, Done ⟨K, cf, [], [], []⟩ c.ms F H as F' H' ys os → Gives ⟨K, cf, [], [], []⟩ H as F' H' ys z → er z = d → Q (val z) H'
  | .exc n fs os => ∀ F' H' ys dx, Done ⟨K, cf, [], [], []⟩ c.ms F H as F' H' ys os → XOk ⟨K, cf, [], [], []⟩ F' H' dx fs → E (.ref (cf n)) dx H'
def fin (ms : List Bool) (d : D) (ρ : Env) : Out := match pick ms ρ with
  | some os => if d.nob = true ∧ allL notB os = true then .ok d os else .bad
  | none => .bad
def finX (ms : List Bool) (n : Str) (fs : List (Str × D)) (ρ : Env) : Out := match pick ms ρ with
  | some os => if allL notB os = true then .exc n fs os else .bad
  | none => .bad
/-- a def by its body: n names -/
def runF (ms : List Bool) (n : Nat) (g : Sv) (ds : List D) : Out := match g (ds.map some ++ List.replicate (n - ds.length) none) with
  | .nx ρ => fin ms .non ρ
  | .ret d ρ => fin ms d ρ
  | .exc c fs ρ => finX ms c fs ρ
  | _ => .bad
theorem adrR_app {q : Mk} {r r' : AR} : adrR q (r ++ r') = adrR q r ++ adrR q r' := by unfold adrR; rw [List.flatMap_append]
theorem adrR_some {q : Mk} : ∀ {as : List A}, adrR q (as.map some) = adrL q as
  | [] => rfl
  | a :: as => by
    show adr q a ++ adrR q (as.map some) = _
    rw [adrR_some]; rfl
theorem adrR_none {q : Mk} : ∀ {n : Nat}, adrR q (List.replicate n none) = []
  | 0 => rfl
  | n + 1 => by
    show adrO q none ++ adrR q (List.replicate n none) = _
    rw [adrR_none]; rfl
theorem adrR_start {q : Mk} {as : List A} {n : Nat} : adrR q (as.map some ++ List.replicate n none) = adrL q as := by rw [adrR_app, adrR_some, adrR_none, List.append_nil]
section
variable {P : Program} {w : World} {K : PySem.W.Frag} {mg : Str → Option Value} {base : Heap} {cf : Str → Addr}
theorem done_of {fx : List (Nat × V)} {ms : List Bool} {F H : Hp} {as : List A} {n : Nat} {F' H' : Hp} {r' : AR} {σ' : St} {ρ' : Env} {os : List D} (hms : ms.length ≤ as.length) (efx : fx = fixOf 0 ms as)
    (g : GrowS F H (as.map some ++ List.replicate n none) F' H' r') (s : Stt ⟨K, cf, fx, cs, kn⟩ F' H' r' σ') (e : erR r' = ρ') (hp : pick ms ρ' = some os) (nb : allL notB os = true) :
    ∃ ys, Done ⟨K, cf, [], [], []⟩ ms F H as F' H' ys os ∧ ∀ a, a ∉ adrR .o r' → a ∉ adrL .o ys := by
  subst efx
  rw [← e] at hp
  unfold erR at hp
  rw [pick_map] at hp
  cases hy : pick ms r' with
  | none => rw [hy] at hp; cases hp
  | some ys =>
    rw [hy] at hp
    have ey : ys.map er = os := Option.some.inj hp
    have sl := pick_sub (q := .o) hy
    have ro : ∀ q, adrR q (as.map some ++ List.replicate n none) = adrL q as := fun q => adrR_start
    refine ⟨ys, ⟨fun a u ha h => g.same a u (by rw [ro]; exact ha) h, g.fs, fun a h h' => (by have := g.fr a h h'; rwa [ro] at this), g.there, s.sub, ?_, ey, ?_, s.nd.sublist sl, fun a ha => (by have := g.ow a (sl.subset ha); rwa [ro] at this), ?_⟩, fun a ha h => ha (sl.subset h)⟩
    · exact OkL_iff.mpr fun y hym => (s.ok y (pick_mem hy y hym)).ctx
    · refine pick_fix (i := 0) (σ := σ') ?_ (fun p hp j ej => ?_) hms
      · rw [s.val]; unfold valR; rw [pick_map, hy]; rfl
      · have := s.fx p hp
        rw [ej, Nat.zero_add] at this
        exact this
    · rw [← nb, ← ey, ← mapL_eq]; exact (allL_mapL _ _ ys).symm
/-- a def by its body -/
theorem fn_ok {x qual : Str} {st : Stmt} {f : Addr} {fd : FuncData} {N ps : List Str} {k : Nat} {ms : List Bool} {g : Sv} {dvs : List V} {kws : List (Str × V)} (Fu : FunD K x qual (defArgs st) (defBody st) (defScope st) dvs kws f fd) (S : FnScope N ps (defScope st)) (hms : ms.length ≤ ps.length)
    (hbody : ∀ (fx : List (Nat × V)) (cdv : Value) (A : Around) (outer : List PySem.Env) (s : Shared) (H : Hp) (E : XK), Room k (A.deeper (envOfC qual (defScope st) s.heap.objs.size f cdv)) → (∀ p ∈ fx, ms[p.1]? = some true) →
      CSs ⟨cf, fx, [], []⟩ (cxOf (L2.CX P w) P w K mg base N qual (defScope st) f cdv A outer s H E) (fun cls d _ H' => E cls d H') (defBody st) g) : FnOk P w K mg base (L2.CX P w) (k + 1) f fd ps (spM K cf ⟨ps.length, ms, runF ms N.length g⟩) := by
  refine FunD.ok (CX := L2.CX P w) Fu S (fun vs H Q E ⟨F, as, ev, _, _, _, _, hl, _⟩ => by rw [← ev, List.length_map, hl]) fun cdv A outer s H vs Q E hr ⟨F, as, ev, sub, okas, nda, bda, hl, hq⟩ => ?_
  have hl : as.length = ps.length := hl
  have hb := (hbody (fixOf 0 ms as) cdv A outer s H E hr fun p hp => by
    obtain ⟨j, y, e1, _, _, e4⟩ := fix_at p hp
    rw [e1, Nat.zero_add]; exact e4).run ((as.map er).map some ++ List.replicate (N.length - (as.map er).length) none)
  refine ⟨_, hb, F, as.map some ++ List.replicate (N.length - as.length) none, ⟨?_, fun y hy => ?_, by rw [adrR_start]; exact nda, by rw [adrR_start, adrR_start]; exact bda, sub, fun p hp => ?_, ⟨fun _ z => (by cases z), fun _ z => (by cases z)⟩⟩, ?_, ?_⟩
  · unfold L2.start valR
    rw [← ev, List.map_append, List.map_map, List.map_map, List.length_map]
    congr 1
    rw [List.map_replicate]; rfl
  · rcases List.mem_append.mp hy with h | h
    · obtain ⟨z, hz, e⟩ := List.mem_map.mp h
      cases e
      exact (OkL_iff.mp okas y hz).ctx
    · have := (List.mem_replicate.mp h).2
      cases this
  · obtain ⟨j, y, e1, e2, e3, _⟩ := fix_at p hp
    have hj : j < as.length := (List.getElem?_eq_some_iff.mp e2).1
    unfold L2.start
    rw [← ev, e1, Nat.zero_add, List.getElem?_append_left (by rw [List.length_map, List.length_map]; exact hj), List.getElem?_map, List.getElem?_map, e2, e3]; rfl
  · unfold erR
    rw [List.map_append, List.map_map, List.map_map, List.length_map]
    congr 1
    rw [List.map_replicate]; rfl
  · have hms' : ms.length ≤ as.length := by rw [hl]; exact hms
    have hq : match runF ms N.length g (as.map er) with
      | .bad => False
      | .ok d os => ∀ F' H' ys z, Done ⟨K, cf, [], [], []⟩ ms F H as F' H' ys os → Gives ⟨K, cf, [], [], []⟩ H as F' H' ys z → er z = d → Q (val z) H'
      | .exc n fs os => ∀ F' H' ys dx, Done ⟨K, cf, [], [], []⟩ ms F H as F' H' ys os → XOk ⟨K, cf, [], [], []⟩ F' H' dx fs → E (.ref (cf n)) dx H' := hq
    unfold runF at hq
    have ro : adrR .o (as.map some ++ List.replicate (N.length - as.length) none) = adrL .o as := adrR_start
    cases hg : g ((as.map er).map some ++ List.replicate (N.length - (as.map er).length) none) with
    | bad => rw [hg] at hq; exact hq
    | bk ρ' => rw [hg] at hq; exact hq.elim
    | ct ρ' => rw [hg] at hq; exact hq.elim
    | nx ρ' =>
      rw [hg] at hq
      dsimp only [fin] at hq
      cases hp : pick ms ρ' with
      | none => rw [hp] at hq; exact hq.elim
      | some os =>
        rw [hp] at hq
        dsimp only at hq
        by_cases hc : (T.non : D).nob = true ∧ allL notB os = true
        · rw [if_pos hc] at hq
          intro F' H' r' σ' g' s' e'
          obtain ⟨ys, dn, out⟩ := done_of hms' rfl g' s' e' hp hc.2
          exact hq F' H' ys .non dn ⟨trivial, rfl, List.nodup_nil, fun _ z => (by cases z), fun _ z => (by cases z)⟩ rfl
        · rw [if_neg hc] at hq; exact hq.elim
    | ret d ρ' =>
      rw [hg] at hq
      dsimp only [fin] at hq
      cases hp : pick ms ρ' with
      | none => rw [hp] at hq; exact hq.elim
      | some os =>
        rw [hp] at hq
        dsimp only at hq
        by_cases hc : d.nob = true ∧ allL notB os = true
        · rw [if_pos hc] at hq
          intro F' H' r' σ' z g' s' e' v ow ez
          obtain ⟨ys, dn, out⟩ := done_of hms' rfl g' s' e' hp hc.2
          refine hq F' H' ys z dn ⟨v.ok.ctx, by rw [← hc.1, ← ez]; exact (T.all_map _ _ z).symm, v.nd, fun a ha => out a (v.out a ha), fun a ha => ?_⟩ ez
          have := ow a ha
          rwa [ro] at this
        · rw [if_neg hc] at hq; exact hq.elim
    | exc n fs ρ' =>
      rw [hg] at hq
      dsimp only [finX] at hq
      cases hp : pick ms ρ' with
      | none => rw [hp] at hq; exact hq.elim
      | some os =>
        rw [hp] at hq
        dsimp only at hq
        by_cases hc : allL notB os = true
        · rw [if_pos hc] at hq
          intro F' H' r' σ' dx g' s' e' x
          obtain ⟨ys, dn, out⟩ := done_of hms' rfl g' s' e' hp hc
          exact hq F' H' ys dx dn x.ctx
        · rw [if_neg hc] at hq; exact hq.elim
end
end Vl
/-! The value layer, 19: calls in expressions. -/
namespace Vl
open PySem PySem.Spec PyProof.Rows L2

def Out.toR (o : Out) (ρ : Env) : R D := match o with
  | .ok d _ => .ok d ρ
  | .exc c fs _ => .exc c fs ρ
  | .bad => .bad
/-- no node: a default -/
def leafA : A → Bool
  | .nd _ _ _ _ => false
  | _ => true
theorem leaf_ok {X : Ctx} {F H : Hp} {x : A} (h : leafA x = true) : Ok X F H x := by cases x <;> first | trivial | cases h
theorem leaf_adr {q : Mk} {x : A} (h : leafA x = true) : adr q x = [] := by cases x <;> first | rfl | cases h
theorem leafs_adr {q : Mk} : ∀ {xs : List A}, xs.all leafA = true → adrL q xs = []
  | [], _ => rfl
  | x :: xs, h => by
    rw [List.all_cons, Bool.and_eq_true] at h
    rw [adrL, leaf_adr h.1, leafs_adr h.2]; rfl
theorem adrL_app {q : Mk} {xs ys : List A} : adrL q (xs ++ ys) = adrL q xs ++ adrL q ys := by rw [adrL_eq, adrL_eq, adrL_eq, List.flatMap_append]
/-- the call of c on the arguments -/
def E.call (c : Fc) (dd : List A) (fa : Env → R (List D)) : Ev := fun ρ => (fa ρ).bind fun ds ρ1 => if ds.length + dd.length = c.np then (c.fn (ds ++ dd.map er)).toR ρ1 else .bad
section
variable {ca : Ca} {C : Cx} {W : WX} {F F1 F' H H1 H' : Hp} {r r1 : AR} {σ : St} {ρ1 : Env} {xs : List A}
theorem call_back {X0 : Ctx} {ms : List Bool} {ys : List A} {os : List D} {X : Ctx} (s0 : Stt X F H r σ) (g1 : Grow F H r F1 H1 r1) (s1 : Stt X F1 H1 r1 σ) (new : ∀ a ∈ adrL .o xs, H a = none) (dn : Done X0 ms F1 H1 xs F' H' ys os) : Grow F H r F' H' r1 ∧ Stt X F' H' r1 σ := by
  have hb : ∀ a, H a ≠ none → a ∉ adrL .o xs := fun a h h' => h (new a h')
  have hs : ∀ a, H1 a = none → H a = none := fun a h => by
    cases e : H a with
    | none => rfl
    | some u => rw [g1.same a u e] at h; cases h
  refine ⟨⟨fun a u h => dn.same a u (hb a (by rw [h]; exact fun z => by cases z)) (g1.same a u h), fun a u h => dn.fs a u (g1.fs a u h), fun a h h' => ?_, g1.ow, g1.bo, g1.un⟩, s1.keep dn.fs (fun a ha => ?_) (fun b hb' u hu => dn.same b u (hb b (s0.bor_there ((g1.bo b).mp hb'))) hu) dn.sub⟩
  · cases e : F1 a with
    | some u => exact g1.fr a h (by rw [e]; exact fun z => by cases z)
    | none =>
      rcases dn.fr a e h' with q | q
      · exact .inl (hs a q)
      · exact .inl (new a q)
  · have h0 := (s0.own_there (g1.ow a ha)).1
    obtain ⟨h1, h2⟩ := s1.own_there ha
    refine ⟨?_, ?_⟩
    · cases e : H1 a with
      | none => exact absurd e h1
      | some u => exact dn.same a u (hb a h0) e
    · cases e : F' a with
      | none => rfl
      | some u =>
        rcases dn.fr a h2 (by rw [e]; exact fun z => by cases z) with q | q
        · exact absurd q h1
        · exact absurd q (hb a h0)
theorem call_sp {c : Fc} {Q : VK} (s0 : Stt (cx ca C) F H r σ) (g1 : Grow F H r F1 H1 r1) (s1 : Stt (cx ca C) F1 H1 r1 σ) (e1 : erR r1 = ρ1) (ok : OkL (cx ca C) F1 H1 xs) (nd : (adrL .o xs).Nodup) (new : ∀ a ∈ adrL .o xs, H a = none)
    (bo : ∀ b ∈ adrL .b xs, b ∈ adrR .o r ∨ b ∈ adrR .b r) (hl : xs.length = c.np) (p : PostE (cx ca C) W σ F H r ((c.fn (xs.map er)).toR ρ1) Q) : spM C.K ca.f c (xs.map val) H1 Q (WE W σ) := by
  refine ⟨F1, xs, rfl, s1.sub, ok.ctx, nd, fun b hb h => ?_, hl, ?_⟩
  · have h0 := new b h
    rcases bo b hb with q | q
    · exact (s0.own_there q).1 h0
    · exact s0.bor_there q h0
  · have hs : ∀ a, H1 a = none → H a = none := fun a h => by
      cases e : H a with
      | none => rfl
      | some u => rw [g1.same a u e] at h; cases h
    cases hf : c.fn (xs.map er) with
    | bad => rw [hf] at p; exact p
    | ok d os =>
      rw [hf] at p
      intro F' H' ys z dn gv ez
      obtain ⟨g, s⟩ := call_back s0 g1 s1 new dn
      exact p F' H' r1 z g s e1 gv.ok.ctx ez ⟨gv.nd, fun a ha => (gv.ow a ha).elim (hs a) (new a), fun b hb => (by have q0 : bor z = [] := nob_bor gv.nob; rw [q0] at hb; cases hb)⟩
    | exc n fs os =>
      rw [hf] at p
      intro F' H' ys dx dn x
      obtain ⟨g, s⟩ := call_back s0 g1 s1 new dn
      exact p F' H' r1 dx g s e1 x.ctx
theorem OkL.leafs {X : Ctx} {F H : Hp} {xs dd : List A} (h : OkL X F H xs) (hd : dd.all leafA = true) : OkL X F H (xs ++ dd) := h.append (OkL_iff.mpr fun x hx => leaf_ok (List.all_eq_true.mp hd x hx))
variable {e : Expr} {es : List Expr} {fa : Env → R (List D)} {c : Fc} {dd : List A} {x : Str} {p pos : Pos} {k : Nat} {f : Addr} {fd : FuncData} {ps : List Str} {ds : List Value}
/-- what the arguments of a call owe the callee -/
theorem call_args {ρ : Env} {Q : VK} (hdd : dd.all leafA = true) (s : Stt (cx ca C) F H r σ) (e : erR r = ρ) (p : PostE (cx ca C) W σ F H r (E.call c dd fa ρ) Q) :
    PostA (cx ca C) W σ F H r (fa ρ) fun vs H1 => spM C.K ca.f c (vs ++ dd.map val) H1 Q (WE W σ) := by
  unfold E.call at p
  cases hf : fa ρ with
  | bad => rw [hf] at p; exact p
  | exc n fs ρ1 => rw [hf] at p; exact p
  | ok ds ρ1 =>
    rw [hf, R.ok_bind] at p
    intro F1 H1 r1 xs g1 s1 e1 ok1 ex1 nd1 new1 bo1
    split at p
    · rename_i hl
      have q : ∀ q, adrL q (xs ++ dd) = adrL q xs := fun q => by rw [adrL_app, leafs_adr hdd, List.append_nil]
      rw [← List.map_append]
      refine call_sp s g1 s1 e1 (ok1.leafs hdd) (by rw [q]; exact nd1) (by rw [q]; exact new1) (by rw [q]; exact bo1) (by rw [List.length_append, ← hl, ← ex1, List.length_map]) ?_
      rw [List.map_append, ex1]; exact p
    · exact p.elim
theorem ce_call (Fn : FnOk C.prog C.w C.K C.mg C.base (L2.CX C.prog C.w) k f fd ps (spM C.K ca.f c)) (hr : Room k C.A) (hg : Gl C x) (hm : C.mg x = some (.ref f)) (hk : PySem.W.keepIn C.K (.ref f) = true) (hb : Binds C.K fd ps ds) (hd : Vals (dd.map val) ds) (tk : Takes C W) (hdd : dd.all leafA = true)
    (ha : CA ca C W (e :: es) fa) (hdb : (x == ("__debug__" : Str)) = false := by decide) (he : starEach (e :: es) C.env = (false, eval e C.env) :: starEach es C.env := by rfl) (hpl : (backTo pos (starEach es C.env)).any (·.1) = false := by rfl) :
    CE ca C W (.Call (.Name x p) (e :: es) [] pos) (E.call c dd fa) := ⟨fun ρ =>
  PE.mono (pe_callSD Fn hr hg hm hk hb hd (fun σ => passAt tk σ) (ha.run ρ) hdb he hpl) fun σ H Q ⟨F, r, s, e, p⟩ => ⟨F, r, s, e, call_args hdd s e p⟩⟩
end
end Vl
/-! The value layer, 20: calls: no argument, methods, classes. -/
namespace Vl
open PySem PySem.Spec PyProof.Rows L2

section
variable {Y : Cx} {CT : CXT} {n : Nat} {g B : Addr} {gd : FuncData} {qs : List Str} {pr : Sp} {wv : List V} {wd : List Value} {Ew : St → XK} {y nm : Str} {z zp za : Pos} {e o : Expr} {es : List Expr} {to : TE} {t : TA}
/-- f() -/
theorem pe_call0M (Fn : FnOk Y.prog Y.w Y.K Y.mg Y.base CT n g gd qs pr) (room : Room n Y.A) (glob : Gl Y y) (at_ : Y.mg y = some (.ref g)) (kp : PySem.W.keepIn Y.K (.ref g) = true) (bn : Binds Y.K gd qs wd) (vl : Vals wv wd)
    (ps : ∀ σ, PassesAt CT Y σ (Ew σ)) (hdb : (y == ("__debug__" : Str)) = false := by decide) : PE Y (.Call (.Name y z) [] [] zp) (fun σ H Q => pr wv H Q (Ew σ)) :=
  ⟨fun pins s σ H Q J h => wpAny_Call_Name_kw (ld_glob J glob at_ (PySem.W.callWith_K0 J.kIn kp (run_fnSD (us := []) (vs := []) Fn room bn vl (ps σ) J .nil h)) hdb)⟩
/-- what a method's call on an object asks -/
def tOf (B : Addr) (nm : Str) (wv : List V) (pr : Sp) (Ew : St → XK) (to : TE) (t : TA) : TE := fun σ H Q => to σ H fun v H1 => ∃ a dx fs, v = .ref a ∧ H1 a = some (.ins B dx fs) ∧ fs.lookup nm = none ∧
  t σ H1 fun vs H2 => pr (v :: (vs ++ wv)) H2 Q (Ew σ)
theorem pe_methM {pl : Sem Bool} (ho : PE Y o to) (cl : Cls Y.K B) (me : Meth Y.K B nm g) (Fn : FnOk Y.prog Y.w Y.K Y.mg Y.base CT n g gd qs pr) (room : Room n Y.A) (bn : Binds Y.K gd qs wd) (vl : Vals wv wd)
    (ps : ∀ σ, PassesAt CT Y σ (Ew σ)) (ha : PA Y (e :: es) t)
    (st : starEach (e :: es) Y.env = (false, eval e Y.env) :: starEach es Y.env := by rfl) (np : (backTo zp (starEach es Y.env)).any (·.1) = false := by rfl)
    (ev : eval (.Call (.Attribute o nm za) (e :: es) [] zp) Y.env = (eval o Y.env >>= fun ov => standAt za.atName >>= fun _ => holding [ov] (getMethod ov nm pl) >>= fun fp => callWith zp fp.1 fp.2 (backTo zp (starEach (e :: es) Y.env)) (backToKw zp (keywordEach [] Y.env))) := by rfl) :
    PE Y (.Call (.Attribute o nm za) (e :: es) [] zp) (tOf B nm wv pr Ew to t) := by
  constructor
  intro pins s σ H Q J h
  apply PySem.W.methodCall_KW (pl := pl) _ ev
  apply thn (ho.run pins s σ H _ J h)
  rintro u s1 ⟨v, H1, J1, rv, a, dx, fs, rfl, ea, lk, q⟩
  have eu : u = Value.ref a := rv
  subst eu
  apply getmeth_ok J1 ea cl me lk
  refine PySem.W.callWith_K (first := [.ref a]) (h₀ := Y.base) J.ok.mod.kin me.kp (thn (ha.run zp pins s1 σ H1 _ J1 q) ?_) st np
  rintro us s2 ⟨vs, H2, J2, rs, q2⟩
  exact ⟨J2.kIn, run_fnSD (us := .ref a :: us) (vs := .ref a :: vs) Fn room bn vl (ps σ) J2 (.cons rfl rs) q2⟩
theorem pe_meth0M {pl : Sem Bool} (ho : PE Y o to) (cl : Cls Y.K B) (me : Meth Y.K B nm g) (Fn : FnOk Y.prog Y.w Y.K Y.mg Y.base CT n g gd qs pr) (room : Room n Y.A) (bn : Binds Y.K gd qs wd) (vl : Vals wv wd)
    (ps : ∀ σ, PassesAt CT Y σ (Ew σ))
    (ev : eval (.Call (.Attribute o nm za) [] [] zp) Y.env = (eval o Y.env >>= fun ov => standAt za.atName >>= fun _ => holding [ov] (getMethod ov nm pl) >>= fun fp => callWith zp fp.1 fp.2 (backTo zp (starEach [] Y.env)) (backToKw zp (keywordEach [] Y.env))) := by rfl) :
    PE Y (.Call (.Attribute o nm za) [] [] zp) (tOf B nm wv pr Ew to tNil) := by
  constructor
  intro pins s σ H Q J h
  apply PySem.W.methodCall_KW (pl := pl) _ ev
  apply thn (ho.run pins s σ H _ J h)
  rintro u s1 ⟨v, H1, J1, rv, a, dx, fs, rfl, ea, lk, q⟩
  have eu : u = Value.ref a := rv
  subst eu
  apply getmeth_ok J1 ea cl me lk
  exact PySem.W.callWith_K0 (first := [.ref a]) J1.kIn me.kp (run_fnSD (us := [.ref a]) (vs := [.ref a]) Fn room bn vl (ps σ) J1 (.cons rfl .nil) q)
/-- the class at B, made: its __init__ on a bare object -/
def tNew (B : Addr) (wv : List V) (pr : Sp) (Ew : St → XK) (t : TA) : TE := fun σ H Q => t σ H fun vs H1 => ∀ x dx, H1 x = none → H1 dx = none → dx ≠ x →
  pr (.ref x :: (vs ++ wv)) (upd (upd H1 dx (.own x)) x (.ins B dx [])) (fun v H2 => v = .non ∧ Q (.ref x) H2) (Ew σ)
theorem run_makeM {pins : List (Addr × Obj)} {σ : St} {H : Hp} {s : Shared} {Q : VK} {us : List Value} {vs : List V} (M : L2.Mk Y.K B g) (Fn : FnOk Y.prog Y.w Y.K Y.mg Y.base CT n g gd qs pr) (room : Room (n + 1) Y.A)
    (bn : Binds Y.K gd qs wd) (vl : Vals wv wd) (ps : PassesAt CT Y σ (Ew σ)) (J : Inv Y pins σ H s) (rs : Vals vs us)
    (h : ∀ x dx, H x = none → H dx = none → dx ≠ x → pr (.ref x :: (vs ++ wv)) (upd (upd H dx (.own x)) x (.ins B dx [])) (fun v H2 => v = .non ∧ Q (.ref x) H2) (Ew σ)) :
    wpAny (model Y.prog Y.w) Y.A (call (.ref B) us) (EP Y pins σ Q) Y.xe s := by
  have size : ∃ m, m = s.heap.objs.size := ⟨_, rfl⟩
  obtain ⟨m, em⟩ := size
  have hn : ∀ i, m ≤ i → H i = none := fun i hi => J.hok.fresh (by rw [← em]; exact hi)
  have q := h (m + 1) m (hn _ (Nat.le_succ m)) (hn _ (Nat.le_refl m)) (Nat.ne_of_lt (Nat.lt_succ_self m))
  subst em
  have J2 := Inv.made (C := B) J
  have rr : Vals (V.ref (s.heap.objs.size + 1) :: (vs ++ wv)) (Value.ref (s.heap.objs.size + 1) :: (us ++ wd)) := .cons rfl (rs.append vl)
  have hl := rr.length.symm.trans (Fn.len _ _ _ _ q)
  apply wpAny_call
  apply make_map (f := g) J.kIn M.makes M.init (beq_iff_eq.mp M.fn)
  have go := Fn.run _ Y.stack _ _ ⟨Value.ref (s.heap.objs.size + 1) :: us, []⟩ _ _ _ _ (room.make B us []) (J2.env0.make B us []) (bn _ (Value.ref (s.heap.objs.size + 1) :: us) J2.kIn hl) rr q
  refine codeAny_mono go fun res s' hq => ?_
  match res, hq with
  | .error e, hq => exact ps pins _ _ e s' J2 hq
  | .ok .next, hq => exact hq.elim
  | .ok .brk, hq => exact hq.elim
  | .ok .cont, hq => exact hq.elim
  | .ok (.ret u), hq =>
    obtain ⟨v, H', J3, rv, rfl, q3⟩ := J2.after hq
    exact ⟨rv, V.ref (s.heap.objs.size + 1), H', J3, rfl, q3⟩
theorem pe_makeM (M : L2.Mk Y.K B g) (Fn : FnOk Y.prog Y.w Y.K Y.mg Y.base CT n g gd qs pr) (room : Room (n + 1) Y.A) (glob : Gl Y y) (at_ : Y.mg y = some (.ref B)) (bn : Binds Y.K gd qs wd) (vl : Vals wv wd)
    (ps : ∀ σ, PassesAt CT Y σ (Ew σ)) (ha : PA Y (e :: es) t) (hdb : (y == ("__debug__" : Str)) = false := by decide)
    (st : starEach (e :: es) Y.env = (false, eval e Y.env) :: starEach es Y.env := by rfl) (np : (backTo zp (starEach es Y.env)).any (·.1) = false := by rfl) :
    PE Y (.Call (.Name y z) (e :: es) [] zp) (tNew B wv pr Ew t) := by
  constructor
  intro pins s σ H Q J h
  apply wpAny_Call_Name_kw
  apply ld_glob J glob at_ _ hdb
  refine PySem.W.callWith_K (h₀ := Y.base) J.ok.mod.kin M.kp (thn (ha.run zp pins s σ H _ J h) ?_) st np
  rintro us s1 ⟨vs, H1, J1, rs, q⟩
  exact ⟨J1.kIn, run_makeM M Fn room bn vl (ps σ) J1 rs q⟩
theorem pe_make0M (M : L2.Mk Y.K B g) (Fn : FnOk Y.prog Y.w Y.K Y.mg Y.base CT n g gd qs pr) (room : Room (n + 1) Y.A) (glob : Gl Y y) (at_ : Y.mg y = some (.ref B)) (bn : Binds Y.K gd qs wd) (vl : Vals wv wd)
    (ps : ∀ σ, PassesAt CT Y σ (Ew σ)) (hdb : (y == ("__debug__" : Str)) = false := by decide) :
    PE Y (.Call (.Name y z) [] [] zp) (tNew B wv pr Ew tNil) :=
  ⟨fun pins s σ H Q J h => wpAny_Call_Name_kw (ld_glob J glob at_ (PySem.W.callWith_K0 J.kIn M.kp (run_makeM (us := []) (vs := []) M Fn room bn vl (ps σ) J .nil h)) hdb)⟩
end
end Vl
/-! The value layer, 21: calls without arguments, methods of what is looked at, new objects. -/
namespace Vl
open PySem PySem.Spec PyProof.Rows L2

theorem lookup_none {β : Type} {m : Str} : ∀ {fs : List Str} {vs : List β}, m ∉ fs → (fs.zip vs).lookup m = none
  | [], vs, _ => by cases vs <;> rfl
  | k :: fs, [], _ => rfl
  | k :: fs, v :: vs, h => by
    rw [List.zip_cons_cons, List.lookup]
    have e : (m == k) = false := by simpa using fun z : m = k => h (by rw [z]; exact List.mem_cons_self)
    rw [e]
    exact lookup_none fun z => h (List.mem_cons_of_mem _ z)
/-- no argument -/
def A.nil : Env → R (List D) := fun ρ => .ok [] ρ
/-- o.m(..): the object is looked at -/
def E.meth (n m : Str) (c : Fc) (dd : List A) (fo : Ev) (fa : Env → R (List D)) : Ev := fun ρ => (fo ρ).bind fun o ρ1 => match o with
  | .nd (.ins n' fs) _ _ _ => if n' = n ∧ m ∉ fs then (fa ρ1).bind fun ds ρ2 => if ds.length + dd.length + 1 = c.np then (c.fn (o :: (ds ++ dd.map er))).toR ρ2 else .bad
    else .bad
  | _ => .bad
def Out.toNew (o : Out) (ρ : Env) : R D := match o with
  | .ok .non [d] => .ok d ρ
  | .exc c fs _ => .exc c fs ρ
  | _ => .bad
/-- C(..) -/
def E.make (n : Str) (c : Fc) (dd : List A) (fa : Env → R (List D)) : Ev := fun ρ => (fa ρ).bind fun ds ρ1 => if ds.length + dd.length + 1 = c.np then (c.fn (.nd (.ins n []) .o () [] :: (ds ++ dd.map er))).toNew ρ1 else .bad
section
variable {ca : Ca} {C : Cx} {W : WX} {F F1 F' H H1 H' : Hp} {r r1 : AR} {σ : St} {ρ ρ1 : Env} {xs : List A}
variable {e o : Expr} {es : List Expr} {fo : Ev} {fa : Env → R (List D)} {c : Fc} {dd : List A} {x n m : Str} {p pos apos : Pos} {k : Nat} {f : Addr} {fd : FuncData} {ps : List Str} {ds : List Value}
theorem nil_args {Q : List V → Hp → Prop} (s : Stt (cx ca C) F H r σ) (p : PostA (cx ca C) W σ F H r (A.nil ρ) Q) (e : erR r = ρ) : Q [] H :=
  p F H r [] .refl s e trivial rfl List.nodup_nil (fun _ z => (by cases z)) (fun _ z => (by cases z))
theorem ce_call0 (Fn : FnOk C.prog C.w C.K C.mg C.base (L2.CX C.prog C.w) k f fd ps (spM C.K ca.f c)) (hr : Room k C.A) (hg : Gl C x) (hm : C.mg x = some (.ref f)) (hk : PySem.W.keepIn C.K (.ref f) = true) (hb : Binds C.K fd ps ds) (hd : Vals (dd.map val) ds) (tk : Takes C W) (hdd : dd.all leafA = true)
    (hdb : (x == ("__debug__" : Str)) = false := by decide) : CE ca C W (.Call (.Name x p) [] [] pos) (E.call c dd A.nil) := ⟨fun ρ =>
  PE.mono (pe_call0M Fn hr hg hm hk hb hd (fun σ => passAt tk σ) hdb) fun σ H Q ⟨F, r, s, e, p⟩ => by
    have := call_args hdd s e p
    rw [← List.nil_append (dd.map val)]
    exact nil_args s this e⟩
/-- the object, then the arguments: together -/
theorem meth_post {B : Addr} {Q : VK} (hdd : dd.all leafA = true) (s : Stt (cx ca C) F H r σ) (e : erR r = ρ) (p : PostE (cx ca C) W σ F H r (E.meth n m c dd fo fa ρ) Q) (d : D) (hf : fo ρ = .ok d ρ1) (hB : B = ca n) :
    PostE (cx ca C) W σ F H r (fo ρ) fun v H1 => ∃ a dx fs, v = .ref a ∧ H1 a = some (.ins B dx fs) ∧ fs.lookup m = none ∧ rdA (cx ca C) W fa ρ1 σ H1 fun vs H2 => spM C.K ca.f c (v :: (vs ++ dd.map val)) H2 Q (WE W σ) := by
  subst hB
  unfold E.meth at p
  rw [hf, R.ok_bind] at p
  rw [hf]
  intro F1 H1 r1 x g1 s1 e1 ok1 ex1 v1
  split at p
  · rename_i n' fs mk u ks
    split at p
    · rename_i hc
      obtain ⟨a, zs, rfl, ez⟩ := er_nd ex1
      have at1 := ok1.at_ s1.sub
      rw [hc.1] at at1
      refine ⟨a.1, a.2, _, rfl, at1.1, lookup_none hc.2, F1, r1, s1, e1, ?_⟩
      cases ha : fa ρ1 with
      | bad => rw [ha] at p; exact p
      | exc n fs ρ2 =>
        rw [ha] at p
        exact fun F2 H2 r2 dx g2 s2 e2 x2 => p F2 H2 r2 dx (g1.trans s1 g2) s2 e2 x2
      | ok ds ρ2 =>
        rw [ha, R.ok_bind] at p
        intro F2 H2 r2 xs g2 s2 e2 ok2 ex2 nd2 new2 bo2
        split at p
        · rename_i hl
          have g12 := g1.trans s1 g2
          have n1 : ∀ b ∈ own (T.nd (.ins n' fs) mk a zs), b ∉ adrR .o r1 := fun b hb hr1 => (s.own_there (g1.ow b hr1)).1 (v1.new b hb)
          have okx := ok1.grow s1 n1 g2
          have hs : ∀ a, H1 a = none → H a = none := fun a h => by
            cases e : H a with
            | none => rfl
            | some u => rw [g1.same a u e] at h; cases h
          have q : ∀ q, adrL q (T.nd (.ins n' fs) mk a zs :: (xs ++ dd)) = adr q (T.nd (.ins n' fs) mk a zs) ++ adrL q xs := fun q => by rw [adrL, adrL_app, leafs_adr hdd, List.append_nil]
          have := call_sp (c := c) (xs := T.nd (.ins n' fs) mk a zs :: (xs ++ dd)) (Q := Q) (W := W) s g12 s2 e2 ⟨okx, ok2.leafs hdd⟩ ?_ ?_ ?_ (by rw [List.length_cons, List.length_append, ← hl, ← ex2, List.length_map]) ?_
          · rw [List.map_cons, List.map_append] at this; exact this
          · rw [q]
            refine List.nodup_append.mpr ⟨v1.nd, nd2, fun b hb b2 hb2 e => ?_⟩
            subst e
            exact (ok1.own_there b hb).1 (new2 b hb2)
          · rw [q]
            intro b hb
            rcases List.mem_append.mp hb with h | h
            · exact v1.new b h
            · exact hs b (new2 b h)
          · rw [q]
            intro b hb
            rcases List.mem_append.mp hb with h | h
            · exact v1.bo b h
            · exact (bo2 b h).imp (g1.ow b) (g1.bo b).mp
          · rw [List.map_cons, List.map_append, ex2, ex1]; exact p
        · exact p.elim
    · exact p.elim
  · exact p.elim
theorem ce_meth (cl : Cls C.K (ca n)) (me : Meth C.K (ca n) m f) (Fn : FnOk C.prog C.w C.K C.mg C.base (L2.CX C.prog C.w) k f fd ps (spM C.K ca.f c)) (hr : Room k C.A) (hb : Binds C.K fd ps ds) (hd : Vals (dd.map val) ds) (tk : Takes C W) (hdd : dd.all leafA = true) {pl : Sem Bool}
    (ho : CE ca C W o fo) (ha : CA ca C W (e :: es) fa) (he : starEach (e :: es) C.env = (false, eval e C.env) :: starEach es C.env := by rfl) (hpl : (backTo pos (starEach es C.env)).any (·.1) = false := by rfl)
    (ht : eval (.Call (.Attribute o m apos) (e :: es) [] pos) C.env = (eval o C.env >>= fun ov => standAt apos.atName >>= fun _ => holding [ov] (getMethod ov m pl) >>= fun fp => callWith pos fp.1 fp.2 (backTo pos (starEach (e :: es) C.env)) (backToKw pos (keywordEach [] C.env))) := by rfl) :
    CE ca C W (.Call (.Attribute o m apos) (e :: es) [] pos) (E.meth n m c dd fo fa) := ⟨fun ρ => by
  cases hf : fo ρ with
  | bad => exact PE.mono pe_false fun σ H Q ⟨F, r, s, e, p⟩ => by unfold E.meth at p; rw [hf] at p; exact p
  | exc c' fs ρ1 =>
    refine PE.mono (pe_methM (pl := pl) (t := rdA (cx ca C) W fa ρ1) (ho.run ρ) cl me Fn hr hb hd (fun σ => passAt tk σ) (ha.run ρ1) he hpl ht) fun σ H Q ⟨F, r, s, e, p⟩ => ⟨F, r, s, e, ?_⟩
    unfold E.meth at p; rw [hf] at p ⊢; exact p
  | ok d ρ1 => exact PE.mono (pe_methM (pl := pl) (ho.run ρ) cl me Fn hr hb hd (fun σ => passAt tk σ) (ha.run ρ1) he hpl ht) fun σ H Q ⟨F, r, s, e, p⟩ => ⟨F, r, s, e, meth_post hdd s e p d hf rfl⟩⟩
theorem ce_meth0 (cl : Cls C.K (ca n)) (me : Meth C.K (ca n) m f) (Fn : FnOk C.prog C.w C.K C.mg C.base (L2.CX C.prog C.w) k f fd ps (spM C.K ca.f c)) (hr : Room k C.A) (hb : Binds C.K fd ps ds) (hd : Vals (dd.map val) ds) (tk : Takes C W) (hdd : dd.all leafA = true) {pl : Sem Bool}
    (ho : CE ca C W o fo)
    (ht : eval (.Call (.Attribute o m apos) [] [] pos) C.env = (eval o C.env >>= fun ov => standAt apos.atName >>= fun _ => holding [ov] (getMethod ov m pl) >>= fun fp => callWith pos fp.1 fp.2 (backTo pos (starEach [] C.env)) (backToKw pos (keywordEach [] C.env))) := by rfl) :
    CE ca C W (.Call (.Attribute o m apos) [] [] pos) (E.meth n m c dd fo A.nil) := ⟨fun ρ => by
  refine PE.mono (pe_meth0M (pl := pl) (ho.run ρ) cl me Fn hr hb hd (fun σ => passAt tk σ) ht) fun σ H Q ⟨F, r, s, e, p⟩ => ⟨F, r, s, e, ?_⟩
  cases hf : fo ρ with
  | bad => unfold E.meth at p; rw [hf] at p; exact p
  | exc c' fs ρ1 => unfold E.meth at p; rw [hf] at p; exact p
  | ok d ρ1 =>
    have := meth_post hdd s e p d hf rfl
    rw [hf] at this
    intro F1 H1 r1 x g1 s1 e1 ok1 ex1 v1
    obtain ⟨a, dx, fs, h1, h2, h3, F2, r2, s2, e2, h4⟩ := this F1 H1 r1 x g1 s1 e1 ok1 ex1 v1
    exact ⟨a, dx, fs, h1, h2, h3, nil_args s2 h4 e2⟩⟩
theorem make_post {Q : VK} (hms : c.ms = [true]) (hdd : dd.all leafA = true) (s : Stt (cx ca C) F H r σ) (e : erR r = ρ) (p : PostE (cx ca C) W σ F H r (E.make n c dd fa ρ) Q) :
    PostA (cx ca C) W σ F H r (fa ρ) fun vs H1 => ∀ x dx, H1 x = none → H1 dx = none → dx ≠ x → spM C.K ca.f c (.ref x :: (vs ++ dd.map val)) (upd (upd H1 dx (.own x)) x (.ins (ca n) dx [])) (fun v H2 => v = .non ∧ Q (.ref x) H2) (WE W σ) := by
  unfold E.make at p
  cases hf : fa ρ with
  | bad => rw [hf] at p; exact p
  | exc n fs ρ1 => rw [hf] at p; exact p
  | ok ds ρ1 =>
    rw [hf, R.ok_bind] at p
    intro F1 H1 r1 xs g1 s1 e1 ok1 ex1 nd1 new1 bo1 x dx hx hdx hne
    split at p
    · rename_i hl
      have f0 : ∀ q, H1 q = none → F1 q = none := fun q h => by
        cases e : F1 q with
        | none => rfl
        | some u =>
          rcases s1.sub q u e with z | ⟨ob, kvs, _, z⟩
          · rw [h] at z; cases z
          · rw [h] at z; cases z
      have up : ∀ q u, H1 q = some u → upd (upd H1 dx (.own x)) x (.ins (ca n) dx []) q = some u := fun q u h => by
        rw [upd_ne (fun z => by rw [z, hx] at h; cases h), upd_ne (fun z => by rw [z, hdx] at h; cases h)]; exact h
      have hs : ∀ a, H1 a = none → H a = none := fun a h => by
        cases e : H a with
        | none => rfl
        | some u => rw [g1.same a u e] at h; cases h
      have ro : ∀ a ∈ adrR .o r1, H1 a ≠ none := fun a ha => (s1.own_there ha).1
      have sub1 : Sub F1 (upd (upd H1 dx (.own x)) x (.ins (ca n) dx [])) := fun q u h => (s1.sub q u h).imp (up q u) fun ⟨ob, kvs, z1, z2⟩ => ⟨ob, kvs, z1, up q _ z2⟩
      have s1' : Stt (cx ca C) F1 (upd (upd H1 dx (.own x)) x (.ins (ca n) dx [])) r1 σ := s1.grow0 up (fun _ _ h => h) (fun _ h h' => absurd h h') sub1
      have g1' : Grow F H r F1 (upd (upd H1 dx (.own x)) x (.ins (ca n) dx [])) r1 := ⟨fun a u h => up a u (g1.same a u h), g1.fs, g1.fr, g1.ow, g1.bo, g1.un⟩
      have oks : OkL (cx ca C) F1 (upd (upd H1 dx (.own x)) x (.ins (ca n) dx [])) xs := ok1.same (fun _ _ h => h) up fun a ha => (ok1.own_there a ha).2
      have okn : Ok (cx ca C) F1 (upd (upd H1 dx (.own x)) x (.ins (ca n) dx [])) (.nd (.ins n []) .o (x, dx) []) := by
        refine ⟨⟨⟨rfl, List.nodup_nil⟩, ⟨upd_same, ?_⟩, fun q hq => ?_, rfl⟩, trivial⟩
        · show upd (upd H1 dx (.own x)) x (.ins (ca n) dx []) dx = some (.own x)
          rw [upd_ne hne, upd_same]
        · have hq : q = x ∨ q = dx := by simpa [ndA] using hq
          rcases hq with rfl | rfl
          · exact f0 _ hx
          · exact f0 _ hdx
      have q : ∀ q, adrL q (T.nd (.ins n []) .o (x, dx) [] :: (xs ++ dd)) = adr q (T.nd (.ins n []) .o (x, dx) []) ++ adrL q xs := fun q => by rw [adrL, adrL_app, leafs_adr hdd, List.append_nil]
      have qo : own (T.nd (.ins n []) .o (x, dx) []) = [x, dx] := rfl
      have qb : bor (T.nd (.ins n []) .o (x, dx) []) = [] := rfl
      have newA : ∀ a ∈ adrL .o (T.nd (.ins n []) .o (x, dx) [] :: (xs ++ dd)), H a = none := fun a ha => by
        rw [q] at ha
        rcases List.mem_append.mp ha with h | h
        · have h : a ∈ own (T.nd (.ins n []) .o (x, dx) []) := h
          rw [qo] at h
          have h : a = x ∨ a = dx := by simpa using h
          rcases h with rfl | rfl
          · exact hs _ hx
          · exact hs _ hdx
        · exact new1 a h
      refine ⟨F1, .nd (.ins n []) .o (x, dx) [] :: (xs ++ dd), by rw [List.map_cons, List.map_append]; rfl, sub1, OkL.ctx (fx := ca.fix) ⟨okn, oks.leafs hdd⟩, ?_, fun b hb h => ?_, by rw [List.length_cons, List.length_append, ← hl, ← ex1, List.length_map], ?_⟩
      · rw [q]
        have h : own (T.nd (.ins n []) .o (x, dx) []) = [x, dx] := rfl
        show (own (T.nd (.ins n []) .o (x, dx) []) ++ adrL .o xs).Nodup
        rw [h]
        refine List.nodup_append.mpr ⟨by simpa using hne.symm, nd1, fun b hb b2 hb2 e => ?_⟩
        subst e
        have t := (ok1.own_there b hb2).1
        have hb : b = x ∨ b = dx := by simpa using hb
        rcases hb with rfl | rfl
        · exact t hx
        · exact t hdx
      · have h0 := newA b h
        rw [q] at hb
        have hb : b ∈ bor (T.nd (.ins n []) .o (x, dx) []) ++ adrL .b xs := hb
        rw [qb, List.nil_append] at hb
        rcases bo1 b hb with z | z
        · exact (s.own_there z).1 h0
        · exact s.bor_there z h0
      · have ee : (T.nd (.ins n []) .o (x, dx) [] :: (xs ++ dd) : List A).map er = .nd (.ins n []) .o () [] :: (ds ++ dd.map er) := by rw [List.map_cons, List.map_append, ex1]; rfl
        have hH : ∀ a, upd (upd H1 dx (.own x)) x (.ins (ca n) dx []) a = none → H a = none := fun a h => by
          cases e : H1 a with
          | none => exact hs a e
          | some u => rw [up a u e] at h; cases h
        rw [ee]
        cases ho : c.fn (.nd (.ins n []) .o () [] :: (ds ++ dd.map er)) with
        | bad => rw [ho] at p; exact p
        | ok d os =>
          rw [ho] at p
          intro F' H' ys z dn gv ez
          unfold Out.toNew at p
          split at p
          · rename_i d2 e2
            cases e2
            cases z with
            | non =>
              have hv := dn.val
              rw [hms] at hv
              have hv : some [V.ref x] = some (ys.map val) := hv
              cases ys with
              | nil => cases hv
              | cons y ys =>
                have hv2 := List.cons.inj (Option.some.inj hv)
                cases ys with
                | cons y2 ys => cases hv2.2
                | nil =>
                  have er1 : er y = d2 := (List.cons.inj dn.er).1
                  obtain ⟨g, s2⟩ := call_back s g1' s1' newA dn
                  have ny : y.nob = true := by have := dn.nob; rw [allL, Bool.and_eq_true] at this; exact this.1
                  have ao : adrL .o [y] = own y := by rw [adrL, adrL, List.append_nil]
                  refine ⟨rfl, ?_⟩
                  rw [hv2.1]
                  exact p F' H' r1 y g s2 e1 dn.ok.1.ctx er1 ⟨by rw [← ao]; exact dn.nd, fun a ha => (dn.ow a (by rw [ao]; exact ha)).elim (hH a) (newA a), fun b hb => (by have q0 : bor y = [] := nob_bor ny; rw [q0] at hb; cases hb)⟩
            | _ => cases ez
          · rename_i h1 e2; cases e2
          · exact p.elim
        | exc n2 fs os =>
          rw [ho] at p
          intro F' H' ys dx2 dn x2
          obtain ⟨g, s2⟩ := call_back s g1' s1' newA dn
          exact p F' H' r1 dx2 g s2 e1 x2.ctx
    · exact p.elim
theorem ce_make (M : L2.Mk C.K (ca n) f) (Fn : FnOk C.prog C.w C.K C.mg C.base (L2.CX C.prog C.w) k f fd ps (spM C.K ca.f c)) (hms : c.ms = [true]) (hr : Room (k + 1) C.A) (hg : Gl C x) (hm : C.mg x = some (.ref (ca n))) (hb : Binds C.K fd ps ds) (hd : Vals (dd.map val) ds) (tk : Takes C W) (hdd : dd.all leafA = true)
    (ha : CA ca C W (e :: es) fa) (hdb : (x == ("__debug__" : Str)) = false := by decide) (he : starEach (e :: es) C.env = (false, eval e C.env) :: starEach es C.env := by rfl) (hpl : (backTo pos (starEach es C.env)).any (·.1) = false := by rfl) :
    CE ca C W (.Call (.Name x p) (e :: es) [] pos) (E.make n c dd fa) := ⟨fun ρ =>
  PE.mono (pe_makeM M Fn hr hg hm hb hd (fun σ => passAt tk σ) (ha.run ρ) hdb he hpl) fun σ H Q ⟨F, r, s, e, p⟩ => ⟨F, r, s, e, make_post hms hdd s e p⟩⟩
theorem ce_make0 (M : L2.Mk C.K (ca n) f) (Fn : FnOk C.prog C.w C.K C.mg C.base (L2.CX C.prog C.w) k f fd ps (spM C.K ca.f c)) (hms : c.ms = [true]) (hr : Room (k + 1) C.A) (hg : Gl C x) (hm : C.mg x = some (.ref (ca n))) (hb : Binds C.K fd ps ds) (hd : Vals (dd.map val) ds) (tk : Takes C W) (hdd : dd.all leafA = true)
    (hdb : (x == ("__debug__" : Str)) = false := by decide) : CE ca C W (.Call (.Name x p) [] [] pos) (E.make n c dd A.nil) := ⟨fun ρ =>
  PE.mono (pe_make0M M Fn hr hg hm hb hd (fun σ => passAt tk σ) hdb) fun σ H Q ⟨F, r, s, e, p⟩ => nil_args s (make_post hms hdd s e p) e⟩
end
end Vl
/-! The value layer, 22: list comprehensions. -/
namespace Vl
open PySem PySem.Spec PyProof.Rows L2

mutual
theorem same_tree : ∀ {x y : A}, er x = er y → x.fz = y.fz → x = y
  | .non, y, h, _ => by cases y <;> first | rfl | cases h
  | .bl _, y, h, _ => by cases y <;> first | (cases h; rfl) | cases h
  | .int _, y, h, _ => by cases y <;> first | (cases h; rfl) | cases h
  | .str _, y, h, _ => by cases y <;> first | (cases h; rfl) | cases h
  | .nd k m a xs, y, h, h' => by
    cases y with
    | nd k2 m2 a2 ys =>
      have h : T.nd k m () (mapL (fun _ => ()) xs) = T.nd k2 m2 () (mapL (fun _ => ()) ys) := h
      have h' : T.nd k .c a (mkL calm xs) = T.nd k2 .c a2 (mkL calm ys) := h'
      injection h with h1 h2 h3 h4
      injection h' with g1 g2 g3 g4
      rw [h1, h2, g3, same_trees h4 g4]
    | _ => cases h
theorem same_trees : ∀ {xs ys : List A}, mapL (fun _ => ()) xs = mapL (fun _ => ()) ys → mkL calm xs = mkL calm ys → xs = ys
  | [], ys, h, _ => by cases ys <;> first | rfl | cases h
  | x :: xs, ys, h, h' => by
    cases ys with
    | nil => cases h
    | cons y ys =>
      have h1 := List.cons.inj (show er x :: mapL (fun _ => ()) xs = er y :: mapL (fun _ => ()) ys from h)
      have h2 := List.cons.inj (show x.fz :: mkL calm xs = y.fz :: mkL calm ys from h')
      rw [same_tree h1.1 h2.1, same_trees h1.2 h2.2]
end
theorem same_env : ∀ {r r' : AR}, erR r = erR r' → fzR r = fzR r' → r = r'
  | [], r', h, _ => by cases r' <;> first | rfl | cases h
  | o :: r, r', h, h' => by
    cases r' with
    | nil => cases h
    | cons o' r' =>
      have h1 := List.cons.inj (show o.map er :: erR r = o'.map er :: erR r' from h)
      have h2 := List.cons.inj (show o.map T.fz :: fzR r = o'.map T.fz :: fzR r' from h')
      rw [same_env h1.2 h2.2]
      cases o with
      | none => cases o' with
        | none => rfl
        | some y => cases h1.1
      | some x => cases o' with
        | none => cases h1.1
        | some y => rw [same_tree (Option.some.inj h1.1) (Option.some.inj h2.1)]
def wipeL {α : Type} (l : List (Option α)) : List Nat → List (Option α)
  | [] => l
  | v :: vs => (wipeL l vs).set v none
theorem wipe_eq (σ : St) : ∀ vs : List Nat, wipe σ vs = wipeL σ vs
  | [] => rfl
  | v :: vs => by rw [wipe, wipeL, wipe_eq σ vs]
theorem wipeL_map {α β : Type} (f : α → β) (l : List (Option α)) : ∀ vs : List Nat, (wipeL l vs).map (Option.map f) = wipeL (l.map (Option.map f)) vs
  | [] => rfl
  | v :: vs => by rw [wipeL, wipeL, List.map_set, wipeL_map f l vs]; rfl
theorem wipeL_len {α : Type} (l : List (Option α)) : ∀ vs : List Nat, (wipeL l vs).length = l.length
  | [] => rfl
  | v :: vs => by rw [wipeL, List.length_set, wipeL_len l vs]
theorem wipeL_in {α : Type} (l : List (Option α)) (j : Nat) : ∀ {vs : List Nat}, j ∈ vs → (wipeL l vs)[j]? = if j < l.length then some none else none
  | v :: vs, h => by
    rw [wipeL]
    by_cases e : v = j
    · subst e
      rw [List.getElem?_set, if_pos rfl, wipeL_len]
    · rw [List.getElem?_set_ne e]
      rcases List.mem_cons.mp h with q | q
      · exact absurd q.symm e
      · exact wipeL_in l j q
theorem wipeL_out {α : Type} (l : List (Option α)) (j : Nat) : ∀ {vs : List Nat}, j ∉ vs → (wipeL l vs)[j]? = l[j]?
  | [], _ => rfl
  | v :: vs, h => by
    rw [wipeL, List.getElem?_set_ne fun e => h (by rw [e]; exact List.mem_cons_self)]
    exact wipeL_out l j fun z => h (List.mem_cons_of_mem _ z)
theorem wipe_only {σ σ2 : St} {ss vs : List Nat} (h : Only ss (wipeL σ vs) σ2) (hs : ∀ j ∈ ss, j ∈ vs) : wipeL σ2 vs = wipeL σ vs := by
  apply List.ext_getElem?
  intro j
  have hl : σ2.length = σ.length := by rw [h.1, wipeL_len]
  by_cases hj : j ∈ vs
  · rw [wipeL_in σ2 j hj, wipeL_in σ j hj, hl]
  · rw [wipeL_out σ2 j hj, h.2 j fun z => hj (hs j z)]
theorem wipeL_sub {α : Type} {l : List (Option α)} {x : α} : ∀ {vs : List Nat}, some x ∈ wipeL l vs → some x ∈ l
  | [], h => h
  | v :: vs, h => by
    rw [wipeL] at h
    rcases List.mem_or_eq_of_mem_set h with q | q
    · exact wipeL_sub q
    · cases q
section
variable {X : Ctx} {F H : Hp} {r : AR} {σ : St}
theorem adr_wipe {q : Mk} {vs : List Nat} : ∀ a ∈ adrR q (wipeL r vs), a ∈ adrR q r := fun a ha => by
  obtain ⟨x, hx, h⟩ := mem_adrR.mp ha
  exact mem_adrR.mpr ⟨x, wipeL_sub hx, h⟩
theorem nd_wipe : ∀ {vs : List Nat}, (adrR .o r).Nodup → (adrR .o (wipeL r vs)).Nodup
  | [], h => h
  | v :: vs, h => by
    have ih := nd_wipe (vs := vs) h
    rw [wipeL]
    by_cases hv : v < (wipeL r vs).length
    · exact flat_nodup (g := adrO .o) (List.getElem?_eq_getElem hv) ih List.nodup_nil (fun a ha => by cases ha)
    · rw [List.set_eq_of_length_le (Nat.le_of_not_lt hv)]; exact ih
theorem Stt.wipe {vs : List Nat} (s : Stt X F H r σ) (hfx : ∀ p ∈ X.fix, p.1 ∉ vs) : Stt X F H (wipeL r vs) (wipeL σ vs) :=
  ⟨by rw [s.val]; exact (wipeL_map Vl.val r vs).symm, fun x hx => s.ok x (wipeL_sub hx), nd_wipe s.nd, fun b hb h => s.bd b (adr_wipe b hb) (adr_wipe b h), s.sub, fun p hp => by rw [wipeL_out σ p.1 (hfx p hp)]; exact s.fx p hp, s.kn⟩
end
/-- nothing is settled on the way -/
def PureE (f : Ev) : Prop := ∀ ρ d ρ', f ρ = .ok d ρ' → ρ' = ρ
def lcL (g : Gv) (t f : Ev) (ρw : Env) : List D → Option (List D)
  | [] => some []
  | d :: ds => match g d ρw with
    | none => none
    | some ρ1 => match t ρ1 with
      | .ok (.bl true) _ => match f ρ1 with
        | .ok y _ => if y.nob = true then (lcL g t f ρw ds).map (y :: ·) else none
        | _ => none
      | .ok (.bl false) _ => lcL g t f ρw ds
      | _ => none
def E.lc (fi : Iv) (vs : List Nat) (g : Gv) (t f : Ev) : Ev := fun ρ => (fi ρ).bind fun ds ρ1 => if ds.length ≤ sizeLine then match lcL g t f (wipeL ρ1 vs) ds with
    | some ys => .ok (.nd .lst .o () ys) ρ1
    | none => .bad
  else .bad
def E.yes : Ev := fun ρ => .ok (.bl true) ρ
theorem pure_yes : PureE E.yes := fun ρ d ρ' h => by cases h; rfl
abbrev W0 : WX := fun _ _ _ _ => False
def gT (X : Ctx) (ss : List Nat) (g : Gv) : TG := fun v σ H Q => ∃ d ρ ρ', g d ρ = some ρ' ∧ rdG X ss d ρ ρ' v σ H Q
def tT (X : Ctx) (t : Ev) : TT := fun σ H Q => ∃ ρ, tTest (rdE X W0 t ρ) σ H Q
def eT (X : Ctx) (f : Ev) : TE := fun σ H Q => ∃ ρ, rdE X W0 f ρ σ H Q
section
variable {X : Ctx} {W : WX} {F F1 F3 F6 H H1 H3 H6 : Hp} {r r1 r4 : AR} {σ σ4 : St} {ρ : Env}
/-- a step beside fewer slots is a step beside all -/
theorem Stt.beside (s1 : Stt X F1 H1 r1 σ) (g1 : Grow F1 H1 r1 F3 H3 r1) (s3 : Stt X F3 H3 r1 σ) (hr : ∀ a ∈ adrR .o r4, a ∈ adrR .o r1) (g : Grow F3 H3 r4 F6 H6 r4) (s6 : Stt X F6 H6 r4 σ4) : Stt X F6 H6 r1 σ ∧ Grow F1 H1 r1 F6 H6 r1 := by
  refine ⟨s3.keep g.fs (fun a ha => ?_) (fun b hb u hu => g.same b u hu) s6.sub, ⟨fun a u h => g.same a u (g1.same a u h), fun a u h => g.fs a u (g1.fs a u h), fun a h h' => ?_, fun _ h => h, fun _ => Iff.rfl, rfl⟩⟩
  · obtain ⟨h1, h2⟩ := s3.own_there ha
    refine ⟨?_, ?_⟩
    · cases e : H3 a with
      | none => exact absurd e h1
      | some u => exact g.same a u e
    · by_cases h4 : a ∈ adrR .o r4
      · exact (s6.own_there h4).2
      · cases e : F6 a with
        | none => rfl
        | some u =>
          rcases g.fr a h2 (by rw [e]; exact fun z => by cases z) with q | q
          · exact absurd q h1
          · exact absurd q h4
  · cases e : F3 a with
    | some u => exact g1.fr a h (by rw [e]; exact fun z => by cases z)
    | none =>
      rcases g.fr a e h' with q | q
      · refine .inl ?_
        cases e2 : H1 a with
        | none => rfl
        | some u => rw [g1.same a u e2] at q; cases q
      · exact .inr (hr a q)
/-- the list that is being made -/
structure Acc (X : Ctx) (F1 H1 : Hp) (r1 : AR) (σ : St) (D : Addr) (F H : Hp) (ys : List A) : Prop where
  stt : Stt X F H r1 σ
  gr : Grow F1 H1 r1 F H r1
  at_ : H D = some (.lst (ys.map val))
  fd : F D = none
  ok : OkL X F H ys
  nd : (adrL .o ys).Nodup
  new : ∀ a ∈ adrL .o ys, H1 a = none ∧ a ≠ D
  nob : allL notB ys = true
variable {D : Addr} {ys : List A}
theorem Acc.step (a : Acc X F1 H1 r1 σ D F3 H3 ys) (s1 : Stt X F1 H1 r1 σ) (hD : H1 D = none) (hr : ∀ a ∈ adrR .o r4, a ∈ adrR .o r1) (s4 : Stt X F3 H3 r4 σ4) (g : Grow F3 H3 r4 F6 H6 r4) (s6 : Stt X F6 H6 r4 σ4) : Acc X F1 H1 r1 σ D F6 H6 ys := by
  obtain ⟨h1, h2⟩ := Stt.beside s1 a.gr a.stt hr g s6
  have nr : ∀ q, H1 q = none → q ∉ adrR .o r4 := fun q h h' => (s1.own_there (hr q h')).1 h
  refine ⟨h1, h2, g.same _ _ a.at_, ?_, OkL_iff.mpr fun y hy => (OkL_iff.mp a.ok y hy).grow s4 (fun q hq => nr q (a.new q (adrL_mem hy hq)).1) g, a.nd, a.new, a.nob⟩
  cases e : F6 D with
  | none => rfl
  | some u =>
    rcases g.fr D a.fd (by rw [e]; exact fun z => by cases z) with q | q
    · rw [a.at_] at q; cases q
    · exact absurd q (nr D hD)
theorem Acc.add {y : A} (a : Acc X F1 H1 r1 σ D F3 H3 ys) (s1 : Stt X F1 H1 r1 σ) (hD : H1 D = none) (ok : Ok X F3 H3 y) (nd : (own y).Nodup) (new : ∀ q ∈ own y, H1 q = none ∧ q ≠ D ∧ q ∉ adrL .o ys) (nb : y.nob = true) : Acc X F1 H1 r1 σ D F3 (upd H3 D (.lst (ys.map val ++ [val y]))) (ys ++ [y]) := by
  have nD : ∀ q, H1 q ≠ none → q ≠ D := fun q h e => h (by rw [e]; exact hD)
  have sub : Sub F3 (upd H3 D (.lst (ys.map val ++ [val y]))) := fun q u h => by
    rw [upd_ne (fun e => by rw [e, a.fd] at h; cases h)]; exact a.stt.sub q u h
  have st : ∀ x : A, Ok X F3 H3 x → x.nob = true → (∀ q ∈ own x, q ≠ D) → Ok X F3 (upd H3 D (.lst (ys.map val ++ [val y]))) x := fun x ox nx hx =>
    ox.keep (fun _ _ h => h) (fun q hq => ⟨upd_ne (hx q hq), (ox.own_there q hq).2⟩) (fun b hb => by have q0 : bor x = [] := nob_bor nx; rw [q0] at hb; cases hb)
  have nby := a.nob
  rw [allL_eq, List.all_eq_true] at nby
  refine ⟨a.stt.keep (fun _ _ h => h) (fun q hq => ⟨upd_ne (nD q (s1.own_there hq).1), (a.stt.own_there hq).2⟩) (fun b hb u hu => by rw [upd_ne (nD b (s1.bor_there hb))]; exact hu) sub,
    ⟨fun q u h => by rw [upd_ne (nD q (by rw [h]; exact fun z => by cases z))]; exact a.gr.same q u h, a.gr.fs, a.gr.fr, fun _ h => h, fun _ => Iff.rfl, rfl⟩, by rw [upd_same, List.map_append]; rfl, a.fd, ?_, ?_, ?_, ?_⟩
  · refine OkL_iff.mpr fun x hx => ?_
    rcases List.mem_append.mp hx with h | h
    · exact st x (OkL_iff.mp a.ok x h) (nby x h) fun q hq => (a.new q (adrL_mem h hq)).2
    · have e : x = y := by simpa using h
      subst e
      exact st x ok nb fun q hq => (new q hq).2.1
  · rw [adrL_app]
    refine List.nodup_append.mpr ⟨a.nd, by rw [adrL, adrL, List.append_nil]; exact nd, fun q hq q2 hq2 e => ?_⟩
    subst e
    rw [adrL, adrL, List.append_nil] at hq2
    exact (new q hq2).2.2 hq
  · intro q hq
    rw [adrL_app] at hq
    rcases List.mem_append.mp hq with h | h
    · exact a.new q h
    · rw [adrL, adrL, List.append_nil] at h
      exact ⟨(new q h).1, (new q h).2.1⟩
  · rw [allL_eq, List.all_append, Bool.and_eq_true, ← allL_eq]
    refine ⟨a.nob, ?_⟩
    rw [List.all_cons, List.all_nil, Bool.and_true]
    exact nb
theorem lc_main {fi : Iv} {vs ss : List Nat} {g : Gv} {t f : Ev} {Q : VK} (hfx : ∀ p ∈ X.fix, p.1 ∉ vs) (hss : ∀ j ∈ ss, j ∈ vs) (ht : PureE t) (hf : PureE f) (s : Stt X F H r σ) (e : erR r = ρ) (p : PostE X W σ F H r (E.lc fi vs g t f ρ) Q) :
    tLc (rdI X W fi ρ) (gT X ss g) (tT X t) (eT X f) vs σ H Q := by
  unfold E.lc at p
  refine ⟨F, r, s, e, ?_⟩
  cases hi : fi ρ with
  | bad => rw [hi] at p; exact p
  | exc c fs ρ1 => rw [hi] at p; exact p
  | ok ds ρ1 =>
    rw [hi, R.ok_bind] at p
    intro F1 H1 r1 J g1 s1 e1 it D hD
    split at p
    · rename_i hlen
      cases hlc : lcL g t f (wipeL ρ1 vs) ds with
      | none => rw [hlc] at p; exact p.elim
      | some ys =>
        rw [hlc] at p
        have hs0 : ∀ a, H1 a = none → H a = none := fun a h => by
          cases e : H a with
          | none => rfl
          | some u => rw [g1.same a u e] at h; cases h
        have fD : F1 D = none := by
          cases e : F1 D with
          | none => rfl
          | some u =>
            rcases s1.sub D u e with z | ⟨_, _, _, z⟩
            · rw [hD] at z; cases z
            · rw [hD] at z; cases z
        have start : Acc X F1 H1 r1 σ D F1 (upd H1 D (.lst [])) [] := by
          have up : ∀ q u, H1 q = some u → upd H1 D (.lst []) q = some u := fun q u h => by rw [upd_ne (fun z => by rw [z, hD] at h; cases h)]; exact h
          exact ⟨s1.grow0 up (fun _ _ h => h) (fun _ h h' => absurd h h') fun q u h => (s1.sub q u h).imp (up q u) fun ⟨o, k, z1, z2⟩ => ⟨o, k, z1, up q _ z2⟩, ⟨up, fun _ _ h => h, fun _ h h' => absurd h h', fun _ h => h, fun _ => Iff.rfl, rfl⟩, upd_same, fD, trivial, List.nodup_nil, fun _ z => (by cases z), rfl⟩
        refine ⟨fun i m H2 => m = ds.length - i ∧ i ≤ ds.length ∧ ∃ F2 zs rest, Acc X F1 H1 r1 σ D F2 H2 zs ∧ zs.length ≤ i ∧ lcL g t f (wipeL ρ1 vs) (ds.drop i) = some rest ∧ zs.map er ++ rest = ys, ⟨ds.length, by simp, Nat.zero_le _, F1, [], ys, start, Nat.le_refl _, by rw [List.drop_zero]; exact hlc, rfl⟩, ?_⟩
        rintro i m H2 ⟨rfl, hi2, F2, zs, rest, acc, hzl, hrest, hys⟩
        obtain ⟨w1, w2⟩ := it i F2 H2 r1 σ ⟨acc.gr.fs, fun b _ u hu => acc.gr.same b u hu⟩ acc.stt
        by_cases hlt : i < ds.length
        · have hd : ds[i]? = some ds[i] := List.getElem?_eq_getElem hlt
          obtain ⟨go, yl⟩ := w1 _ hd
          have hdrop : ds.drop i = ds[i] :: ds.drop (i + 1) := List.drop_eq_getElem_cons hlt
          rw [hdrop] at hrest
          refine .inr ⟨go, fun H' => i + 1 ≤ ds.length ∧ ∃ F2 zs rest, Acc X F1 H1 r1 σ D F2 H' zs ∧ zs.length ≤ i + 1 ∧ lcL g t f (wipeL ρ1 vs) (ds.drop (i + 1)) = some rest ∧ zs.map er ++ rest = ys, fun H' hN => ⟨ds.length - (i + 1), by omega, rfl, hN.1, hN.2⟩, fun x H3 y => ?_⟩
          obtain ⟨F3, z, g3, s3, okz, ez, evz, cz⟩ := yl x H3 y
          have acc3 := acc.step s1 hD (fun _ h => h) acc.stt g3 s3
          unfold lcL at hrest
          cases hg : g ds[i] (wipeL ρ1 vs) with
          | none => rw [hg] at hrest; cases hrest
          | some ρ2 =>
            rw [hg] at hrest
            dsimp only at hrest
            have sw := s3.wipe hfx
            have ew : erR (wipeL r1 vs) = wipeL ρ1 vs := by rw [← e1]; exact wipeL_map er r1 vs
            rw [wipe_eq]
            refine ⟨ds[i], wipeL ρ1 vs, ρ2, hg, F3, wipeL r1 vs, z, sw, ew, evz, ez, okz, by rw [cold_own cz]; exact List.nodup_nil, by rw [cold_own cz]; exact fun _ h => (by cases h), by rw [cold_own cz]; exact fun _ h => (by cases h), by rw [cold_bor cz]; exact fun _ h => (by cases h), fun r4 σ4 s4 e4 ow4 bo4 on4 => ⟨by rw [wipe_eq]; exact wipe_only on4 hss, ρ2, ?_⟩⟩
            have hr : ∀ a ∈ adrR .o r4, a ∈ adrR .o r1 := fun a ha => (ow4 a ha).elim (adr_wipe a) fun h => by rw [cold_own cz] at h; cases h
            cases htt : t ρ2 with
            | bad => rw [htt] at hrest; cases hrest
            | exc c fs ρ3 => rw [htt] at hrest; cases hrest
            | ok b ρ3 =>
              have eb := ht _ _ _ htt
              subst eb
              rw [htt] at hrest
              cases b with
              | bl b =>
                refine test_step htt F3 r4 s4 e4 fun F5 H5 r5 g5 s5 e5 => ?_
                have er5 : r5 = r4 := same_env (by rw [e5, e4]) g5.un
                subst er5
                have acc5 := acc3.step s1 hD hr s4 g5 s5
                cases b with
                | false =>
                  rw [if_neg (by decide)]
                  exact ⟨hlt, F5, zs, rest, acc5, by omega, hrest, hys⟩
                | true =>
                  rw [if_pos rfl]
                  dsimp only at hrest
                  cases hff : f ρ3 with
                  | bad => rw [hff] at hrest; cases hrest
                  | exc c fs ρ4 => rw [hff] at hrest; cases hrest
                  | ok yd ρ4 =>
                    have eb := hf _ _ _ hff
                    subst eb
                    rw [hff] at hrest
                    dsimp only at hrest
                    split at hrest
                    · rename_i hnb
                      cases hr2 : lcL g t f (wipeL ρ1 vs) (ds.drop (i + 1)) with
                      | none => rw [hr2] at hrest; cases hrest
                      | some rest2 =>
                        rw [hr2] at hrest
                        have hrest : yd :: rest2 = rest := Option.some.inj hrest
                        refine ⟨ρ4, F5, r5, s5, e5, ?_⟩
                        rw [hff]
                        intro F6 H6 r6 w g6 s6 e6 ok6 ex6 v6
                        have er6 : r6 = r5 := same_env (by rw [e6, e5]) g6.un
                        subst er6
                        have acc6 := acc5.step s1 hD hr s5 g6 s6
                        have nbw : w.nob = true := by rw [← hnb, ← ex6]; exact (T.all_map _ _ w).symm
                        refine ⟨zs.map val, acc6.at_, by rw [List.length_map]; omega, hlt, F6, zs ++ [w], rest2, acc6.add s1 hD ok6 v6.nd (fun q hq => ?_) nbw, by rw [List.length_append]; simp; omega, rfl, ?_⟩
                        · have h5 := v6.new q hq
                          refine ⟨?_, fun e => ?_, fun h => ?_⟩
                          · cases e : H1 q with
                            | none => rfl
                            | some u => rw [acc5.gr.same q u e] at h5; cases h5
                          · rw [e, acc5.at_] at h5; cases h5
                          · exact (OkL.own_there acc5.ok q h).1 h5
                        · rw [List.map_append, List.map_cons, List.map_nil, ex6, List.append_assoc, ← hys, ← hrest]; rfl
                    · cases hrest
              | _ => cases hrest
        · have e5 : i = ds.length := by omega
          subst e5
          rw [List.drop_length] at hrest
          have hrest : ([] : List _) = rest := Option.some.inj hrest
          subst hrest
          rw [List.append_nil] at hys
          refine .inl ⟨w2 (Nat.le_refl _), ?_⟩
          have oy : own (T.nd .lst .o (D, D) zs) = D :: adrL .o zs := rfl
          refine p F2 H2 r1 (.nd .lst .o (D, D) zs) (g1.trans s1 acc.gr) acc.stt e1 ⟨⟨trivial, ⟨acc.at_, trivial⟩, fun q hq => ?_, acc.nob⟩, acc.ok⟩ ?_ ⟨?_, fun q hq => ?_, fun b hb => ?_⟩
          · have e : q = D := by simpa [ndA] using hq
            rw [e]; exact acc.fd
          · show T.nd .lst .o () (mapL (fun _ => ()) zs) = _
            rw [mapL_eq, ← hys]
          · rw [oy]
            exact List.nodup_cons.mpr ⟨fun h => (acc.new D h).2 rfl, acc.nd⟩
          · rw [oy] at hq
            rcases List.mem_cons.mp hq with rfl | h
            · exact hs0 _ hD
            · exact hs0 q (acc.new q h).1
          · have q0 : bor (T.nd .lst .o (D, D) zs) = [] := nob_bor (by rw [T.nob, T.all, Bool.and_eq_true]; exact ⟨rfl, acc.nob⟩)
            rw [q0] at hb; cases hb
    · exact p.elim
end
section
variable {ca : Ca} {C : Cx} {W : WX}
theorem pts_of {c : Expr} {t : Ev} (h : CT ca C W0 c t) : PTs C [c] (tT (cx ca C) t) := pts_one ⟨fun pins s σ H Q I ⟨ρ, q⟩ => (h.run ρ).run pins s σ H Q I q⟩
/-- one test, or none -/
structure CTs (ca : Ca) (C : Cx) (ifs : List Expr) (t : Ev) : Prop where
  run : PTs C ifs (tT (cx ca C) t)
  pure_ : PureE t
theorem cts_one {c : Expr} {t : Ev} (h : CT ca C W0 c t) (hp : PureE t) : CTs ca C [c] t := ⟨pts_of h, hp⟩
theorem cts_nil : CTs ca C [] E.yes := ⟨⟨fun pins s σ H Q I ⟨ρ, F, r, st, e, p⟩ => pts_nil.run pins s σ H Q I (by
  obtain ⟨b, hb, q⟩ := p F H r (.bl true) .refl st e trivial rfl ⟨List.nodup_nil, fun _ z => (by cases z), fun _ z => (by cases z)⟩
  cases hb
  exact q)⟩, pure_yes⟩
variable {elt tg iter : Expr} {ifs : List Expr} {scope : Scope} {own : List (Str × Nat)} {pos : Pos} {fi : Iv} {g : Gv} {t f : Ev} {ss vs : List Nat}
theorem ce_lc (hvs : vs = own.map (·.2)) (hfx : ∀ p ∈ ca.fix, p.1 ∉ vs) (hss : ∀ j ∈ ss, j ∈ vs) (hc : C.calm = true) (hN : C.N.Nodup) (hi : CI ca C W tg iter fi) (ok : BlkOk C.N C.env.scope scope own) (hf : PureE f) (ht : PureE t)
    (hg : ∀ (s : Shared) (H : Hp) (B : Addr) (cl : List (Str × Addr)) (fp : List Addr), CG ca (C.blk s H scope (compEnvC scope cl B C.env) fp) tg ss g)
    (hts : ∀ (s : Shared) (H : Hp) (B : Addr) (cl : List (Str × Addr)) (fp : List Addr), CTs ca (C.blk s H scope (compEnvC scope cl B C.env) fp) ifs t)
    (he : ∀ (s : Shared) (H : Hp) (B : Addr) (cl : List (Str × Addr)) (fp : List Addr), CE ca (C.blk s H scope (compEnvC scope cl B C.env) fp) W0 elt f)
    (hs : ∀ x, foldedSetIterable iter C.env x = pure x := by intro _; rfl) : CE ca C W (.ListComp elt [⟨tg, iter, ifs, 0⟩] scope pos) (E.lc fi vs g t f) := ⟨fun ρ => by
  subst hvs
  refine PE.mono (pe_lc (g := gT (cx ca C) ss g) (tt := tT (cx ca C) t) (te := eT (cx ca C) f) hc hN (hi.run ρ) ok (fun s H B cl fp => ⟨fun pins s σ H v u Q I r ⟨d, ρ, ρ', hgd, q⟩ => ((hg _ _ B cl fp).run d ρ ρ' hgd).run pins s σ H v u Q I r q⟩) (fun s H B cl fp => (hts s H B cl fp).run) (fun s H B cl fp => ⟨fun pins s σ H Q I ⟨ρ, q⟩ => ((he _ _ B cl fp).run ρ).run pins s σ H Q I q⟩) hs) fun σ H Q ⟨F, r, s, e, p⟩ => lc_main hfx hss ht hf s e p⟩
end
end Vl
/-! The value layer, 23: a comprehension given to a local name. -/
namespace Vl
open PySem PySem.Spec PyProof.Rows L2

section
variable {ca : Ca} {C : Cx} {W : WX} {X : Ctx} {F H : Hp} {r : AR} {σ : St} {ρ : Env} {f : Ev} {i : Nat} {D : Ends}
theorem asg_name (hfx : ∀ p ∈ X.fix, p.1 ≠ i) (s : Stt X F H r σ) (e : erR r = ρ) (p : PostS X W F H r (S.asg f (G.name i) ρ) D) : PostE X W σ F H r (f ρ) fun v H1 => D.nx (σ.set i (some v)) H1 := by
  unfold S.asg at p
  cases hf : f ρ with
  | bad => rw [hf] at p; exact p
  | exc c fs ρ1 => rw [hf] at p; exact fun F' H' r' dx g s e x => p F' H' r' σ dx g.toS s e x
  | ok d ρ1 =>
    rw [hf, R.ok_toS] at p
    by_cases hn : d.nob = true
    · rw [if_pos hn] at p
      unfold G.name at p
      by_cases hi : i < ρ1.length
      · rw [if_pos hi] at p
        intro F1 H1 r1 x g1 s1 e1 ok1 ex1 v1
        have nb : x.nob = true := by rw [← hn, ← ex1]; exact (T.all_map _ _ x).symm
        have hi' : i < r1.length := by rw [← e1] at hi; unfold erR at hi; rw [List.length_map] at hi; exact hi
        have qb : bor x = [] := nob_bor nb
        obtain ⟨s2, mo, mb⟩ := s1.setSlot hfx hi' ok1 v1.nd (fun a ha hr => (s.own_there (g1.ow a hr)).1 (v1.new a ha)) (fun a ha hr => s.bor_there ((g1.bo a).mp hr) (v1.new a ha)) (fun b hb => by rw [qb] at hb; cases hb)
        refine p F1 H1 (r1.set i (some x)) _ ⟨g1.toS.same, g1.fs, g1.fr, fun a ha => (mo a ha).elim (fun q => .inr (g1.ow a q)) fun q => .inl (v1.new a q), fun b hb => (g1.bo b).mp (mb b hb), g1.toS.there⟩ s2 ?_
        unfold erR
        rw [List.map_set]
        show (erR r1).set i (some (er x)) = _
        rw [e1, ex1]
      · rw [if_neg hi] at p; exact p.elim
    · rw [if_neg hn] at p; exact p.elim
variable {elt tg iter : Expr} {ifs : List Expr} {scope : Scope} {own : List (Str × Nat)} {pos spos py : Pos} {y : Str} {fi : Iv} {g : Gv} {t : Ev} {ss vs : List Nat}
theorem cs_setlc (hvs : vs = own.map (·.2)) (hfx : ∀ p ∈ ca.fix, p.1 ∉ vs) (hfi : ∀ p ∈ ca.fix, p.1 ≠ i) (hss : ∀ j ∈ ss, j ∈ vs) (hc : C.calm = true) (hN : C.N.Nodup) (hi : CI ca C W tg iter fi) (ok : BlkOk C.N C.env.scope scope own) (hf : PureE f) (ht : PureE t)
    (hg : ∀ (s : Shared) (H : Hp) (B : Addr) (cl : List (Str × Addr)) (fp : List Addr), CG ca (C.blk s H scope (compEnvC scope cl B C.env) fp) tg ss g)
    (hts : ∀ (s : Shared) (H : Hp) (B : Addr) (cl : List (Str × Addr)) (fp : List Addr), CTs ca (C.blk s H scope (compEnvC scope cl B C.env) fp) ifs t)
    (he : ∀ (s : Shared) (H : Hp) (B : Addr) (cl : List (Str × Addr)) (fp : List Addr), CE ca (C.blk s H scope (compEnvC scope cl B C.env) fp) W0 elt f)
    (hy : C.N[i]? = some y := by rfl) (hyl : C.env.scope.names.lookup y = some .local := by rfl) (hsw : swapsWith (.ListComp elt [⟨tg, iter, ifs, 0⟩] scope pos) (some (.Name y py)) spos.line C.env = pure true := by rfl)
    (hs : ∀ x, foldedSetIterable iter C.env x = pure x := by intro _; rfl) : CS ca C W (.Assign [.Name y py] (.ListComp elt [⟨tg, iter, ifs, 0⟩] scope pos) spos) (S.asg (E.lc fi vs g t f) (G.name i)) := ⟨fun ρ => by
  subst hvs
  refine PS.mono (ps_setLc (g := gT (cx ca C) ss g) (tt := tT (cx ca C) t) (te := eT (cx ca C) f) hc hN hy hyl hsw (hi.run ρ) ok (fun s H B cl fp => ⟨fun pins s σ H v u Q I r ⟨d, ρ, ρ', hgd, q⟩ => ((hg _ _ B cl fp).run d ρ ρ' hgd).run pins s σ H v u Q I r q⟩) (fun s H B cl fp => (hts s H B cl fp).run) (fun s H B cl fp => ⟨fun pins s σ H Q I ⟨ρ, q⟩ => ((he _ _ B cl fp).run ρ).run pins s σ H Q I q⟩) hs) fun D σ H ⟨F, r, s, e, p⟩ => ?_
  exact lc_main hfx hss ht hf s e (asg_name hfi s e p)⟩
end
end Vl
/-! The value layer, 24: texts' methods, isinstance, constants of classes and modules. -/
namespace Vl
open PySem PySem.Spec PyProof.Rows L2

def D.asStr : D → Option Str
  | .str z => some z
  | _ => none
def txtL : List D → Option (List Str)
  | [] => some []
  | .str z :: ds => (txtL ds).map (z :: ·)
  | _ :: _ => none
theorem txtL_val : ∀ {xs : List A} {ys : List Str}, txtL (xs.map er) = some ys → xs.map val = ys.map V.str
  | [], ys, h => by cases h; rfl
  | x :: xs, ys, h => by
    rw [List.map_cons] at h
    cases x with
    | str z =>
      have h : (txtL (xs.map er)).map (z :: ·) = some ys := h
      cases e : txtL (xs.map er) with
      | none => rw [e] at h; cases h
      | some zs =>
        rw [e] at h; cases h
        rw [List.map_cons, List.map_cons, txtL_val e]; rfl
    | _ => cases h
/-- z.m(y) -/
def E.ms1 (g : Str → D → Option D) (f h : Ev) : Ev := fun ρ => (f ρ).bind fun x ρ1 => match x with
  | .str z => (h ρ1).bind fun y ρ2 => R.of (g z y) ρ2
  | _ => .bad
def gJoin (z : Str) (d : D) : Option D := match d with
  | .nd .lst _ _ xs => (txtL xs).bind fun ys => if (ys.map (·.length)).sum + ys.length * z.length ≤ 16777216 then some (.str (Txt.join z ys)) else none
  | .nd .scr _ _ xs => (txtL xs).bind fun ys => if (ys.map (·.length)).sum + ys.length * z.length ≤ 16777216 then some (.str (Txt.join z ys)) else none
  | .nd .tup _ _ xs => (txtL xs).bind fun ys => if (ys.map (·.length)).sum + ys.length * z.length ≤ 16777216 then some (.str (Txt.join z ys)) else none
  | _ => none
def gSplit (z : Str) (d : D) : Option D := match d with
  | .str b => if (b.length == 0) = false ∧ z.length + 2 ≤ sizeLine then some (.nd .lst .o () ((Txt.split z b).map .str)) else none
  | _ => none
def gFind (z : Str) (d : D) : Option D := match d with
  | .str b => some (.int (Txt.find z b))
  | _ => none
def gStarts (z : Str) (d : D) : Option D := match d with
  | .str b => some (.bl (Txt.startswith z b))
  | _ => none
/-- z times n, for small ones -/
def D.rep : D → D → Option D
  | .str z, .int n => if 2 ≤ n ∧ n < 2 ^ 20 ∧ 1 ≤ z.length ∧ z.length * n.toNat ≤ sizeLine then some (.str ⟨(List.replicate n.toNat z.cps).foldl (· ++ ·) #[]⟩) else none
  | .nd .lst _ _ xs, .int n => if allL isC xs = true ∧ -(2 ^ 63) ≤ n ∧ n < 2 ^ 63 ∧ xs.length * n.toNat ≤ sizeLine then some (.nd .lst .o () (List.replicate n.toNat xs).flatten) else none
  | _, _ => none
def D.tyn : D → Option String
  | .non => some "NoneType"
  | .bl _ => some "bool"
  | .int _ => some "int"
  | .str _ => some "str"
  | .nd .lst _ _ _ => some "list"
  | .nd .scr _ _ _ => some "list"
  | .nd .tup _ _ _ => some "tuple"
  | .nd (.dct _) _ _ _ => some "dict"
  | _ => none
/-- isinstance's answer, of built-in types -/
def isTy (T t : String) : Bool := decide (t = T) || (decide (t = "bool") && decide (T = "int"))
def E.isi (T : String) (f : Ev) : Ev := fun ρ => (f ρ).bind fun d ρ1 => match D.tyn d with
  | some t => .ok (.bl (isTy T t)) ρ1
  | none => .bad
structure MsOk (X : Ctx) (C : Cx) (id : String) (g : Str → D → Option D) : Prop where
  run : ∀ z d1 d, g z d1 = some d → ∃ r, MtR C id r ∧ ∀ F H y Q, Sub F H → Ok X F H y → (own y).Nodup → er y = d1 → LPost X F H [y] d Q → r (.str z) [val y] H Q
section
variable {ca : Ca} {C : Cx} {W : WX} {e a b : Expr} {f h : Ev} {pos apos p p2 : Pos} {ρ : Env} {x : Str}
theorem mt_false {id : String} : MtR C id fun _ _ _ _ => False := fun _ _ _ _ _ _ _ _ _ _ _ _ h => h.elim
theorem ce_ms1 {id : String} {name : Str} {g : Str → D → Option D} (ok : MsOk (cx ca C) C id g) (slot : Slot "str" name id) (ty : typeOf (.builtin id) = pure (.type "method_descriptor")) (ha : CE ca C W a f) (hb : CE ca C W b h)
    (hs : starEach [b] C.env = [(false, eval b C.env)] := by rfl) (hbase : attributeBase a name C.env (eval a C.env) = eval a C.env := by rfl) (hline : (apos.endLine == pos.line) = true := by rfl) :
    CE ca C W (.Call (.Attribute a name apos) [b] [] pos) (E.ms1 g f h) := ⟨fun ρ => by
  cases hf : f ρ with
  | bad => exact PE.mono pe_false fun σ H Q ⟨F, r, s, e, q⟩ => by unfold E.ms1 at q; rw [hf] at q; exact q
  | exc c fs ρ1 => exact PE.mono (pe_m1 slot ty mt_false (ha.run ρ) pe_false hs hbase hline) fun σ H Q ⟨F, r, s, e, q⟩ => ⟨F, r, s, e, by unfold E.ms1 at q; rw [hf] at q ⊢; exact q⟩
  | ok d ρ1 =>
    cases d with
    | str z =>
      cases hh : h ρ1 with
      | bad => exact PE.mono pe_false fun σ H Q ⟨F, r, s, e, q⟩ => by unfold E.ms1 at q; rw [hf, R.ok_bind] at q; dsimp only at q; rw [hh] at q; exact q
      | exc c fs ρ2 =>
        refine PE.mono (pe_m1 slot ty mt_false (ha.run ρ) (hb.run ρ1) hs hbase hline) fun σ H Q ⟨F, r, s, e, q⟩ => ⟨F, r, s, e, ?_⟩
        unfold E.ms1 at q; rw [hf, R.ok_bind] at q; dsimp only at q; rw [hh] at q
        rw [hf]
        intro F1 H1 r1 x g1 s1 e1 ok1 ex1 v1
        exact ⟨⟨z, by rw [er_str ex1]; rfl⟩, F1, r1, s1, e1, by rw [hh]; exact fun F2 H2 r2 dx g2 s2 e2 x2 => q F2 H2 r2 dx (g1.trans s1 g2) s2 e2 x2⟩
      | ok y ρ2 =>
        cases hg : g z y with
        | none => exact PE.mono pe_false fun σ H Q ⟨F, r, s, e, q⟩ => by unfold E.ms1 at q; rw [hf, R.ok_bind] at q; dsimp only at q; rw [hh, R.ok_bind, hg] at q; exact q
        | some d' =>
          obtain ⟨r0, mt, hr⟩ := ok.run z y d' hg
          refine PE.mono (pe_m1 slot ty mt (ha.run ρ) (hb.run ρ1) hs hbase hline) fun σ H Q ⟨F, r, s, e, q⟩ => ⟨F, r, s, e, ?_⟩
          unfold E.ms1 at q; rw [hf, R.ok_bind] at q; dsimp only at q; rw [hh, R.ok_bind, hg] at q
          rw [hf]
          intro F1 H1 r1 x g1 s1 e1 ok1 ex1 v1
          have ev := er_str ex1
          refine ⟨⟨z, by rw [ev]; rfl⟩, F1, r1, s1, e1, ?_⟩
          rw [hh]
          intro F2 H2 r2 w g2 s2 e2 ok2 ex2 v2
          rw [ev]
          have v2' := VOk.back g1 v2
          exact hr F2 H2 w Q s2.sub ok2 v2.nd ex2 (fin_leaf s s2 (g1.trans s1 g2) e2 (fun a ha => by rw [adrL_one] at ha; exact v2'.new a ha) (fun b hb => by rw [adrL_one] at hb; exact v2'.bo b hb) q)
    | _ => exact PE.mono pe_false fun σ H Q ⟨F, r, s, e, q⟩ => by unfold E.ms1 at q; rw [hf] at q; exact q⟩
theorem ms_join : MsOk (cx ca C) C "str.join" gJoin := ⟨fun z d1 d hg => by
  unfold gJoin at hg
  have key : ∀ {xs : List D}, ((txtL xs).bind fun ys => if (ys.map (·.length)).sum + ys.length * z.length ≤ 16777216 then some (T.str (Txt.join z ys) : D) else none) = some d → ∃ ys, txtL xs = some ys ∧ (ys.map (·.length)).sum + ys.length * z.length ≤ 16777216 ∧ d = .str (Txt.join z ys) := by
    intro xs h
    cases e : txtL xs with
    | none => rw [e] at h; cases h
    | some ys =>
      rw [e, Option.bind_some] at h
      split at h
      · rename_i hz; cases h; exact ⟨ys, rfl, hz, rfl⟩
      · cases h
  split at hg
  · obtain ⟨ys, h1, h2, rfl⟩ := key hg
    refine ⟨_, mt_join, fun F H y Q s ok nd e k => ?_⟩
    obtain ⟨a, xs, rfl, ex⟩ := er_nd e
    rw [mapL_eq] at ex
    rw [← ex] at h1
    exact ⟨z, a.1, ys, rfl, rfl, .inl (SqL.of (by have := ok.at_ s; rw [txtL_val h1] at this; exact this)), h2, k.plain s rfl⟩
  · obtain ⟨ys, h1, h2, rfl⟩ := key hg
    refine ⟨_, mt_join, fun F H y Q s ok nd e k => ?_⟩
    obtain ⟨a, xs, rfl, ex⟩ := er_nd e
    rw [mapL_eq] at ex
    rw [← ex] at h1
    exact ⟨z, a.1, ys, rfl, rfl, .inl (by have := ok.at_ s; rw [txtL_val h1] at this; exact this), h2, k.plain s rfl⟩
  · obtain ⟨ys, h1, h2, rfl⟩ := key hg
    refine ⟨_, mt_join, fun F H y Q s ok nd e k => ?_⟩
    obtain ⟨a, xs, rfl, ex⟩ := er_nd e
    rw [mapL_eq] at ex
    rw [← ex] at h1
    exact ⟨z, a.1, ys, rfl, rfl, .inr (by have := ok.at_ s; rw [txtL_val h1] at this; exact this), h2, k.plain s rfl⟩
  · cases hg⟩
theorem ms_split : MsOk (cx ca C) C "str.split" gSplit := ⟨fun z d1 d hg => by
  unfold gSplit at hg
  split at hg
  · rename_i b
    split at hg
    · rename_i hz
      cases hg
      refine ⟨_, mt_split, fun F H y Q s ok nd e k => ?_⟩
      rw [er_str e]
      refine ⟨z, b, rfl, rfl, hz.1, hz.2, fun p hp => ?_⟩
      have c : allL isC ((Txt.split z b).map fun w => (T.str w : A)) = true := by rw [allL_eq, List.all_eq_true]; intro w hw; obtain ⟨v, _, rfl⟩ := List.mem_map.mp hw; rfl
      have := k.new (xs := (Txt.split z b).map fun w => (T.str w : A)) (.inl rfl) s hp (.inl rfl) trivial (OkL_iff.mpr fun w hw => by obtain ⟨v, _, rfl⟩ := List.mem_map.mp hw; trivial)
        (by rw [← mapL_mkL, mkL_cold rfl c, mapL_eq, List.map_map]; rfl) (allC_notB c) (by rw [adrL_nil rfl c]; exact fun _ z => (by cases z))
      rw [List.map_map] at this
      exact this
    · cases hg
  · cases hg⟩
theorem ms_find : MsOk (cx ca C) C "str.find" gFind := ⟨fun z d1 d hg => by
  unfold gFind at hg
  split at hg
  · cases hg
    refine ⟨_, mt_find, fun F H y Q s ok nd e k => ?_⟩
    rw [er_str e]
    exact ⟨z, _, rfl, rfl, k.plain s rfl⟩
  · cases hg⟩
theorem ms_starts : MsOk (cx ca C) C "str.startswith" gStarts := ⟨fun z d1 d hg => by
  unfold gStarts at hg
  split at hg
  · cases hg
    refine ⟨_, mt_startswith, fun F H y Q s ok nd e k => ?_⟩
    rw [er_str e]
    exact ⟨z, _, rfl, rfl, k.plain s rfl⟩
  · cases hg⟩
theorem ce_join (ha : CE ca C W a f) (hb : CE ca C W b h) (hs : starEach [b] C.env = [(false, eval b C.env)] := by rfl) (hbase : attributeBase a "join" C.env (eval a C.env) = eval a C.env := by rfl) (hline : (apos.endLine == pos.line) = true := by rfl) :
    CE ca C W (.Call (.Attribute a "join" apos) [b] [] pos) (E.ms1 gJoin f h) := ce_ms1 ms_join PySem.F.slot_str_join PySem.F.type_str_join ha hb hs hbase hline
theorem ce_split (ha : CE ca C W a f) (hb : CE ca C W b h) (hs : starEach [b] C.env = [(false, eval b C.env)] := by rfl) (hbase : attributeBase a "split" C.env (eval a C.env) = eval a C.env := by rfl) (hline : (apos.endLine == pos.line) = true := by rfl) :
    CE ca C W (.Call (.Attribute a "split" apos) [b] [] pos) (E.ms1 gSplit f h) := ce_ms1 ms_split PySem.F.slot_str_split PySem.F.type_str_split ha hb hs hbase hline
theorem op_repS : OpR C (binaryOp .Mult) fun x y H Q => ∃ z n, x = .str z ∧ y = .int n ∧ 2 ≤ n ∧ n < 2 ^ 20 ∧ 1 ≤ z.length ∧ z.length * n.toNat ≤ sizeLine ∧ Q (.str ⟨(List.replicate n.toNat z.cps).foldl (· ++ ·) #[]⟩) H := by
  intro pins s σ H x y v u Q I rx ry hh
  obtain ⟨z, n, rfl, rfl, h1, h2, h3, h4, q⟩ := hh
  obtain ⟨t, rfl⟩ := rx
  obtain ⟨k, rfl⟩ := ry
  have n1 : ¬ n < 1 := by omega
  have ne : (n == 1 || z.length == 0) = false := by
    have e1 : (n == 1) = false := by simpa using (by omega : n ≠ 1)
    have e2 : (z.length == 0) = false := by simpa using (by omega : z.length ≠ 0)
    rw [e1, e2]; rfl
  refine PySem.P.mul_str ?_ (fun _ _ => ?_) (fun _ _ => ?_) ?_
  · have e1 : ¬ n < -(2 ^ 63 : Int) := by omega
    have e2 : ¬ n ≥ 2 ^ 63 := by omega
    rw [decide_eq_false e1, decide_eq_false e2]; rfl
  · rw [sizeLine_eq] at h4
    have e4 : (z.length : Int) ≤ (2 ^ 63 - 1) / n := by
      rw [Int.le_ediv_iff_mul_le (by omega)]
      have e5 : ((z.length * n.toNat : Nat) : Int) = (z.length : Int) * n := by rw [Int.natCast_mul, Int.toNat_of_nonneg (by omega)]
      rw [← e5]
      omega
    omega
  · unfold Builtin.Str.tooLong
    simpa using h4
  · rw [if_neg n1, ne]
    refine ⟨?_, .str _, H, I.tok _, ⟨_, rfl⟩, q⟩
    refine fits_reps ?_
    unfold Builtin.Str.tooLong
    simpa using h4
theorem op2_rep : Op2 (cx ca C) (OpR C (binaryOp .Mult)) D.rep := by
  intro d1 d2 d h
  unfold D.rep at h
  split at h
  · split at h
    · rename_i hz
      cases h
      refine ⟨_, op_repS, fun F H x y Q s _ _ _ e1 e2 k => ?_⟩
      rw [er_str e1, er_int e2]
      exact ⟨_, _, rfl, rfl, hz.1, hz.2.1, hz.2.2.1, hz.2.2.2, k.plain s rfl⟩
    · cases h
  · rename_i m0 u0 xs0 n0
    split at h
    · rename_i hz
      cases h
      refine ⟨_, op_rep, fun F H x y Q s ok1 _ _ e1 e2 k => ?_⟩
      obtain ⟨a, xs, rfl, ex⟩ := er_nd e1
      rw [er_int e2]
      subst ex
      have c := er_cold hz.1
      refine ⟨a.1, _, xs.map val, rfl, rfl, ok1.at_ s, hz.2.1, hz.2.2.1, by rw [List.length_map]; rw [mapL_len] at hz; exact hz.2.2.2, fun p hp => ?_⟩
      have hm : ∀ y ∈ (List.replicate n0.toNat xs).flatten, y ∈ xs := fun y hy => by
        obtain ⟨l, hl, hyl⟩ := List.mem_flatten.mp hy
        rw [(List.mem_replicate.mp hl).2] at hyl; exact hyl
      have c2 := allL_sub c hm
      have := k.new (xs := (List.replicate n0.toNat xs).flatten) (.inl rfl) s hp (.inl rfl) trivial (ok1.kids.sub hm)
        (by rw [← mapL_mkL, mkL_cold rfl c2, mapL_eq, mapL_eq, List.map_flatten, List.map_replicate]) (allC_notB c2) (by rw [adrL_nil rfl c2]; exact fun _ z => (by cases z))
      rw [List.map_flatten, List.map_replicate] at this
      exact this
    · cases h
  · cases h
theorem ce_rep (ha : CE ca C W a f) (hb : CE ca C W b h) : CE ca C W (.BinOp a .Mult b pos) (E.bin D.rep f h) := ce_op op2_rep ha hb
/-- the type of what stands there -/
theorem tyn_ok {X : Ctx} {F H : Hp} {x : A} {t : String} (s : Sub F H) (ok : Ok X F H x) (h : D.tyn (er x) = some t) : TyX X.K H (val x) (.type t) := by
  cases x with
  | non => cases h; exact .base .non
  | bl b => cases h; exact .base (.bl b)
  | int b => cases h; exact .base (.int b)
  | str b => cases h; exact .base (.str b)
  | nd k m a xs =>
    have at1 := ok.at_ s
    cases k with
    | lst => cases h; exact .base (.lst at1)
    | scr =>
      cases h
      rcases at1 with (at1 | ⟨o, at1⟩) | ⟨o, its, n, hk, hc, _⟩
      · exact .base (.lst at1)
      · exact .base (.frz at1)
      · exact .kList hk hc
    | tup =>
      cases h
      rcases at1 with (at1 | ⟨o, at1⟩) | ⟨o, its, n, hk, hc, _⟩
      · exact .base (.tup at1)
      · exact .fTuple at1
      · exact .kTuple hk hc
    | dtt ks => cases h
    | dct ks =>
      cases h
      rcases at1 with at1 | ⟨o, at1⟩
      · exact .base (.dK at1)
      · exact .fDict at1
    | ins C fs => cases h
    | exn C fs => cases h
/-- a type to ask for -/
def TyAsk (T : String) : Prop := ∀ t ∈ ["NoneType", "bool", "int", "str", "list", "tuple", "dict"], kitB t T = some (isTy T t)
theorem ask_of {T : String} (h0 : kitB "NoneType" T = some (isTy T "NoneType")) (h1 : kitB "bool" T = some (isTy T "bool")) (h2 : kitB "int" T = some (isTy T "int")) (h3 : kitB "str" T = some (isTy T "str")) (h4 : kitB "list" T = some (isTy T "list")) (h5 : kitB "tuple" T = some (isTy T "tuple"))
    (h6 : kitB "dict" T = some (isTy T "dict")) : TyAsk T := by
  intro t ht
  simp only [List.mem_cons, List.not_mem_nil, or_false] at ht
  rcases ht with rfl | rfl | rfl | rfl | rfl | rfl | rfl <;> assumption
theorem ask_int : TyAsk "int" := ask_of (by decide +kernel) (by decide +kernel) (by decide +kernel) (by decide +kernel) (by decide +kernel) (by decide +kernel) (by decide +kernel)
theorem ask_bool : TyAsk "bool" := ask_of (by decide +kernel) (by decide +kernel) (by decide +kernel) (by decide +kernel) (by decide +kernel) (by decide +kernel) (by decide +kernel)
theorem ask_str : TyAsk "str" := ask_of (by decide +kernel) (by decide +kernel) (by decide +kernel) (by decide +kernel) (by decide +kernel) (by decide +kernel) (by decide +kernel)
theorem ask_list : TyAsk "list" := ask_of (by decide +kernel) (by decide +kernel) (by decide +kernel) (by decide +kernel) (by decide +kernel) (by decide +kernel) (by decide +kernel)
theorem ask_tuple : TyAsk "tuple" := ask_of (by decide +kernel) (by decide +kernel) (by decide +kernel) (by decide +kernel) (by decide +kernel) (by decide +kernel) (by decide +kernel)
theorem ask_dict : TyAsk "dict" := ask_of (by decide +kernel) (by decide +kernel) (by decide +kernel) (by decide +kernel) (by decide +kernel) (by decide +kernel) (by decide +kernel)
theorem tyn_mem {d : D} {t : String} (h : D.tyn d = some t) : t ∈ ["NoneType", "bool", "int", "str", "list", "tuple", "dict"] := by
  unfold D.tyn at h
  split at h <;> first | (cases h; simp; done) | cases h
theorem ce_isi {T : String} {x2 : Str} (hT : TyAsk T) (ha : CE ca C W a f) (hg : Gl C "isinstance") (hm : C.mg "isinstance" = none) (hg2 : Gl C x2) (hm2 : C.mg x2 = none) (hv2 : bootBuiltins x2 = some (.type T)) (hn2 : x2 ≠ "__name__" := by decide) (hd2 : (x2 == ("__debug__" : Str)) = false := by decide)
    (he : starEach [a, .Name x2 p2] C.env = (false, eval a C.env) :: starEach [.Name x2 p2] C.env := by rfl) (hpl : (backTo pos (starEach [.Name x2 p2] C.env)).any (·.1) = false := by rfl) : CE ca C W (.Call (.Name "isinstance" p) [a, .Name x2 p2] [] pos) (E.isi T f) := ⟨fun ρ => by
  have pb : PE C (.Name x2 p2) (tC (.ty T)) := pe_bltn hg2 hm2 hv2 rfl hn2 hd2
  refine PE.mono (pe_callB call_isi hg hm rfl (pa_cons (ha.run ρ) (pa_cons pb pa_nil) he) (by decide) (by decide) he hpl) fun σ H Q ⟨F, r, s, e, q⟩ => ⟨F, r, s, e, ?_⟩
  unfold E.isi at q
  cases hf : f ρ with
  | bad => rw [hf] at q; exact q
  | exc c fs ρ1 => rw [hf] at q; exact q
  | ok d ρ1 =>
    rw [hf, R.ok_bind] at q
    intro F1 H1 r1 x g1 s1 e1 ok1 ex1 v1
    cases ht : D.tyn d with
    | none => rw [ht] at q; exact q.elim
    | some t =>
      rw [ht] at q
      exact ⟨val x, .ty T, .type t, .type T, isTy T t, rfl, .ty T, tyn_ok s1.sub ok1 (by rw [ex1]; exact ht), kit_ty (hT t (tyn_mem ht)), q.bl g1 s1 e1⟩⟩
/-- a constant of a class -/
theorem ce_cval {y n : Str} {B : Addr} {mc u : Value} {d : D} (h : plain d = true) (hg : Gl C y) (hm : C.mg y = some (.ref B)) (hr : ClX.CRead C.K B mc) (hc : ClX.CVal C.K B mc n (val (up d)) u) (hdb : (y == ("__debug__" : Str)) = false := by decide)
    (hb : attributeBase (.Name y p) n C.env (eval (.Name y p) C.env) = eval (.Name y p) C.env := by rfl) : CE ca C W (.Attribute (.Name y p) n pos) (E.c d) :=
  ce_const h (PE.mono (ClX.pe_cval (pe_glob hg hm (v := .ref B) rfl hdb) hb) fun σ H Q q => ⟨B, mc, _, u, rfl, hr, hc, q⟩)
end
end Vl
/-! The value layer, 25: zip, enumerate; all, any, sum. -/
namespace Vl
open PySem PySem.Spec PyProof.Rows L2

section
variable {X : Ctx} {W : WX} {F F1 H H1 : Hp} {r r1 : AR} {σ : St} {xs : List A}
/-- fresh values are settled beside a state -/
theorem settle_args (s : Stt X F H r σ) (g1 : Grow F H r F1 H1 r1) (s1 : Stt X F1 H1 r1 σ) (ok : OkL X F1 H1 xs) (new : ∀ a ∈ adrL .o xs, H a = none) (nb : allL notB xs = true) :
    Stt X (frz F1 H1 (adrL .o xs)) H1 r1 σ ∧ Grow F H r (frz F1 H1 (adrL .o xs)) H1 r1 ∧ OkL X (frz F1 H1 (adrL .o xs)) H1 (mkL calm xs) := by
  have hown : ∀ q ∈ adrL .o xs, q ∉ adrR .o r1 := fun q hq hr => (s.own_there (g1.ow q hr)).1 (new q hq)
  have ff : ∀ q w, F1 q = some w → frz F1 H1 (adrL .o xs) q = some w := fun q w hw => by
    rw [frz_out (fun hq => by rw [(OkL.own_there ok q hq).2] at hw; cases hw)]; exact hw
  have sb : Sub (frz F1 H1 (adrL .o xs)) H1 := fun q w hw => by
    by_cases hq : q ∈ adrL .o xs
    · rw [frz_in hq] at hw; exact .inl hw
    · rw [frz_out hq] at hw; exact s1.sub q w hw
  have fr : ∀ q, F1 q = none → frz F1 H1 (adrL .o xs) q ≠ none → H1 q = none ∨ q ∉ adrR .o r1 := fun q h1 h2 => by
    by_cases hq : q ∈ adrL .o xs
    · exact .inr (hown q hq)
    · rw [frz_out hq] at h2; exact absurd h1 h2
  refine ⟨s1.grow0 (fun _ _ h => h) ff fr sb, ⟨g1.same, fun q w hw => ff q w (g1.fs q w hw), fun q h1 h2 => ?_, g1.ow, g1.bo, g1.un⟩, OkL.fz ok nb ff fun q hq => frz_in hq⟩
  cases e : F1 q with
  | some w => exact g1.fr q h1 (by rw [e]; exact fun z => by cases z)
  | none =>
    by_cases hq : q ∈ adrL .o xs
    · exact .inl (new q hq)
    · rw [frz_out hq, e] at h2; exact absurd rfl h2
end
/-- the items of a list that is not lent -/
def D.lits : D → Option (List D)
  | .nd .lst m _ xs => if m ≠ .b ∧ allL isC xs = true then some xs else none
  | _ => none
def D.tits : D → Option (List D)
  | .nd .tup .c _ xs => some xs
  | _ => none
def pairD (p : D × D) : D := .nd .tup .c () [p.1, p.2]
def zipD : List D → Option (List D)
  | [a, b] => match D.lits a, D.lits b with
    | some xs, some ys => some ((xs.zip ys).map pairD)
    | _, _ => match D.tits a, D.tits b with
      | some xs, some ys => if allL isC xs = true ∧ allL isC ys = true then some ((xs.zip ys).map pairD) else none
      | _, _ => none
  | _ => none
def I.zip (fa : Env → R (List D)) : Iv := fun ρ => (fa ρ).bind fun ds ρ1 => R.of (zipD ds) ρ1
def enumD : List D → Option (List D)
  | [a] => (D.lits a).map fun xs => (xs.zipIdx.map fun p => pairD (.int (p.2 : Nat), p.1))
  | _ => none
def I.enum (fa : Env → R (List D)) : Iv := fun ρ => (fa ρ).bind fun ds ρ1 => R.of (enumD ds) ρ1
def blsL : List D → Option (List Bool)
  | [] => some []
  | .bl b :: ds => (blsL ds).map (b :: ·)
  | _ :: _ => none
theorem blsL_val : ∀ {xs : List A} {ys : List Bool}, blsL (xs.map er) = some ys → xs.map val = ys.map V.bl
  | [], ys, h => by cases h; rfl
  | x :: xs, ys, h => by
    rw [List.map_cons] at h
    cases x with
    | bl z =>
      have h : (blsL (xs.map er)).map (z :: ·) = some ys := h
      cases e : blsL (xs.map er) with
      | none => rw [e] at h; cases h
      | some zs =>
        rw [e] at h; cases h
        rw [List.map_cons, List.map_cons, blsL_val e]; rfl
    | _ => cases h
def intsL : List D → Option (List Int)
  | [] => some []
  | .int b :: ds => (intsL ds).map (b :: ·)
  | _ :: _ => none
theorem intsL_val : ∀ {xs : List A} {ys : List Int}, intsL (xs.map er) = some ys → xs.map val = ys.map V.int
  | [], ys, h => by cases h; rfl
  | x :: xs, ys, h => by
    rw [List.map_cons] at h
    cases x with
    | int z =>
      have h : (intsL (xs.map er)).map (z :: ·) = some ys := h
      cases e : intsL (xs.map er) with
      | none => rw [e] at h; cases h
      | some zs =>
        rw [e] at h; cases h
        rw [List.map_cons, List.map_cons, intsL_val e]; rfl
    | _ => cases h
def D.all1 : List D → Option D
  | [.nd .lst _ _ xs] => (blsL xs).map fun bs => .bl (bs.all id)
  | _ => none
def D.any1 : List D → Option D
  | [.nd .lst _ _ xs] => (blsL xs).map fun bs => .bl (bs.any id)
  | _ => none
def D.sum1 : List D → Option D
  | [.nd .lst _ _ xs] => (intsL xs).map fun bs => .int bs.sum
  | _ => none
section
variable {ca : Ca} {C : Cx} {W : WX} {fa : Env → R (List D)} {pos p tpos : Pos}
theorem lits_ok {d : D} {ds : List D} (h : D.lits d = some ds) : ∃ m, m ≠ .b ∧ d = .nd .lst m () ds ∧ allL isC ds = true := by
  unfold D.lits at h
  split at h
  · split at h
    · rename_i hz; cases h; exact ⟨_, hz.1, rfl, hz.2⟩
    · cases h
  · cases h
theorem tits_ok {d : D} {ds : List D} (h : D.tits d = some ds) : d = .nd .tup .c () ds := by
  unfold D.tits at h
  split at h
  · cases h; rfl
  · cases h
theorem lits_A {x : A} {ds : List D} (h : D.lits (er x) = some ds) : ∃ m a zs, m ≠ .b ∧ x = .nd .lst m a zs ∧ zs.map er = ds ∧ allL isC zs = true ∧ x.nob = true := by
  obtain ⟨m, hm, e, c⟩ := lits_ok h
  obtain ⟨a, zs, rfl, ez⟩ := er_nd e
  rw [← ez] at c
  have c2 := er_cold c
  refine ⟨m, a, zs, hm, rfl, by rw [← mapL_eq]; exact ez, c2, ?_⟩
  rw [T.nob, T.all, Bool.and_eq_true]
  exact ⟨by cases m <;> first | rfl | exact absurd rfl hm, allC_notB c2⟩
/-- a new pair is handed out -/
theorem pair_out {X : Ctx} {F2 H2 : Hp} {r2 : AR} {σ2 : St} {T0 : Addr} {x y : A} (s : Stt X F2 H2 r2 σ2) (hT : H2 T0 = none) (ox : Ok X F2 H2 x) (oy : Ok X F2 H2 y) (cx : x.cold = true) (cy : y.cold = true) :
    ∃ F3 z, Grow F2 H2 r2 F3 (upd H2 T0 (.tup [val x, val y])) r2 ∧ Stt X F3 (upd H2 T0 (.tup [val x, val y])) r2 σ2 ∧ Ok X F3 (upd H2 T0 (.tup [val x, val y])) z ∧ er z = pairD (er x, er y) ∧ val z = .ref T0 ∧ z.cold = true := by
  have hF : F2 T0 = none := s.sub.free hT
  have ff : ∀ q w, F2 q = some w → upd F2 T0 (.tup [val x, val y]) q = some w := fun q w h => by rw [upd_ne (fun e => by rw [e, hF] at h; cases h)]; exact h
  have hh : ∀ q w, H2 q = some w → upd H2 T0 (.tup [val x, val y]) q = some w := fun q w h => by rw [upd_ne (fun e => by rw [e, hT] at h; cases h)]; exact h
  have fr : ∀ q, F2 q = none → upd F2 T0 (.tup [val x, val y]) q ≠ none → H2 q = none := fun q h h' => by
    by_cases e : q = T0
    · rw [e]; exact hT
    · rw [upd_ne e] at h'; exact absurd h h'
  have sb : Sub (upd F2 T0 (.tup [val x, val y])) (upd H2 T0 (.tup [val x, val y])) := fun q w h => by
    by_cases e : q = T0
    · rw [e, upd_same] at h ⊢; exact .inl h
    · rw [upd_ne e] at h
      exact (s.sub q w h).imp (hh q w) fun ⟨o, k, z1, z2⟩ => ⟨o, k, z1, hh q _ z2⟩
  have mv : ∀ z : A, Ok X F2 H2 z → z.cold = true → Ok X (upd F2 T0 (.tup [val x, val y])) (upd H2 T0 (.tup [val x, val y])) z := fun z oz cz => oz.same ff hh fun a ha => by rw [cold_own cz] at ha; cases ha
  refine ⟨_, .nd .tup .c (T0, 0) [x, y], ⟨hh, ff, fun q h h' => .inl (fr q h h'), fun _ h => h, fun _ => Iff.rfl, rfl⟩, s.grow0 hh ff (fun q h h' => .inl (fr q h h')) sb, ⟨⟨trivial, .inl (.inl upd_same), ?_⟩, mv x ox cx, mv y oy cy, trivial⟩, rfl, rfl, ?_⟩
  · rw [allL, allL, allL, Bool.and_true, Bool.and_eq_true]; exact ⟨cx, cy⟩
  · rw [T.cold, T.all, allL, allL, allL, Bool.and_true, Bool.and_eq_true, Bool.and_eq_true]; exact ⟨rfl, cx, cy⟩
theorem cold_stay {X : Ctx} {F H F' H' : Hp} {z : A} (ok : Ok X F H z) (c : z.cold = true) (fs : ∀ a u, F a = some u → F' a = some u) : Ok X F' H' z := ItOk.of_static.cold_move ok c fs
theorem zip_get {xs ys : List A} {d : D} {i : Nat} (h : (((xs.map er).zip (ys.map er)).map pairD)[i]? = some d) : ∃ x y, xs[i]? = some x ∧ ys[i]? = some y ∧ d = pairD (er x, er y) := by
  rw [List.getElem?_map] at h
  cases e : ((xs.map er).zip (ys.map er))[i]? with
  | none => rw [e] at h; cases h
  | some q =>
    rw [e] at h
    cases h
    obtain ⟨h1, h2⟩ := List.getElem?_zip_eq_some.mp e
    rw [List.getElem?_map] at h1 h2
    cases e1 : xs[i]? with
    | none => rw [e1] at h1; cases h1
    | some x =>
      cases e2 : ys[i]? with
      | none => rw [e2] at h2; cases h2
      | some y =>
        rw [e1] at h1; rw [e2] at h2
        exact ⟨x, y, rfl, rfl, by rw [show er x = q.1 from Option.some.inj h1, show er y = q.2 from Option.some.inj h2]⟩
theorem ci_zip {a b : Expr} {elts : List Expr} {kk : Nat} (hg : Gl C "zip") (hm : C.mg "zip" = none) (ha : CA ca C W [a, b] fa) (hs : starEach [a, b] C.env = (false, eval a C.env) :: starEach [b] C.env := by rfl) (hpl : (backTo pos (starEach [b] C.env)).any (·.1) = false := by rfl) :
    CI ca C W (.Tuple elts kk tpos) (.Call (.Name "zip" p) [a, b] [] pos) (I.zip fa) := ⟨fun ρ => by
  refine PI.mono (RZ.pi_zipA hg hm (ha.run ρ) hs hpl) fun σ H Q ⟨F, r, s, e, q⟩ => ⟨F, r, s, e, ?_⟩
  unfold I.zip at q
  cases hf : fa ρ with
  | bad => rw [hf] at q; exact q
  | exc c fs ρ1 => rw [hf] at q; exact q
  | ok ds ρ1 =>
    rw [hf, R.ok_bind] at q
    intro F1 H1 r1 xs g1 s1 e1 ok1 ex1 nd1 new1 bo1
    cases hz : zipD ds with
    | none => rw [hz] at q; exact q.elim
    | some its =>
      rw [hz] at q
      unfold zipD at hz
      split at hz
      · rename_i d1 d2
        obtain ⟨x, y, rfl, ex, ey⟩ := two_of ex1
        subst ex ey
        split at hz
        · rename_i ws vs hw hv
          cases hz
          obtain ⟨m1, a1, zs1, _, rfl, rfl, c1, n1⟩ := lits_A hw
          obtain ⟨m2, a2, zs2, _, rfl, rfl, c2, n2⟩ := lits_A hv
          obtain ⟨s2, g2, ok2⟩ := settle_args s g1 s1 ok1 new1 (by rw [allL, allL, allL, Bool.and_true, Bool.and_eq_true]; exact ⟨n1, n2⟩)
          refine ⟨a1.1, a2.1, zs1.map val, zs2.map val, rfl, .inl ⟨SqL.of (ok1.1.at_ s1.sub), SqL.of (ok1.2.1.at_ s1.sub), ?_⟩⟩
          refine q _ H1 r1 _ g2 s2 e1 fun i F2 H2 r2 σ2 gg ss => ?_
          have l1 : SqL C.K H2 a1.1 (zs1.map val) := by
            have h : At C.K ca F2 .lst a1 ((mkL calm zs1).map val) := At.same ok2.1.1.2.1 gg.fs
            rw [valL_mk] at h
            exact SqL.of (ss.sub.at_ h)
          have l2 : SqL C.K H2 a2.1 (zs2.map val) := by
            have h : At C.K ca F2 .lst a2 ((mkL calm zs2).map val) := At.same ok2.2.1.1.2.1 gg.fs
            rw [valL_mk] at h
            exact SqL.of (ss.sub.at_ h)
          refine ⟨fun d hd => ?_, fun hl => ⟨_, _, l1, l2, ?_⟩⟩
          · obtain ⟨x, y, hx, hy, rfl⟩ := zip_get hd
            refine ⟨⟨_, _, val x, val y, l1, l2, by rw [List.getElem?_map, hx]; rfl, by rw [List.getElem?_map, hy]; rfl⟩, fun v H3 ⟨T0, x', y', ev, hT, eH, hx', hy'⟩ => ?_⟩
            have q1 := hx' _ l1
            have q2 := hy' _ l2
            rw [List.getElem?_map, hx] at q1
            rw [List.getElem?_map, hy] at q2
            have q1 : val x = x' := Option.some.inj q1
            have q2 : val y = y' := Option.some.inj q2
            subst q1 q2 ev eH
            have mx := List.mem_of_getElem? hx
            have my := List.mem_of_getElem? hy
            rw [allL_eq, List.all_eq_true] at c1 c2
            have ox : Ok (cx ca C) F2 H2 x := cold_stay (OkL_iff.mp ok2.1.2 x (by rw [mkL_cold rfl (by rw [allL_eq, List.all_eq_true]; exact c1)]; exact mx)) (c1 x mx) gg.fs
            have oy : Ok (cx ca C) F2 H2 y := cold_stay (OkL_iff.mp ok2.2.1.2 y (by rw [mkL_cold rfl (by rw [allL_eq, List.all_eq_true]; exact c2)]; exact my)) (c2 y my) gg.fs
            exact pair_out ss hT ox oy (c1 x mx) (c2 y my)
          · rw [List.length_map, List.length_zip, List.length_map, List.length_map] at hl
            rw [List.length_map, List.length_map]
            omega
        · split at hz
          · rename_i ws vs hw hv
            split at hz
            · rename_i hcc
              cases hz
              obtain ⟨a1, zs1, rfl, ez1⟩ := er_nd (tits_ok hw)
              obtain ⟨a2, zs2, rfl, ez2⟩ := er_nd (tits_ok hv)
              have c1 : allL isC zs1 = true := er_cold (by rw [ez1]; exact hcc.1)
              have c2 : allL isC zs2 = true := er_cold (by rw [ez2]; exact hcc.2)
              rw [mapL_eq] at ez1 ez2
              subst ez1 ez2
              refine ⟨a1.1, a2.1, zs1.map val, zs2.map val, rfl, .inr ⟨ok1.1.at_ s1.sub, ok1.2.1.at_ s1.sub, ?_⟩⟩
              refine q F1 H1 r1 _ g1 s1 e1 fun i F2 H2 r2 σ2 gg ss => ?_
              have l1 : SqT C.K H2 a1.1 (zs1.map val) := ss.sub.at_ (At.same (k := .tup) ok1.1.1.2.1 gg.fs)
              have l2 : SqT C.K H2 a2.1 (zs2.map val) := ss.sub.at_ (At.same (k := .tup) ok1.2.1.1.2.1 gg.fs)
              refine ⟨fun d hd => ?_, fun hl => ⟨_, _, l1, l2, ?_⟩⟩
              · obtain ⟨x, y, hx, hy, rfl⟩ := zip_get hd
                refine ⟨⟨_, _, val x, val y, l1, l2, by rw [List.getElem?_map, hx]; rfl, by rw [List.getElem?_map, hy]; rfl⟩, fun v H3 ⟨T0, x', y', ev, hT, eH, hx', hy'⟩ => ?_⟩
                have q1 := hx' _ l1
                have q2 := hy' _ l2
                rw [List.getElem?_map, hx] at q1
                rw [List.getElem?_map, hy] at q2
                have q1 : val x = x' := Option.some.inj q1
                have q2 : val y = y' := Option.some.inj q2
                subst q1 q2 ev eH
                have mx := List.mem_of_getElem? hx
                have my := List.mem_of_getElem? hy
                rw [allL_eq, List.all_eq_true] at c1 c2
                exact pair_out ss hT (cold_stay (OkL_iff.mp ok1.1.2 x mx) (c1 x mx) gg.fs) (cold_stay (OkL_iff.mp ok1.2.1.2 y my) (c2 y my) gg.fs) (c1 x mx) (c2 y my)
              · rw [List.length_map, List.length_zip, List.length_map, List.length_map] at hl
                rw [List.length_map, List.length_map]
                omega
            · cases hz
          · cases hz
      · cases hz⟩
theorem opn_all (hc : C.calm = true) : OpN (cx ca C) (CallR C (.builtin "all")) D.all1 := by
  intro ds d h
  unfold D.all1 at h
  split at h
  · rename_i m u xs0
    cases hb : blsL xs0 with
    | none => rw [hb] at h; cases h
    | some bs =>
      rw [hb] at h; cases h
      refine ⟨_, cr_all hc, fun F H xs Q s ok nd ex k => ?_⟩
      obtain ⟨x, rfl, e⟩ := one_of ex
      obtain ⟨a, zs, rfl, ez⟩ := er_nd e
      rw [mapL_eq] at ez
      rw [← ez] at hb
      exact ⟨a.1, bs, rfl, SqL.of (by have := ok.1.at_ s; rw [blsL_val hb] at this; exact this), k.plain s rfl⟩
  · cases h
theorem opn_any (hc : C.calm = true) : OpN (cx ca C) (CallR C (.builtin "any")) D.any1 := by
  intro ds d h
  unfold D.any1 at h
  split at h
  · rename_i m u xs0
    cases hb : blsL xs0 with
    | none => rw [hb] at h; cases h
    | some bs =>
      rw [hb] at h; cases h
      refine ⟨_, cr_any hc, fun F H xs Q s ok nd ex k => ?_⟩
      obtain ⟨x, rfl, e⟩ := one_of ex
      obtain ⟨a, zs, rfl, ez⟩ := er_nd e
      rw [mapL_eq] at ez
      rw [← ez] at hb
      exact ⟨a.1, bs, rfl, SqL.of (by have := ok.1.at_ s; rw [blsL_val hb] at this; exact this), k.plain s rfl⟩
  · cases h
theorem opn_sum (hc : C.calm = true) : OpN (cx ca C) (CallR C (.builtin "sum")) D.sum1 := by
  intro ds d h
  unfold D.sum1 at h
  split at h
  · rename_i m u xs0
    cases hb : intsL xs0 with
    | none => rw [hb] at h; cases h
    | some bs =>
      rw [hb] at h; cases h
      refine ⟨_, cr_sum hc, fun F H xs Q s ok nd ex k => ?_⟩
      obtain ⟨x, rfl, e⟩ := one_of ex
      obtain ⟨a, zs, rfl, ez⟩ := er_nd e
      rw [mapL_eq] at ez
      rw [← ez] at hb
      exact ⟨a.1, bs, rfl, SqL.of (by have := ok.1.at_ s; rw [intsL_val hb] at this; exact this), k.plain s rfl⟩
  · cases h
end
end Vl
/-! The value layer, 26: what settles nothing; calls by name; fixed slots. -/
namespace Vl
open PySem PySem.Spec PyProof.Rows L2

def PureA (f : Env → R (List D)) : Prop := ∀ ρ d ρ', f ρ = .ok d ρ' → ρ' = ρ
def PureO (f : Eo) : Prop := ∀ ρ d ρ', f ρ = .ok d ρ' → ρ' = ρ
def PureP (f : Pv) : Prop := ∀ ρ d ρ', f ρ = .ok d ρ' → ρ' = ρ
theorem bind_ok {β γ : Type} {x : R β} {k : β → Env → R γ} {v : γ} {ρ : Env} (h : x.bind k = .ok v ρ) : ∃ u ρ1, x = .ok u ρ1 ∧ k u ρ1 = .ok v ρ := by
  cases x with
  | ok u ρ1 => exact ⟨u, ρ1, rfl, h⟩
  | exc c fs ρ1 => cases h
  | bad => cases h
theorem of_ok {β : Type} {o : Option β} {v : β} {ρ ρ' : Env} (h : R.of o ρ = .ok v ρ') : o = some v ∧ ρ' = ρ := by
  cases o with
  | none => cases h
  | some u => cases h; exact ⟨rfl, rfl⟩
section
variable {f g h : Ev} {fa : Env → R (List D)} {p : Pv}
theorem pu_c {d : D} : PureE (E.c d) := fun ρ d ρ' h => by cases h; rfl
theorem pu_var {i : Nat} : PureP (P.var i) := fun ρ d ρ' h => by
  unfold P.var at h
  split at h <;> cases h
  rfl
theorem pu_at (hp : PureP p) : PureE (E.at p) := fun ρ d ρ' h => by
  obtain ⟨q, ρ1, h1, h2⟩ := bind_ok h
  rw [hp _ _ _ h1] at h2
  split at h2
  · cases h2; rfl
  · cases h2
theorem pu_un {k : D → Option D} (hf : PureE f) : PureE (E.un k f) := fun ρ d ρ' h => by
  obtain ⟨q, ρ1, h1, h2⟩ := bind_ok h
  rw [(of_ok h2).2, hf _ _ _ h1]
theorem pu_bin {k : D → D → Option D} (hf : PureE f) (hg : PureE g) : PureE (E.bin k f g) := fun ρ d ρ' h => by
  obtain ⟨q, ρ1, h1, h2⟩ := bind_ok h
  obtain ⟨q2, ρ2, h3, h4⟩ := bind_ok h2
  rw [(of_ok h4).2, hg _ _ _ h3, hf _ _ _ h1]
theorem pu_nil : PureA E.nil := fun ρ d ρ' h => by cases h; rfl
theorem pu_nil2 : PureA A.nil := fun ρ d ρ' h => by cases h; rfl
theorem pu_cons (hf : PureE f) (ha : PureA fa) : PureA (E.cons f fa) := fun ρ d ρ' h => by
  obtain ⟨q, ρ1, h1, h2⟩ := bind_ok h
  obtain ⟨q2, ρ2, h3, h4⟩ := bind_ok h2
  cases h4
  rw [ha _ _ _ h3, hf _ _ _ h1]
theorem pu_args {k : List D → Option D} (ha : PureA fa) : PureE (E.args k fa) := fun ρ d ρ' h => by
  obtain ⟨q, ρ1, h1, h2⟩ := bind_ok h
  rw [(of_ok h2).2, ha _ _ _ h1]
theorem pu_call {c : Fc} {dd : List A} (ha : PureA fa) : PureE (E.call c dd fa) := fun ρ d ρ' h => by
  obtain ⟨q, ρ1, h1, h2⟩ := bind_ok h
  have e := ha _ _ _ h1
  split at h2
  · cases ho : c.fn (q ++ dd.map er) with
    | ok d os => rw [ho] at h2; cases h2; exact e
    | exc n fs os => rw [ho] at h2; cases h2
    | bad => rw [ho] at h2; cases h2
  · cases h2
theorem pu_meth {n m : Str} {c : Fc} {dd : List A} (hf : PureE f) (ha : PureA fa) : PureE (E.meth n m c dd f fa) := fun ρ d ρ' h => by
  obtain ⟨q, ρ1, h1, h2⟩ := bind_ok h
  have e := hf _ _ _ h1
  split at h2
  · split at h2
    · obtain ⟨q2, ρ2, h3, h4⟩ := bind_ok h2
      have e2 := ha _ _ _ h3
      rename_i n' fs _ _ _ _
      split at h4
      · generalize hx : c.fn _ = o at h4
        cases o with
        | ok d os => cases h4; rw [e2, e]
        | exc n fs os => cases h4
        | bad => cases h4
      · cases h4
    · cases h2
  · cases h2
theorem pu_no : PureO E.no := fun ρ d ρ' h => by cases h; rfl
theorem pu_part (hf : PureE f) : PureO (E.part f) := fun ρ d ρ' h => by
  obtain ⟨q, ρ1, h1, h2⟩ := bind_ok h
  split at h2
  · cases h2; exact hf _ _ _ h1
  · cases h2
theorem pu_sl {lo hi : Eo} (hf : PureE f) (hl : PureO lo) (hh : PureO hi) : PureE (E.sl f lo hi) := fun ρ d ρ' h => by
  obtain ⟨q, ρ1, h1, h2⟩ := bind_ok h
  obtain ⟨q2, ρ2, h3, h4⟩ := bind_ok h2
  obtain ⟨q3, ρ3, h5, h6⟩ := bind_ok h4
  rw [(of_ok h6).2, hh _ _ _ h5, hl _ _ _ h3, hf _ _ _ h1]
theorem pu_ms1 {k : Str → D → Option D} (hf : PureE f) (hg : PureE g) : PureE (E.ms1 k f g) := fun ρ d ρ' h => by
  obtain ⟨q, ρ1, h1, h2⟩ := bind_ok h
  split at h2
  · obtain ⟨q2, ρ2, h3, h4⟩ := bind_ok h2
    rw [(of_ok h4).2, hg _ _ _ h3, hf _ _ _ h1]
  · cases h2
theorem pu_and (hf : PureE f) (hg : PureE g) : PureE (E.and f g) := fun ρ d ρ' h => by
  obtain ⟨q, ρ1, h1, h2⟩ := bind_ok h
  have e := hf _ _ _ h1
  split at h2
  · rw [hg _ _ _ h2, e]
  · cases h2; exact e
  · cases h2
theorem pu_or (hf : PureE f) (hg : PureE g) : PureE (E.or f g) := fun ρ d ρ' h => by
  obtain ⟨q, ρ1, h1, h2⟩ := bind_ok h
  have e := hf _ _ _ h1
  split at h2
  · cases h2; exact e
  · rw [hg _ _ _ h2, e]
  · cases h2
theorem pu_ite (hf : PureE f) (hg : PureE g) (hh : PureE h) : PureE (E.ite f g h) := fun ρ d ρ' h0 => by
  obtain ⟨q, ρ1, h1, h2⟩ := bind_ok h0
  have e := hf _ _ _ h1
  split at h2
  · rw [hg _ _ _ h2, e]
  · rw [hh _ _ _ h2, e]
  · cases h2
theorem pu_chain {k k' : D → D → Option D} (hf : PureE f) (hg : PureE g) (hh : PureE h) : PureE (E.chain k k' f g h) := fun ρ d ρ' h0 => by
  obtain ⟨q, ρ1, h1, h2⟩ := bind_ok h0
  obtain ⟨q2, ρ2, h3, h4⟩ := bind_ok h2
  have e := hf _ _ _ h1
  have e2 := hg _ _ _ h3
  split at h4
  · obtain ⟨q3, ρ3, h5, h6⟩ := bind_ok h4
    rw [(of_ok h6).2, hh _ _ _ h5, e2, e]
  · cases h4; rw [e2, e]
  · cases h4
theorem pu_isi {T : String} (hf : PureE f) : PureE (E.isi T f) := fun ρ d ρ' h => by
  obtain ⟨q, ρ1, h1, h2⟩ := bind_ok h
  split at h2
  · cases h2; exact hf _ _ _ h1
  · cases h2
theorem pu_fld {Cs : List Str} {n : Str} (hp : PureP p) : PureP (P.fld Cs n p) := fun ρ d ρ' h => by
  obtain ⟨q, ρ1, h1, h2⟩ := bind_ok h
  have e := hp _ _ _ h1
  split at h2
  · split at h2
    · split at h2
      · cases h2; exact e
      · cases h2
    · cases h2
  · cases h2
theorem pu_ix (hp : PureP p) (hf : PureE f) : PureP (P.ix p f) := fun ρ d ρ' h => by
  obtain ⟨q, ρ1, h1, h2⟩ := bind_ok h
  obtain ⟨q2, ρ2, h3, h4⟩ := bind_ok h2
  have e := hp _ _ _ h1
  have e2 := hf _ _ _ h3
  split at h4
  · split at h4
    · cases h4; rw [e2, e]
    · cases h4
  · split at h4
    · cases h4; rw [e2, e]
    · cases h4
  · cases h4
def PureI (f : Iv) : Prop := ∀ ρ d ρ', f ρ = .ok d ρ' → ρ' = ρ
theorem pu_of (hf : PureE f) : PureI (I.of f) := fun ρ d ρ' h => by
  obtain ⟨q, ρ1, h1, h2⟩ := bind_ok h
  split at h2
  · cases h2; exact hf _ _ _ h1
  · cases h2
theorem pu_range1 (ha : PureA fa) : PureI (I.range1 fa) := fun ρ d ρ' h => by
  obtain ⟨q, ρ1, h1, h2⟩ := bind_ok h
  have e := ha _ _ _ h1
  split at h2
  · split at h2
    · cases h2; exact e
    · cases h2
  · cases h2
theorem pu_range2 (ha : PureA fa) : PureI (I.range2 fa) := fun ρ d ρ' h => by
  obtain ⟨q, ρ1, h1, h2⟩ := bind_ok h
  have e := ha _ _ _ h1
  split at h2
  · split at h2
    · cases h2; exact e
    · cases h2
  · cases h2
theorem pu_zip (ha : PureA fa) : PureI (I.zip fa) := fun ρ d ρ' h => by
  obtain ⟨q, ρ1, h1, h2⟩ := bind_ok h
  rw [(of_ok h2).2, ha _ _ _ h1]
theorem pu_lc {fi : Iv} {vs : List Nat} {gv : Gv} {t : Ev} (hi : PureI fi) : PureE (E.lc fi vs gv t f) := fun ρ d ρ' h => by
  obtain ⟨q, ρ1, h1, h2⟩ := bind_ok h
  have e := hi _ _ _ h1
  split at h2
  · split at h2
    · cases h2; exact e
    · cases h2
  · cases h2
end
theorem nofix {fx : List (Nat × V)} {ms : List Bool} {i : Nat} (h : ∀ p ∈ fx, ms[p.1]? = some true) (hi : ms[i]? ≠ some true) : ∀ p ∈ fx, p.1 ≠ i := fun p hp e => hi (by rw [← e]; exact h p hp)
theorem nofixL {fx : List (Nat × V)} {ms : List Bool} {vs : List Nat} (h : ∀ p ∈ fx, ms[p.1]? = some true) (hi : vs.all (fun i => decide (ms[i]? ≠ some true)) = true) : ∀ p ∈ fx, p.1 ∉ vs := fun p hp e => by
  have := of_decide_eq_true (List.all_eq_true.mp hi p.1 e)
  exact this (h p hp)
/-- a def of the module that may be called by its name -/
structure Cal (P : Program) (w : World) (K : PySem.W.Frag) (mg : Str → Option Value) (base : Heap) (cf : Str → Addr) (k : Nat) (x : Str) (c : Fc) (dd : List A) : Prop where
  ex : ∃ (f : Addr) (fd : FuncData) (ps : List Str) (ds : List Value), FnOk P w K mg base (L2.CX P w) k f fd ps (spM K cf c) ∧ mg x = some (.ref f) ∧ PySem.W.keepIn K (.ref f) = true ∧ Binds K fd ps ds ∧ Vals (dd.map val) ds
section
variable {ca : Ca} {C : Cx} {W : WX} {e : Expr} {es : List Expr} {fa : Env → R (List D)} {c : Fc} {dd : List A} {x : Str} {p pos : Pos} {j k : Nat}
theorem ce_callN (h : Cal C.prog C.w C.K C.mg C.base ca.f k x c dd) (hr : Room j C.A) (hk : k ≤ j) (hg : Gl C x) (tk : Takes C W) (ha : CA ca C W (e :: es) fa) (hdd : dd.all leafA = true := by rfl) (hdb : (x == ("__debug__" : Str)) = false := by decide)
    (he : starEach (e :: es) C.env = (false, eval e C.env) :: starEach es C.env := by rfl) (hpl : (backTo pos (starEach es C.env)).any (·.1) = false := by rfl) : CE ca C W (.Call (.Name x p) (e :: es) [] pos) (E.call c dd fa) := by
  obtain ⟨f, fd, ps, ds, Fn, hm, hkp, hb, hd⟩ := h.ex
  exact ce_call Fn (hr.mono hk) hg hm hkp hb hd tk hdd ha hdb he hpl
/-- a constant of a class, by names -/
def CVN (K : PySem.W.Frag) (mg : Str → Option Value) (y n : Str) (d : D) : Prop := ∃ (B : Addr) (mc u : Value), mg y = some (.ref B) ∧ ClX.CRead K B mc ∧ ClX.CVal K B mc n (val (up d)) u
theorem ce_cvalN {y n : Str} {d : D} (h : plain d = true) (hg : Gl C y) (hc : CVN C.K C.mg y n d) (hdb : (y == ("__debug__" : Str)) = false := by decide) (hb : attributeBase (.Name y p) n C.env (eval (.Name y p) C.env) = eval (.Name y p) C.env := by rfl) : CE ca C W (.Attribute (.Name y p) n pos) (E.c d) := by
  obtain ⟨B, mc, u, hm, hr, hv⟩ := hc
  exact ce_cval h hg hm hr hv hdb hb
/-- a text of the module -/
theorem ce_gstr {y z : Str} (hg : Gl C y) (h : ∃ t, C.mg y = some (.str z t)) (hdb : (y == ("__debug__" : Str)) = false := by decide) : CE ca C W (.Name y pos) (E.c (.str z)) := by
  obtain ⟨t, hm⟩ := h
  exact ce_const rfl (pe_glob hg hm (v := .str z) ⟨t, rfl⟩ hdb)
theorem ce_gint {y : Str} {z : Int} (hg : Gl C y) (h : ∃ t, C.mg y = some (.int z t)) (hdb : (y == ("__debug__" : Str)) = false := by decide) : CE ca C W (.Name y pos) (E.c (.int z)) := by
  obtain ⟨t, hm⟩ := h
  exact ce_const rfl (pe_glob hg hm (v := .int z) ⟨t, rfl⟩ hdb)
end
end Vl
/-! The value layer, 27: a law's end; facts of classes. -/
namespace Vl
open PySem PySem.Spec PyProof.Rows L2

theorem cx_none {P : Program} {w : World} {l : List PySem.Env} {H : Hp} {s : Shared} {e : Value} {s' : Shared} (h : L2.CX P w l H s (fun _ _ _ => False) e s') : False := by
  obtain ⟨_, _, _, _, _, _, _, _, _, _, _, _, z⟩ := h
  exact z
theorem scr_ok {X : Ctx} {F H : Hp} {a : Addr} {ns : List Int} (h : SqL X.K F a (ns.map V.int)) : Ok X F H (.nd .scr .c (a, 0) (ns.map T.int)) := by
  refine ⟨⟨trivial, ?_, ?_⟩, OkL_iff.mpr fun x hx => ?_⟩
  · show SqL X.K F a ((ns.map T.int).map val)
    rw [List.map_map]; exact h
  · rw [allL_eq, List.all_eq_true]
    intro x hx
    obtain ⟨i, _, rfl⟩ := List.mem_map.mp hx
    rfl
  · obtain ⟨i, _, rfl⟩ := List.mem_map.mp hx
    trivial
/-- a law: what it does with every script -/
theorem law_sp {K : PySem.W.Frag} {cf : Str → Addr} {c : Fc} {ns : List Int} {H : Hp} {a : Addr} (hn : c.np = 1) (hc : ∃ os, c.fn [.nd .scr .c () (ns.map T.int)] = .ok (.bl true) os) (hS : SqL K H a (ns.map V.int)) :
    spM K cf c [.ref a] H (fun v _ => v = .bl true) fun _ _ _ => False := by
  obtain ⟨os, hc⟩ := hc
  have e : ([.nd .scr .c (a, 0) (ns.map T.int)] : List A).map er = [.nd .scr .c () (ns.map T.int)] := by
    show [T.nd .scr .c () (mapL (fun _ => ()) (ns.map T.int))] = _
    rw [mapL_eq, List.map_map]; rfl
  have ad : ∀ q, q ≠ Mk.c → adrL q [(.nd .scr .c (a, 0) (ns.map T.int) : A)] = [] := fun q hq => by
    rw [adrL, adrL, List.append_nil, adr, if_neg (fun z => hq z.symm), List.nil_append, adrL_eq]
    rw [List.flatMap_eq_nil_iff]
    intro x hx
    obtain ⟨i, _, rfl⟩ := List.mem_map.mp hx
    rfl
  refine ⟨H, [.nd .scr .c (a, 0) (ns.map T.int)], rfl, Sub.refl H, ⟨scr_ok hS, trivial⟩, by rw [ad .o (by decide)]; exact List.nodup_nil, by rw [ad .b (by decide)]; exact fun _ z => (by cases z), by rw [hn]; rfl, ?_⟩
  rw [e, hc]
  intro F' H' ys z dn gv ez
  cases z with
  | bl b => cases ez; rfl
  | _ => cases ez
theorem walk_law {l : PySem.W.OpenLaw} {n k : Nat} {q : Program} {loose : List Str} {XP : (Str → Option Value) → Heap → Prop} {YP : World → Heap → Prop} {d : DefRec} {x : Str}
    (hn : l.most = some n) (hn2 : n ≤ sizeLine) (hdf : d.params.defaults = []) (hr : Room k callerA)
    (F : ∀ (w : World) (mg : Str → Option Value) (fa : Addr) (h : Heap), YP w h → h.Ns mainGlobals mg → mg d.name = some (.ref fa) → ∃ (K : PySem.W.Frag) (fd : FuncData) (cf : Str → Addr) (c : Fc), K.In h ∧
      (∀ (s : Shared) (u : Value), BindsTo s fd ⟨[u], []⟩ [(x, u)]) ∧ c.np = 1 ∧ (∀ ns : List Int, ns.length ≤ n → ∃ os, c.fn [.nd .scr .c () (ns.map T.int)] = .ok (.bl true) os) ∧
      ∀ base : Heap, K.In base → base.Ns mainGlobals mg → FnOk l.prog w K mg base (L2.CX l.prog w) k fa fd [x] (spM K cf c)) :
    PySem.W.WalkO q loose XP YP l.row.toRowW d [] (fun f vs => PySem.call f vs) := by
  refine Att.attach_call hn hdf ?_
  intro w s₀ s₁ mg mb fa o pm cd doc a vs ns G Y ho hd hcd hmg hobj hints hlen hg
  obtain ⟨K, fd, cf, c, KX, hb, h1, hc, hF⟩ := F w mg fa _ Y G.T.g hmg
  exact law_call KX G.T.g G.T.b G.T.builtins G.T.nolimit hg hobj hints (Nat.le_trans hlen hn2) hr hF hb (fun H _ hS => law_sp h1 (hc ns hlen) hS) fun H e s' => cx_none
/-! ### classes -/
def crdB (K : PySem.W.Frag) (C : Str) : Bool := PySem.W.readsIn K (He.ga K C) (.type "type") && He.eqO (PySem.W.specialIn K (.ref (He.ga K C)) "__getattribute__") (some (some (.builtin "type.__getattribute__")))
def cvlB (K : PySem.W.Frag) (C f : Str) (d : He.Dv) : Bool := match PySem.W.findCls K (.ref (He.ga K C)) (.type "type") f with
  | some (.val u) => He.relB (d.v K) u
  | _ => false
theorem cvn_ok {K : PySem.W.Frag} {h : Heap} {mg : Str → Option Value} {C f : Str} {d : D} {v : He.Dv} (X : K.In h) (G : h.Ns mainGlobals mg) (hg : (He.Fa.glo C).ok K = true) (h1 : crdB K C = true) (h2 : cvlB K C f v = true) (hv : v.v K = val (up d)) : CVN K mg C f d := by
  obtain ⟨a1, a2⟩ := He.ba h1
  unfold cvlB at h2
  split at h2
  · rename_i u hu
    exact ⟨He.ga K C, .type "type", u, He.glo_ok X G hg, ⟨a1, He.eqO_ok a2⟩, ⟨hu, by rw [← hv]; exact He.relB_ok h2⟩⟩
  · cases h2
/-! ### what the head looks at -/
def asV (g : Addr → Option Obj) (n : Nat) : List Addr := He.asD g n ++ [cStatics]
def obsV (n : Nat) (fa : List He.Fa) (fn : List He.DefD) (ts : List He.Tab) (ex : PySem.W.Frag → Bool) (g : Addr → Option Obj) : He.AlT × Bool := (He.obsT fa fn ts (He.frG g (asV g n)), ex (He.frG g (asV g n)))
structure SaysV (fa : List He.Fa) (fn : List He.DefD) (ts : List He.Tab) (ex : PySem.W.Frag → Bool) (w : World) (K : PySem.W.Frag) : Prop where
  t : He.SaysT fa fn ts w K
  more : ex K = true
def hookV (n : Nat) (fa : List He.Fa) (fn : List He.DefD) (ts : List He.Tab) (ex : PySem.W.Frag → Bool) : PySem.W.Hook where
  α := He.AlT × Bool
  obs := fun s => obsV n fa fn ts ex s.heap.get?
  val := fun w => (He.valT fn ts w, true)
  says := fun w h => ∃ K : PySem.W.Frag, K.In h ∧ SaysV fa fn ts ex w K
  of := fun _ _ e => ⟨_, He.frG_in, ⟨congrArg (fun z : He.AlT × Bool => z.1) e, congrArg (fun z : He.AlT × Bool => z.2) e⟩⟩
  keeps := fun _ _ _ ⟨K, hK, c⟩ k => ⟨K, PySem.W.Frag.In.keeps hK k, c⟩
theorem obsV_eq {n : Nat} {fa : List He.Fa} {fn : List He.DefD} {ts : List He.Tab} {ex : PySem.W.Frag → Bool} {g : Addr → Option Obj} {s : Shared} (h : ∀ a, g a = s.heap.get? a) : obsV n fa fn ts ex g = (hookV n fa fn ts ex).obs s := by
  have e : g = s.heap.get? := funext h
  rw [e]; rfl
end Vl
/-! The value layer, 28: running the functions by simp: the left part first, what follows only when it is known (what follows is named, so that simp does not enter it). -/
namespace Vl
open PySem PySem.Spec PyProof.Rows L2

def K.bin1 (k : D → D → Option D) (g : Ev) (x : R D) : R D := x.bind fun d1 ρ1 => (g ρ1).bind fun d2 ρ2 => R.of (k d1 d2) ρ2
def K.bin2 (k : D → D → Option D) (d1 : D) (x : R D) : R D := x.bind fun d2 ρ2 => R.of (k d1 d2) ρ2
def K.un (k : D → Option D) (x : R D) : R D := x.bind fun d1 ρ1 => R.of (k d1) ρ1
def K.args (k : List D → Option D) (x : R (List D)) : R D := x.bind fun d1 ρ1 => R.of (k d1) ρ1
def K.cons1 (fa : Vl.Env → R (List D)) (x : R D) : R (List D) := x.bind fun d ρ1 => (fa ρ1).bind fun ds ρ2 => .ok (d :: ds) ρ2
def K.cons2 (d : D) (x : R (List D)) : R (List D) := x.bind fun ds ρ2 => .ok (d :: ds) ρ2
def K.and (g : Ev) (x : R D) : R D := x.bind fun d ρ1 => match d with | .bl true => g ρ1 | .bl false => .ok (.bl false) ρ1 | _ => .bad
def K.or (g : Ev) (x : R D) : R D := x.bind fun d ρ1 => match d with | .bl true => .ok (.bl true) ρ1 | .bl false => g ρ1 | _ => .bad
def K.ite (g h : Ev) (x : R D) : R D := x.bind fun d ρ1 => match d with | .bl true => g ρ1 | .bl false => h ρ1 | _ => .bad
def K.call (c : Fc) (dd : List A) (x : R (List D)) : R D := x.bind fun ds ρ1 => if ds.length + dd.length = c.np then (c.fn (ds ++ dd.map er)).toR ρ1 else .bad
def K.ret (x : R D) : SR := x.toS fun d ρ1 => if d.nob = true then .ret d ρ1 else .bad
def K.sif (u v : Sv) (x : R D) : SR := x.toS fun d ρ1 => match d with | .bl true => u ρ1 | .bl false => v ρ1 | _ => .bad
def K.asg (gv : Gv) (x : R D) : SR := x.toS fun d ρ1 => if d.nob = true then match gv d ρ1 with | some ρ2 => .nx ρ2 | none => .bad else .bad
def K.for_ (gv : Gv) (u : Sv) (x : R (List D)) : SR := x.toS fun ds ρ1 => forL gv u ds ρ1
def K.seq (v : Sv) (x : SR) : SR := x.andThen v
def K.lm (gk : List D → D → Option (List D)) (i : Nat) (x : R D) : SR := x.toS fun d ρ2 => match getR ρ2 i [] with
  | some (.nd .lst .o _ xs) => match gk xs d with
    | some ys => .nx (modS (T.kids ys) ρ2 i [])
    | none => .bad
  | _ => .bad
section
variable {ρ : Vl.Env} {f g h : Ev} {fa : Vl.Env → R (List D)} {u v : Sv} {i : Nat} {d e : D} {ds : List D} {b : Bool} {k : D → D → Option D} {k1 : D → Option D} {kn : List D → Option D} {c : Fc} {dd : List A} {gv : Gv} {fi : Iv} {gk : List D → D → Option (List D)} {n : Str} {fs : List (Str × D)}
theorem x_c : E.c d ρ = .ok d ρ := rfl
theorem x_at : E.at (P.var i) ρ = (match ρ[i]? with | some (some d) => .ok d.vw ρ | _ => .bad) := by
  unfold E.at P.var getR
  cases e : ρ[i]? with
  | none => rfl
  | some o =>
    cases o with
    | none => rfl
    | some d => simp [R.bind, e, getT]
theorem x_tk : E.tk (P.var i) ρ = (match ρ[i]? with | some (some d) => if d.cold = true then .ok d ρ else if d.nob = true then .ok d.fz (modS T.fz ρ i []) else .bad | _ => .bad) := by
  unfold E.tk P.var getR
  cases e : ρ[i]? with
  | none => rfl
  | some o =>
    cases o with
    | none => rfl
    | some d => simp [R.bind, e, getT]
theorem x_bin : E.bin k f g ρ = K.bin1 k g (f ρ) := rfl
theorem k_bin1 : K.bin1 k g (.ok d ρ) = K.bin2 k d (g ρ) := rfl
theorem k_bin2 : K.bin2 k d (.ok e ρ) = R.of (k d e) ρ := rfl
theorem x_un : E.un k1 f ρ = K.un k1 (f ρ) := rfl
theorem k_un : K.un k1 (.ok d ρ) = R.of (k1 d) ρ := rfl
theorem x_args : E.args kn fa ρ = K.args kn (fa ρ) := rfl
theorem k_args : K.args kn (.ok ds ρ) = R.of (kn ds) ρ := rfl
theorem x_nil : E.nil ρ = .ok [] ρ := rfl
theorem x_cons : E.cons f fa ρ = K.cons1 fa (f ρ) := rfl
theorem k_cons1 : K.cons1 fa (.ok d ρ) = K.cons2 d (fa ρ) := rfl
theorem k_cons2 : K.cons2 d (.ok ds ρ) = .ok (d :: ds) ρ := rfl
theorem x_and : E.and f g ρ = K.and g (f ρ) := rfl
theorem k_and1 : K.and g (.ok (.bl true) ρ) = g ρ := rfl
theorem k_and0 : K.and g (.ok (.bl false) ρ) = .ok (.bl false) ρ := rfl
theorem x_or : E.or f g ρ = K.or g (f ρ) := rfl
theorem k_or1 : K.or g (.ok (.bl true) ρ) = .ok (.bl true) ρ := rfl
theorem k_or0 : K.or g (.ok (.bl false) ρ) = g ρ := rfl
theorem x_ite : E.ite f g h ρ = K.ite g h (f ρ) := rfl
theorem k_ite1 : K.ite g h (.ok (.bl true) ρ) = g ρ := rfl
theorem k_ite0 : K.ite g h (.ok (.bl false) ρ) = h ρ := rfl
theorem x_call : E.call c dd fa ρ = K.call c dd (fa ρ) := rfl
theorem k_call : K.call c dd (.ok ds ρ) = if ds.length + dd.length = c.np then (c.fn (ds ++ dd.map er)).toR ρ else .bad := rfl
theorem x_seq : S.seq u v ρ = K.seq v (u ρ) := rfl
theorem x_snil : S.nil ρ = .nx ρ := rfl
theorem x_ret : S.ret f ρ = K.ret (f ρ) := rfl
theorem k_ret : K.ret (.ok d ρ) = if d.nob = true then .ret d ρ else .bad := rfl
theorem x_sif : S.ite f u v ρ = K.sif u v (f ρ) := rfl
theorem k_sif1 : K.sif u v (.ok (.bl true) ρ) = u ρ := rfl
theorem k_sif0 : K.sif u v (.ok (.bl false) ρ) = v ρ := rfl
theorem x_asg : S.asg f gv ρ = K.asg gv (f ρ) := rfl
theorem k_asg : K.asg gv (.ok d ρ) = if d.nob = true then match gv d ρ with | some ρ2 => .nx ρ2 | none => .bad else .bad := rfl
theorem x_name : G.name i d ρ = if i < ρ.length then some (ρ.set i (some d)) else none := rfl
theorem x_for : S.for_ fi gv u ρ = K.for_ gv u (fi ρ) := rfl
theorem k_for : K.for_ gv u (.ok ds ρ) = forL gv u ds ρ := rfl
theorem x_lm1 : S.lm1 gk (P.var i) f ρ = (match ρ[i]? with
  | some (some (.nd .lst .o _ _)) => K.lm gk i (f ρ)
  | _ => .bad) := by
  unfold S.lm1 P.var getR
  cases e : ρ[i]? with
  | none => rfl
  | some o =>
    cases o with
    | none => rfl
    | some d =>
      simp only [R.ok_toS, e, getT]
      cases d with
      | nd k m a xs => cases k <;> cases m <;> rfl
      | _ => rfl
theorem k_lm : K.lm gk i (.ok d ρ) = (match getR ρ i [] with
  | some (.nd .lst .o _ xs) => match gk xs d with
    | some ys => .nx (modS (T.kids ys) ρ i [])
    | none => .bad
  | _ => .bad) := rfl
theorem t_ok {β : Type} (v : β) (k : β → Vl.Env → SR) : (R.ok v ρ).toS k = k v ρ := rfl
theorem b_ok {β γ : Type} (v : β) (k : β → Vl.Env → R γ) : (R.ok v ρ).bind k = k v ρ := rfl
theorem a_nx : K.seq u (.nx ρ) = u ρ := rfl
theorem a_ret : K.seq u (.ret d ρ) = .ret d ρ := rfl
theorem a_exc : K.seq u (.exc n fs ρ) = .exc n fs ρ := rfl
theorem a_bk : K.seq u (.bk ρ) = .bk ρ := rfl
theorem a_ct : K.seq u (.ct ρ) = .ct ρ := rfl
theorem o_some {β : Type} (v : β) : R.of (some v) ρ = .ok v ρ := rfl
end
end Vl
/-! The value layer, 29: exceptions made and raised. -/
namespace Vl
open PySem PySem.Spec PyProof.Rows L2

/-- the fields that an __init__ lays, the last one first -/
def flds {β : Type} (fl : List Str) (ys : List β) : List (Str × β) := (fl.zip ys).reverse
/-- an exception's __init__: each parameter is kept under a name -/
def spI (K : PySem.W.Frag) (fl : List Str) : Sp := fun vs H Q _ => ∃ (a C : Addr) (ws : List V), vs = .ref a :: ws ∧ ws.length = fl.length ∧ OexC K C ∧ (∀ f ∈ fl, PySem.W.findIn K (.ref C) f = some none) ∧ H a = some (exo a C none) ∧
  ∀ d, H d = none → d ≠ a → Q .non (upd (upd H d (exd d (flds fl ws))) a (exo a C (some d)))
theorem upd_upd {H : Hp} {a : Addr} {u v : HO} : upd (upd H a u) a v = upd H a v := by
  funext b
  by_cases e : b = a
  · rw [e, upd_same, upd_same]
  · rw [upd_ne e, upd_ne e, upd_ne e]
theorem upd_swap {H : Hp} {a b : Addr} {u v : HO} (h : a ≠ b) : upd (upd H a u) b v = upd (upd H b v) a u := by
  funext c
  by_cases e : c = b
  · rw [e, upd_same, upd_ne h.symm, upd_same]
  · rw [upd_ne e]
    by_cases e2 : c = a
    · rw [e2, upd_same, upd_same]
    · rw [upd_ne e2, upd_ne e2, upd_ne e]
section
variable {P : Program} {w : World} {K : PySem.W.Frag} {mg : Str → Option Value} {base : Heap} {f : Addr} {fd : FuncData} {qual : Str} {st : Stmt} {s0 f1 f2 p1 p2 : Str} {dvs : List V} {kws : List (Str × V)}
theorem init1 {a1 a2 a3 a4 : Pos} (Fu : FunD K "__init__" qual (defArgs st) (defBody st) (defScope st) dvs kws f fd) (S : FnScope [s0, p1] [s0, p1] (defScope st)) (hb : defBody st = [.Assign [.Attribute (.Name s0 a1) f1 a2] (.Name p1 a3) a4])
    (h0 : (defScope st).names.lookup s0 = some .local) (h1 : (defScope st).names.lookup p1 = some .local) (d0 : (s0 == ("__debug__" : Str)) = false) (d1 : (p1 == ("__debug__" : Str)) = false) (c0 : (s0 == ("__classdict__" : Str)) = false) (c1 : (p1 == ("__classdict__" : Str)) = false) :
    FnOk P w K mg base (L2.CX P w) 1 f fd [s0, p1] (spI K [f1]) := by
  refine FunD.ok (CX := L2.CX P w) Fu S (fun vs H Q E ⟨a, C, ws, ev, hl, _⟩ => by rw [ev, List.length_cons, hl]; rfl) fun cdv A outer s H vs Q E hr ⟨a, C, ws, ev, hl, T, hf, ea, q⟩ => ?_
  rw [hb]
  refine ⟨_, pss_cons (ps_ost (pe_var (i := 0) rfl (.inl h0) d0 c0) (pe_var (i := 1) rfl (.inl h1) d1 c1) rfl) pss_nil, ?_⟩
  obtain ⟨y, rfl⟩ : ∃ y, ws = [y] := by
    cases ws with
    | nil => cases hl
    | cons y r => cases r with
      | nil => exact ⟨y, rfl⟩
      | cons => cases hl
  subst ev
  refine ⟨y, rfl, .ref a, rfl, a, C, rfl, T, hf f1 List.mem_cons_self, .inl ⟨ea, fun d hd hne => ?_⟩⟩
  exact q d hd hne
theorem init2 {a1 a2 a3 a4 b1 b2 b3 b4 : Pos} (Fu : FunD K "__init__" qual (defArgs st) (defBody st) (defScope st) dvs kws f fd) (S : FnScope [s0, p1, p2] [s0, p1, p2] (defScope st)) (hb : defBody st = [.Assign [.Attribute (.Name s0 a1) f1 a2] (.Name p1 a3) a4, .Assign [.Attribute (.Name s0 b1) f2 b2] (.Name p2 b3) b4])
    (h0 : (defScope st).names.lookup s0 = some .local) (h1 : (defScope st).names.lookup p1 = some .local) (h2 : (defScope st).names.lookup p2 = some .local) (d0 : (s0 == ("__debug__" : Str)) = false) (d1 : (p1 == ("__debug__" : Str)) = false) (d2 : (p2 == ("__debug__" : Str)) = false)
    (c0 : (s0 == ("__classdict__" : Str)) = false) (c1 : (p1 == ("__classdict__" : Str)) = false) (c2 : (p2 == ("__classdict__" : Str)) = false) :
    FnOk P w K mg base (L2.CX P w) 1 f fd [s0, p1, p2] (spI K [f1, f2]) := by
  refine FunD.ok (CX := L2.CX P w) Fu S (fun vs H Q E ⟨a, C, ws, ev, hl, _⟩ => by rw [ev, List.length_cons, hl]; rfl) fun cdv A outer s H vs Q E hr ⟨a, C, ws, ev, hl, T, hf, ea, q⟩ => ?_
  rw [hb]
  refine ⟨_, pss_cons (ps_ost (pe_var (i := 0) rfl (.inl h0) d0 c0) (pe_var (i := 1) rfl (.inl h1) d1 c1) rfl) (pss_cons (ps_ost (pe_var (i := 0) rfl (.inl h0) d0 c0) (pe_var (i := 2) rfl (.inl h2) d2 c2) rfl) pss_nil), ?_⟩
  obtain ⟨y, z, rfl⟩ : ∃ y z, ws = [y, z] := by
    cases ws with
    | nil => cases hl
    | cons y r => cases r with
      | nil => cases hl
      | cons z r => cases r with
        | nil => exact ⟨y, z, rfl⟩
        | cons => cases hl
  subst ev
  refine ⟨y, rfl, .ref a, rfl, a, C, rfl, T, hf f1 List.mem_cons_self, .inl ⟨ea, fun d hd hne => ?_⟩⟩
  refine ⟨z, rfl, .ref a, rfl, a, C, rfl, T, hf f2 (List.mem_cons_of_mem _ List.mem_cons_self), .inr ⟨d, [(f1, y)], upd_same, by rw [upd_ne hne, upd_same], by show 1 ≤ 900; decide, ?_⟩⟩
  have := q d hd hne
  rw [upd_swap hne.symm, upd_upd]
  exact this
end
def S.raise (n : Str) (fl : List Str) (fa : Vl.Env → R (List D)) : Sv := fun ρ => (fa ρ).toS fun ds ρ1 => if ds.length = fl.length ∧ allL notB ds = true then .exc n (flds fl (mkL calm ds)) ρ1 else .bad
theorem lookup_val {f : Str} : ∀ l : List (Str × A), (l.map fun p => (p.1, val p.2)).lookup f = (l.lookup f).map val
  | [] => rfl
  | (k, x) :: l => by
    rw [List.map_cons, List.lookup, List.lookup]
    cases h : f == k with
    | true => rfl
    | false => exact lookup_val l
theorem flds_map {β γ : Type} (g : β → γ) (fl : List Str) (ys : List β) : flds fl (ys.map g) = (flds fl ys).map fun p => (p.1, g p.2) := by
  unfold flds
  rw [List.map_reverse, List.zip_map_right]
  rfl
theorem flds_mem {β : Type} {fl : List Str} {ys : List β} : ∀ p ∈ flds fl ys, p.2 ∈ ys := fun p hp => (List.of_mem_zip (List.mem_reverse.mp hp)).2
section
variable {ca : Ca} {C : Cx} {W : WX} {e : Expr} {es : List Expr} {fa : Vl.Env → R (List D)} {x n : Str} {fl : List Str} {p pos pos2 : Pos} {k : Nat} {fI : Addr} {fd : FuncData} {ps : List Str}
/-- raise C(e, ..) -/
theorem cs_raise (hc : C.calm = true) (tk : Takes C W) (T : OexC C.K (ca n)) (iC : PySem.W.findIn C.K (.ref (ca n)) "__init__" = some (some (.ref fI))) (tI : PySem.W.typeIn C.K (.ref fI) = some (.type "function"))
    (hno : ∀ f ∈ fl, PySem.W.findIn C.K (.ref (ca n)) f = some none) (hfl : fl.length ≤ 1000) (Fn : FnOk C.prog C.w C.K C.mg C.base (L2.CX C.prog C.w) k fI fd ps (spI C.K fl)) (hr : Room (k + 1) C.A) (hb : Binds C.K fd ps []) (hg : Gl C x) (hm : C.mg x = some (.ref (ca n)))
    (ha : CA ca C W (e :: es) fa) (hdb : (x == ("__debug__" : Str)) = false := by decide) (he : starEach (e :: es) C.env = (false, eval e C.env) :: starEach es C.env := by rfl) (hpl : (backTo pos (starEach es C.env)).any (·.1) = false := by rfl) :
    CS ca C W (.Raise (some (.Call (.Name x p) (e :: es) [] pos)) none pos2) (S.raise n fl fa) := ⟨fun ρ => by
  have hx : Passes (L2.CX C.prog C.w) C (fun _ _ _ => False) := fun _ _ _ _ _ _ _ h => by
    obtain ⟨_, _, _, _, _, _, _, _, _, _, _, _, z⟩ := h
    exact z.elim
  refine PS.mono (ps_raise hc tk (pmk_oex (dvs := []) (ds := []) T iC tI Fn hr hb .nil hx hg hm (ha.run ρ) hdb he hpl)) fun D σ H ⟨F, r, s, e, q⟩ => ⟨F, r, s, e, ?_⟩
  unfold S.raise at q
  cases hf : fa ρ with
  | bad => rw [hf] at q; exact q
  | exc c fs ρ1 => rw [hf] at q; exact fun F' H' r' dx g s e x => q F' H' r' σ dx g.toS s e x
  | ok ds ρ1 =>
    rw [hf, R.ok_toS] at q
    intro F1 H1 r1 xs g1 s1 e1 ok1 ex1 nd1 new1 bo1
    split at q
    · rename_i hh
      have hlx : xs.length = fl.length := by rw [← hh.1, ← ex1, List.length_map]
      refine ⟨by rw [List.length_map, hlx]; exact hfl, fun a hna => ?_⟩
      rw [List.append_nil]
      refine ⟨a, ca n, xs.map val, rfl, by rw [List.length_map, hlx], T, hno, upd_same, fun d hd hne => ?_⟩
      have hd1 : H1 d = none := by rw [upd_ne hne] at hd; exact hd
      refine ⟨rfl, d, flds fl (xs.map val), upd_same, by rw [upd_ne hne, upd_same], hd1, ?_⟩
      have nb : allL notB xs = true := by rw [← hh.2, ← ex1, ← mapL_eq]; exact (allL_mapL _ _ xs).symm
      obtain ⟨s2, g2, ok2⟩ := settle_args s g1 s1 ok1 new1 nb
      have eH : upd (del (upd (upd (upd H1 a (exo a (ca n) none)) d (exd d (flds fl (xs.map val)))) a (exo a (ca n) (some d))) a) d (.xd (flds fl (xs.map val))) = upd H1 d (.xd (flds fl (xs.map val))) := by
        funext b
        by_cases e : b = d
        · rw [e, upd_same, upd_same]
        · rw [upd_ne e, upd_ne e]
          by_cases e2 : b = a
          · rw [e2, del_same, hna]
          · rw [del_ne e2, upd_ne e2, upd_ne e, upd_ne e2]
      rw [eH]
      have fd0 : frz F1 H1 (adrL .o xs) d = none := s2.sub.free hd1
      have ff : ∀ b u, frz F1 H1 (adrL .o xs) b = some u → upd (frz F1 H1 (adrL .o xs)) d (.xd (flds fl (xs.map val))) b = some u := fun b u h => by rw [upd_ne (fun z => by rw [z, fd0] at h; cases h)]; exact h
      have hH : ∀ b u, H1 b = some u → upd H1 d (.xd (flds fl (xs.map val))) b = some u := fun b u h => by rw [upd_ne (fun z => by rw [z, hd1] at h; cases h)]; exact h
      have fr : ∀ b, frz F1 H1 (adrL .o xs) b = none → upd (frz F1 H1 (adrL .o xs)) d (.xd (flds fl (xs.map val))) b ≠ none → H1 b = none := fun b h h' => by
        by_cases z : b = d
        · rw [z]; exact hd1
        · rw [upd_ne z] at h'; exact absurd h h'
      have sb : Sub (upd (frz F1 H1 (adrL .o xs)) d (.xd (flds fl (xs.map val)))) (upd H1 d (.xd (flds fl (xs.map val)))) := fun b u h => by
        by_cases z : b = d
        · rw [z, upd_same] at h ⊢; exact .inl h
        · rw [upd_ne z] at h
          exact (s2.sub b u h).imp (hH b u) fun ⟨o, kk, z1, z2⟩ => ⟨o, kk, z1, hH b _ z2⟩
      have s3 := s2.grow0 hH ff (fun b h h' => .inl (fr b h h')) sb
      have hs0 : ∀ b, H1 b = none → H b = none := fun b h => by
        cases e : H b with
        | none => rfl
        | some u => rw [g1.same b u e] at h; cases h
      have g3 : Grow F H r (upd (frz F1 H1 (adrL .o xs)) d (.xd (flds fl (xs.map val)))) (upd H1 d (.xd (flds fl (xs.map val)))) r1 := ⟨fun b u h => hH b u (g2.same b u h), fun b u h => ff b u (g2.fs b u h), fun b h h' => (by
        cases e : frz F1 H1 (adrL .o xs) b with
        | some u => exact g2.fr b h (by rw [e]; exact fun z => by cases z)
        | none => exact .inl (hs0 b (fr b e h'))), g2.ow, g2.bo, g2.un⟩
      refine q _ _ r1 σ (some d) g3.toS s3 e1 ⟨flds fl (mkL calm xs), flds fl (xs.map val), ?_, fun pr hp => ?_, upd_same, fun f => ?_⟩
      · rw [← flds_map, ← mapL_eq, mapL_mkL, mapL_eq, ex1]
      · have hm := flds_mem pr hp
        have cz : pr.2.cold = true := by
          have := fzL_cold xs
          rw [allL_eq, List.all_eq_true] at this
          exact this _ hm
        exact ⟨cz, (OkL_iff.mp ok2 _ hm).same ff hH fun b hb => by rw [cold_own cz] at hb; cases hb⟩
      · rw [← lookup_val, ← flds_map, valL_mk]
    · exact q.elim⟩
end
end Vl
/-! The value layer, 30: methods that change their object. -/
namespace Vl
open PySem PySem.Spec PyProof.Rows L2

section
variable {X : Ctx} {F F2 F' H H2 H' : Hp} {r r2 : AR} {σ : St} {i : Nat} {p : List Nat} {z0 z y : A} {xs as : List A} {os : List D} {X0 : Ctx}
/-- an owned node of a slot was handed to a def and is given back changed -/
theorem swap_back (s : Stt X F H r σ) (g : Grow F H r F2 H2 r2) (s2 : Stt X F2 H2 r2 σ) (hi : r2[i]? = some (some z0)) (hx : getT z0 p = some z) (io : isO z = true) (okxs : OkL X F2 H2 xs) (new : ∀ a ∈ adrL .o xs, H a = none) (has : adrL .o as = own z ++ adrL .o xs)
    (dn : Done X0 [true] F2 H2 as F' H' [y] os) (ok : Ok X F' H' y) (ev : Vl.val y = Vl.val z) :
    Stt X F' H' (modS (fun _ => y) r2 i p) σ ∧ GrowS F H r F' H' (modS (fun _ => y) r2 i p) ∧ ∀ a, a ∉ own y → (H2 a = none ∨ a ∈ adrL .o as) → a ∉ adrR .o (modS (fun _ => y) r2 i p) := by
  have ao : adrL .o [y] = own y := by rw [adrL, adrL, List.append_nil]
  have nby : y.nob = true := by have := dn.nob; rw [allL, Bool.and_eq_true] at this; exact this.1
  have hz : ∀ a ∈ own z, a ∈ adrR .o r2 := fun a ha => Stt.own_sub hi a (adr_get hx a ha)
  have xr : ∀ a ∈ adrR .o r2, a ∉ adrL .o xs := fun a ha h => (s.own_there (g.ow a ha)).1 (new a h)
  have xb : ∀ a ∈ adrR .b r2, a ∉ adrL .o xs := fun a ha h => s.bor_there ((g.bo a).mp ha) (new a h)
  have h0 : ∀ a, H2 a = none → H a = none := fun a h => by
    cases e : H a with
    | none => rfl
    | some u => rw [g.same a u e] at h; cases h
  have ow : ∀ a ∈ own y, H2 a = none ∨ a ∈ own z ∨ a ∈ adrL .o xs := fun a ha => by
    rcases dn.ow a (by rw [ao]; exact ha) with q | q
    · exact .inl q
    · rw [has] at q
      exact .inr (List.mem_append.mp q)
  have e := modS_at (f := fun _ => y) (p := p) hi
  have ndz := s2.slotNd hi
  -- the heap without what the arguments own
  have sr : Stt X F2 (fun a => if a ∈ adrL .o xs then none else H2 a) r2 σ := s2.keep (fun _ _ h => h) (fun a ha => ⟨if_neg (xr a ha), (s2.own_there ha).2⟩) (fun b hb u hu => by show (if b ∈ adrL .o xs then none else H2 b) = _; rw [if_neg (xb b hb)]; exact hu) fun a u hu => by
    have hax : a ∉ adrL .o xs := fun h => by rw [(OkL.own_there okxs a h).2] at hu; cases hu
    show (if a ∈ adrL .o xs then none else H2 a) = _ ∨ ∃ ob kvs, u = .dK kvs ∧ (if a ∈ adrL .o xs then none else H2 a) = _
    rw [if_neg hax]
    exact s2.sub a u hu
  have s3 := sr.mod (f := fun _ => y) (F' := F') (H' := H') hi hx io ev ok nby (by rw [← ao]; exact dn.nd)
    (fun a ha => by
      rcases ow a ha with q | q | q
      · exact .inr fun h => (s2.own_there h).1 q
      · exact .inl q
      · exact .inr fun h => xr a h q)
    (fun b hb => by
      by_cases hby : b ∈ own y
      · rcases ow b hby with q | q | q
        · exact absurd q (s2.bor_there hb)
        · exact .inr (hz b q)
        · exact absurd q (xb b hb)
      · exact .inl hby)
    dn.fs
    (fun a u ha hu => by
      have hu : (if a ∈ adrL .o xs then none else H2 a) = some u := hu
      by_cases hax : a ∈ adrL .o xs
      · rw [if_pos hax] at hu; cases hu
      · rw [if_neg hax] at hu
        exact dn.same a u (by rw [has]; exact fun h => (List.mem_append.mp h).elim ha hax) hu)
    (fun a ha hnz => by
      cases e : F' a with
      | none => rfl
      | some u =>
        obtain ⟨h1, h2⟩ := s2.own_there ha
        rcases dn.fr a h2 (by rw [e]; exact fun z => by cases z) with q | q
        · exact absurd q h1
        · rw [has] at q
          rcases List.mem_append.mp q with q | q
          · exact absurd q hnz
          · exact absurd q (xr a ha))
    dn.sub
  have inR : ∀ a ∈ adrR .o (modS (fun _ => y) r2 i p), a ∈ own y ∨ (a ∈ adrR .o r2 ∧ a ∉ own z) := fun a ha => by
    rw [e] at ha
    have ha : a ∈ (r2.set i (some (z0.mod (fun _ => y) p))).flatMap (adrO .o) := ha
    rcases flat_mem (x := some z0) hi s2.nd ha with w | w
    · rcases adr_mod hx ndz (fun _ _ _ _ => .inr trivial) a w with v | v
      · exact .inl v
      · exact .inr ⟨Stt.own_sub hi a v.1, v.2⟩
    · exact .inr ⟨w.1, fun h => w.2 (adr_get hx a h)⟩
  refine ⟨s3, ⟨fun a u ha h => ?_, fun a u h => dn.fs a u (g.fs a u h), fun a h h' => ?_, fun a ha => ?_, fun b hb => ?_, fun a h => ?_⟩, fun a hy hc h => ?_⟩
  · refine dn.same a u ?_ (g.same a u h)
    rw [has]
    intro q
    rcases List.mem_append.mp q with q | q
    · exact ha (g.ow a (hz a q))
    · rw [new a q] at h; cases h
  · cases e : F2 a with
    | some u => exact g.fr a h (by rw [e]; exact fun z => by cases z)
    | none =>
      rcases dn.fr a e h' with q | q
      · exact .inl (h0 a q)
      · rw [has] at q
        rcases List.mem_append.mp q with q | q
        · exact .inr (g.ow a (hz a q))
        · exact .inl (new a q)
  · rcases inR a ha with q | q
    · rcases ow a q with q | q | q
      · exact .inl (h0 a q)
      · exact .inr (g.ow a (hz a q))
      · exact .inl (new a q)
    · exact .inr (g.ow a q.1)
  · refine (g.bo b).mp ?_
    rw [e] at hb
    obtain ⟨w, hw, hbw⟩ := mem_adrR.mp hb
    obtain ⟨j, hj⟩ := List.mem_iff_getElem?.mp hw
    by_cases q : j = i
    · subst q
      rw [List.getElem?_set_self (by exact (List.getElem?_eq_some_iff.mp hi).1)] at hj
      have e3 : z0.mod (fun _ => y) p = w := Option.some.inj (Option.some.inj hj)
      rw [← e3] at hbw
      have nb3 : (z0.mod (fun _ => y) p).nob = true := mod_nob (root_nob (s2.slotOk hi) hx io) hx nby
      have q0 : adr .b (z0.mod (fun _ => y) p) = [] := nob_bor nb3
      rw [q0] at hbw; cases hbw
    · rw [List.getElem?_set_ne (Ne.symm q)] at hj
      exact mem_adrR.mpr ⟨w, List.mem_of_getElem? hj, hbw⟩
  · refine dn.there a ?_
    cases e2 : H a with
    | none => exact absurd e2 h
    | some u => rw [g.same a u e2]; exact fun z => by cases z
  · rcases inR a h with q | q
    · exact hy q
    · rcases hc with c | c
      · exact (s2.own_there q.1).1 c
      · rw [has] at c
        rcases List.mem_append.mp c with c | c
        · exact q.2 c
        · exact xr a q.1 c
end
/-- an expression that may change places -/
def PostM (X : Ctx) (W : WX) (σ : St) (F H : Hp) (r : AR) (res : R D) (Q : VK) : Prop := match res with
  | .bad => False
  | .ok d ρ' => ∀ F' H' r' x, GrowS F H r F' H' r' → Stt X F' H' r' σ → erR r' = ρ' → Ok X F' H' x → er x = d → x.nob = true → (own x).Nodup → (∀ a ∈ own x, a ∉ adrR .o r') → (∀ a ∈ own x, H a = none ∨ a ∈ adrR .o r) → Q (val x) H'
  | .exc C fs ρ' => ∀ F' H' r' dx, GrowS F H r F' H' r' → Stt X F' H' r' σ → erR r' = ρ' → XOk X F' H' dx fs → W (.ref (X.ca C)) dx σ H'
def rdM (X : Ctx) (W : WX) (f : Ev) (ρ : Vl.Env) : TE := fun σ H Q => ∃ F r, Stt X F H r σ ∧ erR r = ρ ∧ PostM X W σ F H r (f ρ) Q
structure CM (ca : Ca) (C : Cx) (W : WX) (e : Expr) (f : Ev) : Prop where
  run : ∀ ρ, PE C e (rdM (cx ca C) W f ρ)
def D.isO : D → Bool
  | .nd _ .o _ _ => true
  | _ => false
/-- o.m(..), o an owned place -/
def E.mcall (n m : Str) (c : Fc) (dd : List A) (pv : Pv) (fa : Vl.Env → R (List D)) : Ev := fun ρ => (pv ρ).bind fun q ρ1 => match getR ρ1 q.1 q.2 with
  | some (.nd (.ins n' fs) .o _ _) => if n' = n ∧ m ∉ fs then (fa ρ1).bind fun ds ρ2 => match getR ρ2 q.1 q.2 with
      | some o => if D.isO o = true ∧ allL notB ds = true ∧ ds.length + dd.length + 1 = c.np then match c.fn (o :: (ds ++ dd.map er)) with
          | .ok d [o'] => .ok d (modS (fun _ => o') ρ2 q.1 q.2)
          | .exc k fs [o'] => .exc k fs (modS (fun _ => o') ρ2 q.1 q.2)
          | _ => .bad
        else .bad
      | none => .bad
    else .bad
  | _ => .bad
section
variable {ca : Ca} {C : Cx} {W : WX} {F F1 F' H H1 H' : Hp} {r r1 : AR} {σ : St} {ρ ρ1 : Vl.Env} {xs : List A}
variable {e o : Expr} {es : List Expr} {pv : Pv} {fa : Vl.Env → R (List D)} {c : Fc} {dd : List A} {x n m : Str} {p pos apos epos : Pos} {k : Nat} {f : Addr} {fd : FuncData} {ps : List Str} {ds : List Value} {q : Nat × List Nat}
theorem isO_er (x : A) : D.isO (er x) = isO x := by
  cases x with
  | nd k m a xs => cases m <;> rfl
  | _ => rfl
theorem mcall_post {Q : VK} (hms : c.ms = [true]) (hdd : dd.all leafA = true) (s : Stt (cx ca C) F H r σ) (e : erR r = ρ) (p : PostM (cx ca C) W σ F H r (E.mcall n m c dd pv fa ρ) Q) (hp : pv ρ = .ok q ρ1) :
    PostP (cx ca C) W σ F H r (pv ρ) fun v H1 => ∃ a dx fs, v = .ref a ∧ H1 a = some (.ins (ca n) dx fs) ∧ fs.lookup m = none ∧ rdA (cx ca C) W fa ρ1 σ H1 fun vs H2 => spM C.K ca.f c (v :: (vs ++ dd.map val)) H2 Q (WE W σ) := by
  unfold E.mcall at p
  rw [hp, R.ok_bind] at p
  rw [hp]
  intro F1 H1 r1 x0 x g1 s1 e1 hi hx
  have hg1 := getR_at hi hx
  rw [e1] at hg1
  rw [hg1] at p
  cases x with
  | nd kd mk a zs =>
    cases kd with
    | ins n' fs =>
      cases mk with
      | o =>
        dsimp only [er, T.map] at p
        split at p
        · rename_i hc
          have okx := (s1.slotOk hi).get hx
          have at1 := okx.at_ s1.sub
          rw [hc.1] at at1
          refine ⟨a.1, a.2, _, rfl, at1.1, lookup_none hc.2, F1, r1, s1, e1, ?_⟩
          cases ha : fa ρ1 with
          | bad => rw [ha] at p; exact p
          | exc n fs ρ2 =>
            rw [ha] at p
            exact fun F2 H2 r2 dx g2 s2 e2 x2 => p F2 H2 r2 dx (g1.trans s1 g2).toS s2 e2 x2
          | ok ds ρ2 =>
            rw [ha, R.ok_bind] at p
            intro F2 H2 r2 xs g2 s2 e2 ok2 ex2 nd2 new2 bo2
            obtain ⟨z0, z, hi2, hx2, ez⟩ := way_stays g2.un hi hx
            have hg2 := getR_at hi2 hx2
            rw [e2] at hg2
            rw [hg2] at p
            dsimp only at p
            split at p
            · rename_i hh
              have io : isO z = true := by rw [← isO_er]; exact hh.1
              have g12 := g1.trans s1 g2
              have hs : ∀ a, H1 a = none → H a = none := fun a h => by
                cases e : H a with
                | none => rfl
                | some u => rw [g1.same a u e] at h; cases h
              have new : ∀ a ∈ adrL .o xs, H a = none := fun a ha => hs a (new2 a ha)
              have nbx : allL notB xs = true := by rw [← hh.2.1, ← ex2, ← mapL_eq]; exact (allL_mapL _ _ xs).symm
              have okz := (s2.slotOk hi2).get hx2
              have nbz : z.nob = true := by
                have h0 := root_nob (p := []) okz (getT_nil z) io
                exact h0
              have q : ∀ q, adrL q (z :: (xs ++ dd)) = adr q z ++ adrL q xs := fun q => by rw [adrL, adrL_app, leafs_adr hdd, List.append_nil]
              have ndz : (own z).Nodup := cs_lm1.slot_nd s2 hi2 hx2
              have hv : val z = .ref a.1 := fz_val ez
              refine ⟨F2, z :: (xs ++ dd), by rw [List.map_cons, List.map_append, hv]; rfl, s2.sub, OkL.ctx (fx := ca.fix) ⟨okz, ok2.leafs hdd⟩, ?_, fun b hb => ?_, by rw [List.length_cons, List.length_append, ← hh.2.2, ← ex2, List.length_map], ?_⟩
              · rw [q]
                refine List.nodup_append.mpr ⟨ndz, nd2, fun b hb b2 hb2 e => ?_⟩
                subst e
                exact (s1.own_there (g2.ow b (Stt.own_sub hi2 b (adr_get hx2 b hb)))).1 (new2 b hb2)
              · rw [q] at hb
                have q1 : adr .b z = [] := nob_bor nbz
                have q2 : adrL .b xs = [] := adrL_nil rfl nbx
                rw [q1, q2] at hb; cases hb
              · have ee : (z :: (xs ++ dd) : List A).map er = er z :: (ds ++ dd.map er) := by rw [List.map_cons, List.map_append, ex2]
                rw [ee]
                have one : ∀ {F' H' ys o'}, Done ⟨C.K, ca.f, [], [], []⟩ c.ms F2 H2 (z :: (xs ++ dd)) F' H' ys [o'] → ∃ y, ys = [y] ∧ er y = o' ∧ val y = val z := fun {F' H' ys o'} dn => by
                  have hv := dn.val
                  rw [hms] at hv
                  have hv : some [val z] = some (ys.map val) := hv
                  cases ys with
                  | nil => cases hv
                  | cons y ys =>
                    have hv2 := List.cons.inj (Option.some.inj hv)
                    cases ys with
                    | cons y2 ys => cases hv2.2
                    | nil => exact ⟨y, rfl, (List.cons.inj dn.er).1, hv2.1.symm⟩
                cases ho : c.fn (er z :: (ds ++ dd.map er)) with
                | bad => rw [ho] at p; exact p
                | ok d os =>
                  rw [ho] at p
                  intro F' H' ys w dn gv ew
                  split at p
                  · rename_i d2 o' e2'
                    cases e2'
                    obtain ⟨y, rfl, ey, vy⟩ := one dn
                    have dn' : Done ⟨C.K, ca.f, [], [], []⟩ [true] F2 H2 (z :: (xs ++ dd)) F' H' [y] [o'] := by rw [← hms]; exact dn
                    obtain ⟨s3, g3, out⟩ := swap_back s g12 s2 hi2 hx2 io ok2 new (q .o) dn' dn.ok.1.ctx vy
                    refine p F' H' _ w g3 s3 ?_ gv.ok.ctx ew gv.nob gv.nd (fun b hb => out b (fun h => gv.out b hb (by rw [adrL, adrL, List.append_nil]; exact h)) (gv.ow b hb)) fun b hb => ?_
                    · rw [erR_mod (f := fun _ => y) (g := fun _ => o') hi2 hx2 ey, e2]
                    · rcases gv.ow b hb with w1 | w1
                      · refine .inl ?_
                        cases e5 : H b with
                        | none => rfl
                        | some u => rw [g12.same b u e5] at w1; cases w1
                      · rw [q] at w1
                        rcases List.mem_append.mp w1 with w1 | w1
                        · exact .inr (g12.ow b (Stt.own_sub hi2 b (adr_get hx2 b w1)))
                        · exact .inl (new b w1)
                  · rename_i h1 e2'; cases e2'
                  · exact p.elim
                | exc n2 fs2 os =>
                  rw [ho] at p
                  intro F' H' ys dx2 dn x2
                  split at p
                  · rename_i h1 e2'; cases e2'
                  · rename_i k2 fs3 o' e2'
                    cases e2'
                    obtain ⟨y, rfl, ey, vy⟩ := one dn
                    have dn' : Done ⟨C.K, ca.f, [], [], []⟩ [true] F2 H2 (z :: (xs ++ dd)) F' H' [y] [o'] := by rw [← hms]; exact dn
                    obtain ⟨s3, g3, out⟩ := swap_back s g12 s2 hi2 hx2 io ok2 new (q .o) dn' dn.ok.1.ctx vy
                    exact p F' H' _ dx2 g3 s3 (by rw [erR_mod (f := fun _ => y) (g := fun _ => o') hi2 hx2 ey, e2]) x2.ctx
                  · exact p.elim
            · exact p.elim
        · exact p.elim
      | _ => exact p.elim
    | _ => cases mk <;> exact p.elim
  | _ => exact p.elim
theorem cm_meth (hms : c.ms = [true]) (cl : Cls C.K (ca n)) (me : Meth C.K (ca n) m f) (Fn : FnOk C.prog C.w C.K C.mg C.base (L2.CX C.prog C.w) k f fd ps (spM C.K ca.f c)) (hr : Room k C.A) (hb : Binds C.K fd ps ds) (hd : Vals (dd.map val) ds) (tk : Takes C W) (hdd : dd.all leafA = true) {pl : Sem Bool}
    (ho : CP ca C W o pv) (ha : CA ca C W (e :: es) fa) (he : starEach (e :: es) C.env = (false, eval e C.env) :: starEach es C.env := by rfl) (hpl : (backTo pos (starEach es C.env)).any (·.1) = false := by rfl)
    (ht : eval (.Call (.Attribute o m apos) (e :: es) [] pos) C.env = (eval o C.env >>= fun ov => standAt apos.atName >>= fun _ => holding [ov] (getMethod ov m pl) >>= fun fp => callWith pos fp.1 fp.2 (backTo pos (starEach (e :: es) C.env)) (backToKw pos (keywordEach [] C.env))) := by rfl) :
    CM ca C W (.Call (.Attribute o m apos) (e :: es) [] pos) (E.mcall n m c dd pv fa) := ⟨fun ρ => by
  cases hf : pv ρ with
  | bad => exact PE.mono pe_false fun σ H Q ⟨F, r, s, e, p⟩ => by unfold E.mcall at p; rw [hf] at p; exact p
  | exc c' fs ρ1 =>
    refine PE.mono (pe_methM (pl := pl) (t := rdA (cx ca C) W fa ρ1) (ho.run ρ) cl me Fn hr hb hd (fun σ => passAt tk σ) (ha.run ρ1) he hpl ht) fun σ H Q ⟨F, r, s, e, p⟩ => ⟨F, r, s, e, ?_⟩
    unfold E.mcall at p; rw [hf] at p ⊢
    exact fun F' H' r' dx g s e x => p F' H' r' dx g.toS s e x
  | ok q ρ1 => exact PE.mono (pe_methM (pl := pl) (ho.run ρ) cl me Fn hr hb hd (fun σ => passAt tk σ) (ha.run ρ1) he hpl ht) fun σ H Q ⟨F, r, s, e, p⟩ => ⟨F, r, s, e, mcall_post hms hdd s e p hf⟩⟩
theorem cm_meth0 (hms : c.ms = [true]) (cl : Cls C.K (ca n)) (me : Meth C.K (ca n) m f) (Fn : FnOk C.prog C.w C.K C.mg C.base (L2.CX C.prog C.w) k f fd ps (spM C.K ca.f c)) (hr : Room k C.A) (hb : Binds C.K fd ps ds) (hd : Vals (dd.map val) ds) (tk : Takes C W) (hdd : dd.all leafA = true) {pl : Sem Bool}
    (ho : CP ca C W o pv)
    (ht : eval (.Call (.Attribute o m apos) [] [] pos) C.env = (eval o C.env >>= fun ov => standAt apos.atName >>= fun _ => holding [ov] (getMethod ov m pl) >>= fun fp => callWith pos fp.1 fp.2 (backTo pos (starEach [] C.env)) (backToKw pos (keywordEach [] C.env))) := by rfl) :
    CM ca C W (.Call (.Attribute o m apos) [] [] pos) (E.mcall n m c dd pv A.nil) := ⟨fun ρ => by
  refine PE.mono (pe_meth0M (pl := pl) (ho.run ρ) cl me Fn hr hb hd (fun σ => passAt tk σ) ht) fun σ H Q ⟨F, r, s, e, p⟩ => ⟨F, r, s, e, ?_⟩
  cases hf : pv ρ with
  | bad => unfold E.mcall at p; rw [hf] at p; exact p
  | exc c' fs ρ1 =>
    unfold E.mcall at p; rw [hf] at p
    exact fun F' H' r' dx g s e x => p F' H' r' dx g.toS s e x
  | ok q ρ1 =>
    have := mcall_post hms hdd s e p hf
    rw [hf] at this
    intro F1 H1 r1 x0 x g1 s1 e1 hi hx
    obtain ⟨a, dx, fs, h1, h2, h3, F2, r2, s2, e2, h4⟩ := this F1 H1 r1 x0 x g1 s1 e1 hi hx
    exact ⟨a, dx, fs, h1, h2, h3, nil_args s2 h4 e2⟩⟩
/-- such a call as a statement -/
theorem cs_mex {g : Ev} (h : CM ca C W e g) (hs : swapsWith e none epos.line C.env = pure false := by rfl) : CS ca C W (.Expr e epos) (S.ex g) := ⟨fun ρ => by
  refine PS.mono (ps_expr (h.run ρ) hs) fun D σ H ⟨F, r, s, e, p⟩ => ⟨F, r, s, e, ?_⟩
  unfold S.ex at p
  cases hf : g ρ with
  | bad => rw [hf] at p; exact p
  | exc c fs ρ1 => rw [hf] at p; exact fun F' H' r' dx g s e x => p F' H' r' σ dx g s e x
  | ok d ρ1 =>
    rw [hf, R.ok_toS] at p
    exact fun F1 H1 r1 x g1 s1 e1 ok1 ex1 nb nd out ow => p F1 H1 r1 σ g1 s1 e1⟩
theorem cs_mret {g : Ev} (h : CM ca C W e g) : CS ca C W (.Return (some e) pos) (S.ret g) := ⟨fun ρ => by
  refine PS.mono (ps_ret (h.run ρ)) fun D σ H ⟨F, r, s, e, p⟩ => ⟨F, r, s, e, ?_⟩
  unfold S.ret at p
  cases hf : g ρ with
  | bad => rw [hf] at p; exact p
  | exc c fs ρ1 => rw [hf] at p; exact fun F' H' r' dx g s e x => p F' H' r' σ dx g s e x
  | ok d ρ1 =>
    rw [hf, R.ok_toS] at p
    split at p
    · exact fun F1 H1 r1 x g1 s1 e1 ok1 ex1 nb nd out ow => p F1 H1 r1 σ x g1 s1 e1 ⟨ok1, nd, out⟩ ow ex1
    · exact p.elim⟩
end
end Vl
/-! The value layer, 31: tuples of the module. -/
namespace Vl
open PySem PySem.Spec PyProof.Rows L2

section
variable {ca : Ca} {C : Cx} {W : WX} {pos : Pos}
theorem leafs_ok {X : Ctx} {F H : Hp} {zs : List A} (h : zs.all leafA = true) : OkL X F H zs := OkL_iff.mpr fun x hx => leaf_ok (List.all_eq_true.mp h x hx)
theorem leafs_c {zs : List A} (h : zs.all leafA = true) : allL isC zs = true := by
  rw [allL_eq, List.all_eq_true]
  intro x hx
  have := List.all_eq_true.mp h x hx
  cases x <;> first | rfl | cases this
/-- a tuple of plain values that the module holds -/
theorem ce_gtup {y : Str} {B : Addr} {zs : List A} (hz : zs.all leafA = true) (hg : Gl C y) (hm : C.mg y = some (.ref B)) (hT : ∀ H, SqT C.K H B (zs.map val)) (hdb : (y == ("__debug__" : Str)) = false := by decide) : CE ca C W (.Name y pos) (E.c (.nd .tup .c () (zs.map er))) := ⟨fun ρ =>
  PE.mono (pe_glob hg hm (v := .ref B) rfl hdb) fun σ H Q ⟨F, r, s, e, p⟩ => by
    have cz := leafs_c hz
    have cd : (T.nd .tup .c (B, 0) zs : A).cold = true := by rw [T.cold, T.all, Bool.and_eq_true]; exact ⟨rfl, cz⟩
    exact p F H r (.nd .tup .c (B, 0) zs) .refl s e ⟨⟨trivial, hT F, cz⟩, leafs_ok hz⟩ (by show T.nd .tup .c () (mapL (fun _ => ()) zs) = _; rw [mapL_eq]) (VOk.cold cd)⟩
/-- the same, by the facts of a head -/
def dvA : He.Dv → A
  | .bl b => .bl b
  | .int i => .int i
  | .str x => .str x
  | _ => .non
def dvB : He.Dv → Bool
  | .bl _ => true
  | .int _ => true
  | .str _ => true
  | .non => true
  | _ => false
theorem dvA_val {K : PySem.W.Frag} {v : He.Dv} (h : dvB v = true) : val (dvA v) = v.v K := by cases v <;> first | rfl | cases h
theorem dvA_leaf (v : He.Dv) : leafA (dvA v) = true := by cases v <;> rfl
def GTup (K : PySem.W.Frag) (mg : Str → Option Value) (y : Str) (vs : List He.Dv) : Prop := vs.all dvB = true ∧ ∃ B, mg y = some (.ref B) ∧ ∀ H, SqT K H B ((vs.map dvA).map val)
theorem gtup_ok {K : PySem.W.Frag} {h : Heap} {mg : Str → Option Value} {y : Str} {vs : List He.Dv} (X : K.In h) (G : h.Ns mainGlobals mg) (hg : (He.Fa.glo y).ok K = true) (ht : He.tupB K y vs = true) (hv : vs.all dvB = true) : GTup K mg y vs :=
  ⟨hv, He.ga K y, He.glo_ok X G hg, fun H => by
    have e : (vs.map dvA).map val = vs.map (He.Dv.v K) := by
      rw [List.map_map]
      exact List.map_congr_left fun v hm => dvA_val (List.all_eq_true.mp hv v hm)
    rw [e]
    exact He.tupB_ok ht H⟩
theorem ce_gtupN {y : Str} {vs : List He.Dv} (hg : Gl C y) (h : GTup C.K C.mg y vs) (hdb : (y == ("__debug__" : Str)) = false := by decide) : CE ca C W (.Name y pos) (E.c (.nd .tup .c () ((vs.map dvA).map er))) := by
  obtain ⟨hv, B, hm, hT⟩ := h
  exact ce_gtup (by rw [List.all_map, List.all_eq_true]; exact fun v _ => dvA_leaf v) hg hm hT hdb
end
end Vl
/-! The value layer, 32: f-strings of texts. -/
namespace Vl
open PySem PySem.Spec PyProof.Rows L2

def D.fmt : D → Option D
  | .str y => if y.length ≤ sizeLine then some (.str y) else none
  | _ => none
def joinsL : List Ev → Str → Vl.Env → R Str
  | [], acc, ρ => .ok acc ρ
  | f :: fs, acc, ρ => (f ρ).bind fun d ρ1 => match d with
    | .str y => if (acc ++ y).length ≤ sizeLine then joinsL fs (acc ++ y) ρ1 else .bad
    | _ => .bad
def E.js (fs : List Ev) : Ev := fun ρ => (joinsL fs Str.empty ρ).bind fun z ρ1 => .ok (.str z) ρ1
def PostJ (X : Ctx) (W : WX) (σ : St) (F H : Hp) (r : AR) (res : R Str) (Q : Str → Hp → Prop) : Prop := match res with
  | .bad => False
  | .ok z ρ' => ∀ F' H' r', Grow F H r F' H' r' → Stt X F' H' r' σ → erR r' = ρ' → Q z H'
  | .exc C fs ρ' => ∀ F' H' r' dx, Grow F H r F' H' r' → Stt X F' H' r' σ → erR r' = ρ' → XOk X F' H' dx fs → W (.ref (X.ca C)) dx σ H'
theorem PostJ.back {X : Ctx} {W : WX} {σ : St} {F H F1 H1 : Hp} {r r1 : AR} {res : R Str} {Q : Str → Hp → Prop} (g : Grow F H r F1 H1 r1) (s : Stt X F1 H1 r1 σ) (p : PostJ X W σ F H r res Q) : PostJ X W σ F1 H1 r1 res Q := by
  cases res with
  | bad => exact p
  | ok z ρ' => exact fun F' H' r' g' s' e' => p F' H' r' (g.trans s g') s' e'
  | exc c fs ρ' => exact fun F' H' r' dx g' s' e' x => p F' H' r' dx (g.trans s g') s' e' x
inductive CJ (ca : Ca) (C : Cx) (W : WX) : List Expr → List Ev → Prop where
  | nil : CJ ca C W [] []
  | cons {e : Expr} {f : Ev} {es : List Expr} {fs : List Ev} (h : CE ca C W e f) (r : CJ ca C W es fs) : CJ ca C W (e :: es) (f :: fs)
section
variable {ca : Ca} {C : Cx} {W : WX} {e : Expr} {f : Ev} {es : List Expr} {fs : List Ev} {pos : Pos}
theorem ce_fmt (h : CE ca C W e f) : CE ca C W (.FormattedValue e (-1) none pos) (E.un D.fmt f) := ⟨fun ρ => by
  refine PE.mono (pe_fmt (h.run ρ)) fun σ H Q ⟨F, r, s, e, p⟩ => ⟨F, r, s, e, ?_⟩
  unfold E.un at p
  cases hf : f ρ with
  | bad => rw [hf] at p; exact p
  | exc c fs ρ1 => rw [hf] at p; exact p
  | ok d ρ1 =>
    rw [hf, R.ok_bind] at p
    intro F1 H1 r1 x g1 s1 e1 ok1 ex1 v1
    unfold D.fmt at p
    split at p
    · rename_i y
      split at p
      · rename_i hz
        refine .inl ⟨y, by rw [er_str ex1]; rfl, hz, p F1 H1 r1 (.str y) g1 s1 e1 trivial rfl ⟨List.nodup_nil, fun _ z => (by cases z), fun _ z => (by cases z)⟩⟩
      · exact p.elim
    · exact p.elim⟩
theorem pj_false {es : List Expr} {fs : List Ev} : CJ ca C W es fs → PJ C es (es.map fun _ => fun _ _ _ => False)
  | .nil => .nil
  | .cons _ r => .cons pe_false (pj_false r)
theorem cj_pj {es : List Expr} {fs : List Ev} : CJ ca C W es fs → ∀ ρ : Vl.Env, ∃ ts, PJ C es ts ∧ ∀ (acc : Str) (σ : St) (F H : Hp) (r : AR) (Q : Str → Hp → Prop), Stt (cx ca C) F H r σ → erR r = ρ → PostJ (cx ca C) W σ F H r (joinsL fs acc ρ) Q → tJs ts acc σ H Q
  | .nil, ρ => ⟨[], .nil, fun acc σ F H r Q s e p => p F H r .refl s e⟩
  | .cons (f := f) (fs := fs) h r0, ρ => by
    cases hf : f ρ with
    | bad => exact ⟨_, .cons (h.run ρ) (pj_false r0), fun acc σ F H r Q s e p => by unfold joinsL at p; rw [hf] at p; exact p.elim⟩
    | exc c fs' ρ1 => exact ⟨_, .cons (h.run ρ) (pj_false r0), fun acc σ F H r Q s e p => ⟨F, r, s, e, by unfold joinsL at p; rw [hf] at p ⊢; exact p⟩⟩
    | ok d ρ1 =>
      cases d with
      | str y =>
        obtain ⟨ts, pj, k⟩ := cj_pj r0 ρ1
        refine ⟨_, .cons (h.run ρ) pj, fun acc σ F H r Q s e p => ⟨F, r, s, e, ?_⟩⟩
        unfold joinsL at p
        rw [hf, R.ok_bind] at p
        rw [hf]
        dsimp only at p
        split at p
        · rename_i hz
          intro F1 H1 r1 x g1 s1 e1 ok1 ex1 v1
          exact ⟨y, by rw [er_str ex1]; rfl, hz, k (acc ++ y) σ F1 H1 r1 Q s1 e1 (p.back g1 s1)⟩
        · exact p.elim
      | _ => exact ⟨_, .cons (h.run ρ) (pj_false r0), fun acc σ F H r Q s e p => by unfold joinsL at p; rw [hf] at p; exact p.elim⟩
theorem ce_js {v1 v2 : Expr} {rest : List Expr} (h : CJ ca C W (v1 :: v2 :: rest) fs) : CE ca C W (.JoinedStr (v1 :: v2 :: rest) pos) (E.js fs) := ⟨fun ρ => by
  obtain ⟨ts, pj, k⟩ := cj_pj h ρ
  refine PE.mono (pe_joined pj) fun σ H Q ⟨F, r, s, e, p⟩ => k Str.empty σ F H r _ s e ?_
  unfold E.js at p
  cases hj : joinsL fs Str.empty ρ with
  | bad => rw [hj] at p; exact p
  | exc c fs' ρ1 => rw [hj] at p; exact p
  | ok z ρ1 =>
    rw [hj, R.ok_bind] at p
    exact fun F1 H1 r1 g1 s1 e1 => p F1 H1 r1 (.str z) g1 s1 e1 trivial rfl ⟨List.nodup_nil, fun _ z => (by cases z), fun _ z => (by cases z)⟩⟩
end
end Vl
/-! The value layer, 33: *e among items. -/
namespace Vl
open PySem PySem.Spec PyProof.Rows L2

section
variable {ca : Ca} {C : Cx} {W : WX} {e : Expr} {es : List Expr} {f : Ev} {fa : Vl.Env → R (List D)} {p : Pos}
theorem ca_star (hf : CE ca C W e f) (hg : CA ca C W es fa) (hs : starEach (.Starred e p :: es) C.env = (true, eval e C.env) :: starEach es C.env := by rfl) : CA ca C W (.Starred e p :: es) (E.star f fa) := ⟨fun ρ => by
  cases h1 : f ρ with
  | bad => exact PA.mono (StX.pa_star pe_false (hg.run ρ) hs) fun σ H Q ⟨F, r, s, e, q⟩ => by unfold E.star at q; rw [h1] at q; exact q.elim
  | exc c fs ρ1 => exact PA.mono (StX.pa_star (hf.run ρ) (hg.run ρ) hs) fun σ H Q ⟨F, r, s, e, q⟩ => ⟨F, r, s, e, by unfold E.star at q; rw [h1] at q ⊢; exact q⟩
  | ok d ρ1 =>
    refine PA.mono (StX.pa_star (hf.run ρ) (hg.run ρ1) hs) fun σ H Q ⟨F, r, s, e, q⟩ => ⟨F, r, s, e, ?_⟩
    unfold E.star at q
    rw [h1, R.ok_bind] at q
    rw [h1]
    intro F1 H1 r1 x g1 s1 e1 ok1 ex1 v1
    have key : ∀ {k : Kd} {m : Mk} {a : AA} {zs : List A} {xs : List D}, x = .nd k m a zs → mapL (fun _ => ()) zs = xs → allL isC xs = true → PostA (cx ca C) W σ F H r ((fa ρ1).bind fun ds ρ2 => .ok (xs ++ ds) ρ2) Q → rdA (cx ca C) W fa ρ1 σ H1 fun ys H2 => Q (zs.map val ++ ys) H2 := by
      intro k m a zs xs ex ez hz q
      subst ex
      have cz : allL isC zs = true := er_cold (by rw [ez]; exact hz)
      rw [mapL_eq] at ez
      refine ⟨F1, r1, s1, e1, ?_⟩
      cases h2 : fa ρ1 with
      | bad => rw [h2] at q; exact q
      | exc c fs ρ2 =>
        rw [h2] at q
        exact fun F2 H2 r2 dx g2 s2 e2 x2 => q F2 H2 r2 dx (g1.trans s1 g2) s2 e2 x2
      | ok ds ρ2 =>
        rw [h2, R.ok_bind] at q
        intro F2 H2 r2 ys g2 s2 e2 ok2 ex2 nd2 new2 bo2
        have ao : adrL .o zs = [] := adrL_nil rfl cz
        have ab : adrL .b zs = [] := adrL_nil rfl cz
        have := q F2 H2 r2 (zs ++ ys) (g1.trans s1 g2) s2 e2 (OkL.append (OkL_iff.mpr fun z hz => cold_stay (OkL_iff.mp ok1.2 z hz) (by rw [allL_eq, List.all_eq_true] at cz; exact cz z hz) g2.fs) ok2) (by rw [List.map_append, ex2, ← ez])
          (by rw [adrL_app, ao, List.nil_append]; exact nd2)
          (by
            rw [adrL_app, ao, List.nil_append]
            intro a ha
            have h := new2 a ha
            cases e : H a with
            | none => rfl
            | some u => rw [g1.same a u e] at h; cases h)
          (by
            rw [adrL_app, ab, List.nil_append]
            exact fun b hb => (bo2 b hb).imp (g1.ow b) (g1.bo b).mp)
        rw [List.map_append] at this
        exact this
    split at q
    · rename_i m u xs
      split at q
      · rename_i hz
        obtain ⟨a, zs, rfl, ez⟩ := er_nd ex1
        exact ⟨a.1, zs.map val, rfl, .inr (SqL.of (ok1.at_ s1.sub)), key rfl ez hz q⟩
      · exact q.elim
    · rename_i m u xs
      split at q
      · rename_i hz
        obtain ⟨a, zs, rfl, ez⟩ := er_nd ex1
        exact ⟨a.1, zs.map val, rfl, .inl (ok1.at_ s1.sub), key rfl ez hz q⟩
      · exact q.elim
    · exact q.elim⟩
end
end Vl
/-! The value layer, 34: try .. except X as e. -/
namespace Vl
open PySem PySem.Spec PyProof.Rows L2

/-- a caught exception, as a value: its class alone -/
def exnD (n : Str) : D := .nd (.exn n []) .c () []
def SR.unb (i : Nat) : SR → SR
  | .nx ρ => .nx (ρ.set i none)
  | .ret d ρ => .ret d ρ
  | .bk ρ => .bk (ρ.set i none)
  | .ct ρ => .ct (ρ.set i none)
  | _ => .bad
def S.tryAs (i : Nat) (mt : Str → Option Bool) (g : Sv) (u : Str → List (Str × D) → Sv) : Sv := fun ρ => match g ρ with
  | .exc n fs ρ1 => match mt n with
    | some true => if i < ρ1.length then (u n fs (ρ1.set i (some (exnD n)))).unb i else .bad
    | some false => .exc n fs ρ1
    | none => .bad
  | y => y
/-- what the suite knows of the exception: its dict d, its fields fs -/
def XRel (ca caX : Ca) (i : Nat) (a : Addr) (d : Option Addr) (fs : List (Str × D)) : Prop := caX.f = ca.f ∧ caX.fix = (i, .ref a) :: ca.fix ∧
  ((d = none ∧ fs = [] ∧ caX.cells = ca.cells ∧ caX.known = ca.known) ∨ ∃ (dd : Addr) (xs : List (Str × A)) (gs : List (Str × V)), d = some dd ∧ xs.map (fun p => (p.1, er p.2)) = fs ∧ (∀ f, gs.lookup f = (xs.lookup f).map val) ∧
    caX.cells = (dd, .xd gs) :: ca.cells ∧ caX.known = xs.map (·.2) ++ ca.known)
def E.xf (fs : List (Str × D)) (f : Str) : Ev := fun ρ => R.of (fs.lookup f) ρ
theorem lookup_er {f : Str} : ∀ l : List (Str × A), (l.map fun p => (p.1, er p.2)).lookup f = (l.lookup f).map er
  | [] => rfl
  | (k, x) :: l => by
    rw [List.map_cons, List.lookup, List.lookup]
    cases h : f == k with
    | true => rfl
    | false => exact lookup_er l
theorem lookup_mem {f : Str} {β : Type} {y : β} : ∀ {l : List (Str × β)}, l.lookup f = some y → y ∈ l.map (·.2)
  | [], h => by cases h
  | (k, x) :: l, h => by
    rw [List.lookup] at h
    cases e : f == k with
    | true => rw [e] at h; cases h; exact List.mem_cons_self
    | false => rw [e] at h; exact List.mem_cons_of_mem _ (lookup_mem h)
section
variable {ca caX : Ca} {C : Cx} {a : Addr} {oe : Obj} {pn : List (Addr × Obj)} {d : Option Addr} {n y f : Str} {fs : List (Str × D)} {i : Nat} {p pos : Pos} {W : WX}
/-- e.f, e the caught exception -/
theorem ce_xf (h : XRel ca caX i a d fs) (T : XfC C.K (ca n)) (hno : PySem.W.findIn C.K (.ref (ca n)) f = some none) (hz : Zc (.ref (ca n)) d oe) (hd : ∃ vs, oe.data = .fields vs)
    (hN : C.N[i]? = some y := by rfl) (hv : Vis C.env.scope y := by first | exact Or.inl rfl | exact Or.inr (Or.inl rfl) | exact Or.inr (Or.inr rfl)) (hdb : (y == ("__debug__" : Str)) = false := by decide) (hcd : (y == ("__classdict__" : Str)) = false := by decide)
    (hb : attributeBase (.Name y p) f C.env (eval (.Name y p) C.env) = eval (.Name y p) C.env := by rfl) : CE caX (C.suite a ((a, oe) :: pn)) W (.Attribute (.Name y p) f pos) (E.xf fs f) := ⟨fun ρ => by
  obtain ⟨ef, ex, hk⟩ := h
  cases hl : fs.lookup f with
  | none => exact PE.mono pe_false fun σ H Q ⟨F, r, s, e, q⟩ => by unfold E.xf at q; rw [hl] at q; exact q
  | some dv =>
    rcases hk with ⟨_, e0, _⟩ | ⟨dd, xs, gs, ed, exs, hg, ec, ekn⟩
    · rw [e0] at hl; cases hl
    · refine PE.mono (pe_xf T hno hz hd (pe_var (X := C.suite a ((a, oe) :: pn)) hN hv hdb hcd) hb) fun σ H Q ⟨F, r, s, e, q⟩ => ?_
      unfold E.xf at q
      rw [hl] at q
      have hfx : σ[i]? = some (some (.ref a)) := s.fx (i, .ref a) (by show _ ∈ caX.fix; rw [ex]; exact List.mem_cons_self)
      rw [← exs, lookup_er] at hl
      cases hx : xs.lookup f with
      | none => rw [hx] at hl; cases hl
      | some x =>
        rw [hx] at hl
        have ev : er x = dv := Option.some.inj hl
        have hF : F dd = some (.xd gs) := s.kn.1 (dd, .xd gs) (by show _ ∈ caX.cells; rw [ec]; exact List.mem_cons_self)
        have hH : H dd = some (.xd gs) := by
          rcases s.sub dd _ hF with z | ⟨_, _, z, _⟩
          · exact z
          · cases z
        obtain ⟨cx, okx⟩ := s.kn.2 x (by show _ ∈ caX.known; rw [ekn]; exact List.mem_append_left _ (lookup_mem hx))
        refine ⟨.ref a, hfx, rfl, rfl, dd, gs, val x, ed, hH, by rw [hg, hx]; rfl, ?_⟩
        exact q F H r x .refl s e okx ev (VOk.cold cx)⟩
variable {x : Str} {c : Addr} {body suite : List Stmt} {b₀ : Stmt} {np pos' : Pos} {g : Sv} {u : Str → List (Str × D) → Sv} {mt : Str → Option Bool}
theorem cs_try_as (hs : C.stack = C.env :: C.outer) (hf : C.env.frame = some C.env.locals) (hN : C.N.Nodup) (hfi : ∀ p ∈ ca.fix, p.1 ≠ i) (hi : C.N[i]? = some y) (hln : C.env.kindOf y = some .local) (hc : Names C x (.ref c)) (tk : Takes C W)
    (hmt : ∀ n b, mt n = some b → PySem.W.exmOne C.K (.ref (ca n)) (.ref c) = some b)
    (hb : ∀ (W : WX) (pn : List (Addr × Obj)) (xe : Value → Shared → Prop), Takes (C.tr pn xe) W → PassesOwn (model C.prog C.w) C.A C.env xe → CSs ca (C.tr pn xe) W body g)
    (hsu : ∀ (a : Addr) (oe : Obj) (n : Str) (d : Option Addr) (pn : List (Addr × Obj)) (fs : List (Str × D)) (caX : Ca), mt n = some true → Zc (.ref (ca n)) d oe → (∃ vs, oe.data = .fields vs) → XRel ca caX i a d fs → CSs caX (C.suite a ((a, oe) :: pn)) W0 (b₀ :: suite) (u n fs)) :
    CS ca C W (.Try body [.ExceptHandler (some (.Name x np)) (some y) (b₀ :: suite) pos'] [] [] pos) (S.tryAs i mt g u) := ⟨fun ρ => by
  refine PS.mono (ps_try_as (i := i) (tb := fun W => rdS (cx ca C) W g ρ) (ts := fun a cls d D σ H => ∃ n fs caX ρ', mt n = some true ∧ cls = .ref (ca n) ∧ XRel ca caX i a d fs ∧ rdS (cx caX C) W0 (u n fs) ρ' D σ H) hs hf hN hi hln hc tk
    (fun W pn xe t po => (hb W pn xe t po).run ρ) fun a oe cls d pn hz hd => ⟨fun pins s σ H D I ⟨n, fs, caX, ρ', hm, ecls, hx, q⟩ => ?_⟩) fun D σ H ⟨F, r, s, e, p⟩ => ⟨F, r, s, e, ?_⟩
  · subst ecls
    exact ((hsu a oe n d pn fs caX hm hz hd hx).run ρ').run pins s σ H D I q
  · unfold S.tryAs at p
    cases hg : g ρ with
    | bad => rw [hg] at p; exact p
    | nx ρ1 => rw [hg] at p; exact p
    | ret dv ρ1 => rw [hg] at p; exact p
    | bk ρ1 => rw [hg] at p; exact p
    | ct ρ1 => rw [hg] at p; exact p
    | exc n fs ρ1 =>
      rw [hg] at p
      dsimp only at p
      intro F' H' r' σ' dx g' s' e' xk
      cases hm : mt n with
      | none => rw [hm] at p; exact p.elim
      | some b =>
        rw [hm] at p
        refine ⟨b, hmt n b hm, fun hbt a hna => ?_, fun hbf => ?_⟩
        · subst hbt
          dsimp only at p
          split at p
          · rename_i hil
            have hil' : i < r'.length := by rw [← e'] at hil; unfold erR at hil; rw [List.length_map] at hil; exact hil
            -- what the suite knows
            obtain ⟨caX, hx, hkn⟩ : ∃ caX : Ca, XRel ca caX i a dx fs ∧ ((∀ c ∈ caX.cells, F' c.1 = some c.2) ∧ ∀ z ∈ caX.known, z.cold = true ∧ Ok (cx ca C) F' H' z) := by
              cases dx with
              | none => exact ⟨⟨ca.f, (i, .ref a) :: ca.fix, ca.cells, ca.known⟩, ⟨rfl, rfl, .inl ⟨rfl, xk, rfl, rfl⟩⟩, s'.kn⟩
              | some dd =>
                obtain ⟨xs, gs, h1, h2, h3, h4⟩ := xk
                refine ⟨⟨ca.f, (i, .ref a) :: ca.fix, (dd, .xd gs) :: ca.cells, xs.map (·.2) ++ ca.known⟩, ⟨rfl, rfl, .inr ⟨dd, xs, gs, rfl, h1, h4, rfl, rfl⟩⟩, fun c hc => ?_, fun z hz => ?_⟩
                · rcases List.mem_cons.mp hc with rfl | hc
                  · exact h3
                  · exact s'.kn.1 c hc
                · rcases List.mem_append.mp hz with hz | hz
                  · obtain ⟨q, hq, rfl⟩ := List.mem_map.mp hz
                    exact h2 q hq
                  · exact s'.kn.2 z hz
            have okt : Ok (cx ca C) F' H' (.nd (.exn n []) .c (a, 0) []) := ⟨⟨rfl, .inl rfl, rfl⟩, trivial⟩
            have ct : (T.nd (.exn n []) .c (a, 0) [] : A).cold = true := rfl
            obtain ⟨s2, mo, mb⟩ := s'.setSlot hfi hil' okt (by rw [cold_own ct]; exact List.nodup_nil) (by rw [cold_own ct]; exact fun _ z => (by cases z)) (by rw [cold_own ct]; exact fun _ z => (by cases z)) (by rw [cold_bor ct]; exact fun _ z => (by cases z))
            have ow2 : ∀ q ∈ adrR .o (r'.set i (some (.nd (.exn n []) .c (a, 0) []))), q ∈ adrR .o r' := fun q hq => (mo q hq).elim id fun z => by rw [cold_own ct] at z; cases z
            have er2 : erR (r'.set i (some (.nd (.exn n []) .c (a, 0) []))) = ρ1.set i (some (exnD n)) := by
              unfold erR
              rw [List.map_set]
              show (erR r').set i _ = _
              rw [e']; rfl
            obtain ⟨ef, efx, hrest⟩ := id hx
            have sX : Stt (cx caX C) F' H' (r'.set i (some (.nd (.exn n []) .c (a, 0) []))) (σ'.set i (some (.ref a))) := by
              obtain ⟨cf, cfx, ccs, ckn⟩ := caX
              have ef : cf = ca.f := ef
              subst ef
              refine ⟨s2.val, fun z hz => (s2.ok z hz).ctx, s2.nd, s2.bd, s2.sub, fun q hq => ?_, fun c hc => hkn.1 c hc, fun z hz => ⟨(hkn.2 z hz).1, (hkn.2 z hz).2.ctx⟩⟩
              have hq : q ∈ cfx := hq
              have efx : cfx = (i, .ref a) :: ca.fix := efx
              rw [efx] at hq
              rcases List.mem_cons.mp hq with rfl | hq
              · exact List.getElem?_set_self (by rw [s'.val]; unfold valR; rw [List.length_map]; exact hil')
              · exact s2.fx q hq
            refine ⟨n, fs, caX, ρ1.set i (some (exnD n)), hm, rfl, hx, F', _, sX, er2, ?_⟩
            have gS : GrowS F H r F' H' (r'.set i (some (.nd (.exn n []) .c (a, 0) []))) := ⟨g'.same, g'.fs, g'.fr, fun q hq => g'.ow q (ow2 q hq), fun b hb => g'.bo b (mb b hb), g'.there⟩
            -- behind the suite: e is unbound
            have back : ∀ {F4 H4 : Hp} {r4 : AR} {σ4 : St} {ρ4 : Vl.Env}, GrowS F' H' (r'.set i (some (.nd (.exn n []) .c (a, 0) []))) F4 H4 r4 → Stt (cx caX C) F4 H4 r4 σ4 → erR r4 = ρ4 → ∃ r5, GrowS F H r F4 H4 r5 ∧ Stt (cx ca C) F4 H4 r5 (σ4.set i none) ∧ erR r5 = ρ4.set i none ∧ Stt (cx ca C) F4 H4 r4 σ4 ∧ GrowS F H r F4 H4 r4 := by
              intro F4 H4 r4 σ4 ρ4 g4 s4 e4
              have s5 : Stt (cx ca C) F4 H4 r4 σ4 := by
                obtain ⟨cf, cfx, ccs, ckn⟩ := caX
                have ef : cf = ca.f := ef
                subst ef
                have efx : cfx = (i, .ref a) :: ca.fix := efx
                subst efx
                refine ⟨s4.val, fun z hz => (s4.ok z hz).ctx, s4.nd, s4.bd, s4.sub, fun q hq => s4.fx q (List.mem_cons_of_mem _ hq), ?_, ?_⟩
                · rcases hrest with ⟨_, _, h1, _⟩ | ⟨dd, xs, gs, _, _, _, h1, _⟩
                  · have h1 : ccs = ca.cells := h1
                    subst h1
                    exact s4.kn.1
                  · have h1 : ccs = (dd, .xd gs) :: ca.cells := h1
                    subst h1
                    exact fun c hc => s4.kn.1 c (List.mem_cons_of_mem _ hc)
                · rcases hrest with ⟨_, _, _, h1⟩ | ⟨dd, xs, gs, _, _, _, _, h1⟩
                  · have h1 : ckn = ca.known := h1
                    subst h1
                    exact fun z hz => ⟨(s4.kn.2 z hz).1, (s4.kn.2 z hz).2.ctx⟩
                  · have h1 : ckn = xs.map (·.2) ++ ca.known := h1
                    subst h1
                    exact fun z hz => ⟨(s4.kn.2 z (List.mem_append_right _ hz)).1, (s4.kn.2 z (List.mem_append_right _ hz)).2.ctx⟩
              have s6 := s5.wipe (vs := [i]) (fun q hq h => hfi q hq (by simpa using h))
              have gT := gS.trans g4
              refine ⟨wipeL r4 [i], ⟨gT.same, gT.fs, gT.fr, fun q hq => gT.ow q (adr_wipe q hq), fun b hb => gT.bo b (adr_wipe b hb), gT.there⟩, s6, ?_, s5, gT⟩
              rw [← e4]
              exact wipeL_map er r4 [i]
            cases hu : u n fs (ρ1.set i (some (exnD n))) with
            | bad => rw [hu] at p; exact p
            | exc c2 fs2 ρ2 => rw [hu] at p; exact p.elim
            | nx ρ2 =>
              rw [hu] at p
              intro F4 H4 r4 σ4 g4 s4 e4
              obtain ⟨r5, g5, s5, e5, _⟩ := back g4 s4 e4
              exact p F4 H4 r5 _ g5 s5 e5
            | bk ρ2 =>
              rw [hu] at p
              intro F4 H4 r4 σ4 g4 s4 e4
              obtain ⟨r5, g5, s5, e5, _⟩ := back g4 s4 e4
              exact p F4 H4 r5 _ g5 s5 e5
            | ct ρ2 =>
              rw [hu] at p
              intro F4 H4 r4 σ4 g4 s4 e4
              obtain ⟨r5, g5, s5, e5, _⟩ := back g4 s4 e4
              exact p F4 H4 r5 _ g5 s5 e5
            | ret dv ρ2 =>
              rw [hu] at p
              intro F4 H4 r4 σ4 w g4 s4 e4 v4 o4 ew
              obtain ⟨_, _, _, _, s5, gT⟩ := back g4 s4 e4
              have okw : Ok (cx ca C) F4 H4 w := by
                obtain ⟨cf, cfx, ccs, ckn⟩ := caX
                have ef : cf = ca.f := ef
                subst ef
                exact v4.ok.ctx
              refine p F4 H4 r4 σ4 w gT s5 e4 ⟨okw, v4.nd, v4.out⟩ (fun q hq => ?_) ew
              rcases o4 q hq with z | z
              · refine .inl ?_
                cases e5 : H q with
                | none => rfl
                | some u => exact absurd z (g'.there q (by rw [e5]; exact fun z => by cases z))
              · exact g'.ow q (ow2 q z)
          · exact p.elim
        · subst hbf
          exact p F' H' r' σ' dx g' s' e' xk⟩
end
end Vl
/-! The value layer, 35: raise C(), C without an __init__ of its own. -/
namespace Vl
open PySem PySem.Spec PyProof.Rows L2

section
variable {X : Cx} {B : Addr} {bm : List Value} {T newId initId : String} {x : Str} {p pos : Pos}
theorem pmk_none (Fx : ExcBaseFacts T newId initId bm) (q : PySem.W.excIn X.K B bm newId = true) (at_ : X.mg x = some (.ref B)) (kp : PySem.W.keepIn X.K (.ref B) = true) (rs : Raises X (.ref B)) (glob : Gl X x) (hdb : (x == ("__debug__" : Str)) = false := by decide) :
    PMk X (.Call (.Name x p) [] [] pos) (fun _ H Q => Q (.ref B) none H) := by
  intro pins s σ H Q J h
  apply wpAny_Call_Name_kw
  apply ld_glob J glob at_ _ hdb
  apply PySem.W.callWith_K0 J.kIn kp
  obtain ⟨bm', N, nm, qn, bs, hdct, sn, sub, ab, col, dd, k0, k1, k2, k3, k5, mN, hC, hN, hni, Tl⟩ := exc_obj J.kIn q
  show wpAny _ _ (call (.ref B) []) _ _ _
  exact wpAny_call_exc_subT Fx Tl hC hN hni (fun h' e hm => mk_of J hm rs h (J.hok.gone hm.new)) (Nat.zero_le _)
end
def S.raise0 (n : Str) : Sv := fun ρ => .exc n [] ρ
theorem cs_raise0 {ca : Ca} {C : Cx} {W : WX} {bm : List Value} {T newId initId : String} {x n : Str} {p pos pos2 : Pos} (hc : C.calm = true) (tk : Takes C W) (Fx : ExcBaseFacts T newId initId bm) (q : PySem.W.excIn C.K (ca n) bm newId = true) (hm : C.mg x = some (.ref (ca n))) (kp : PySem.W.keepIn C.K (.ref (ca n)) = true) (rs : Raises C (.ref (ca n)))
    (hg : Gl C x) (hdb : (x == ("__debug__" : Str)) = false := by decide) : CS ca C W (.Raise (some (.Call (.Name x p) [] [] pos)) none pos2) (S.raise0 n) := ⟨fun ρ =>
  PS.mono (ps_raise hc tk (pmk_none Fx q hm kp rs hg hdb)) fun D σ H ⟨F, r, s, e, k⟩ => k F H r σ none .refl s e rfl⟩
end Vl
/-! The value layer, 36: list(zip(xs, ys)), two lists or two tuples. -/
namespace Vl
open PySem PySem.Spec PyProof.Rows
open PySem.Sem (wp)

/-- a zip whose own tuple, at a, is out -/
abbrev ZOut (h : Heap) (z TI TO a : Addr) (f : Bool) : Prop :=
  h.get? z = some { cls := .type "zip", dict := none, data := .fields #[rawInt a, .bool f, .bool false, .ref TI, .ref TO], slots := #[] }
section
variable {prog : Program} {w : World} {A : Around} {E : Value → Shared → Prop} {s : Shared} {z TI TO i1 i2 a : Addr} {fp1 fp2 : List Addr} {n1 n2 i : Nat} {P1 P2 : Nat → Value → Prop} {St1 St2 : Nat → Heap → Prop} {f : Bool} {oa : Obj}
theorem zo_free {Q : Bool → Shared → Prop} (hz : ZOut s.heap z TI TO a f) (ha : s.heap.get? a = some oa)
    (h : ∀ h', ZOut h' z TI TO a true → Heap.SameBut z s.heap h' → Q false { s with heap := h' }) : wpAny (model prog w) A (Builtin.SmallTypes.ownedTupleIsFree (.ref z)) Q E s := by
  unfold Builtin.SmallTypes.ownedTupleIsFree
  refine wpAny_bind (wpAny_field hz rfl (x := rawInt a) rfl ?_)
  show wpAny _ _ (loadIfAlive ((a : Int).toNat) >>= _) _ _ _
  rw [Int.toNat_natCast]
  refine wpAny_bind (PySem.W.kdx_alive ha ?_)
  simp only [Option.isNone_some, Bool.false_eq_true, if_false]
  refine wpAny_bind (wpAny_field hz rfl (x := .bool f) rfl ?_)
  cases f with
  | true =>
    rw [if_neg (by decide)]
    exact wpAny_pure (h s.heap hz (Heap.SameBut.refl _ _))
  | false =>
    rw [if_pos (by decide)]
    exact wpAny_bind (wpAny_setField_rec hz (by simp) fun h₃ e₃ s₃ => wpAny_pure (h h₃ e₃ s₃))
theorem zo_item {Q : Value → Shared → Prop} (S : ZipSep2 z TI TO i1 i2 fp1 fp2) (D1 : Draws prog w A i1 fp1 n1 P1 St1) (D2 : Draws prog w A i2 fp2 n2 P2 St2)
    (hz : ZOut s.heap z TI TO a f) (ha : s.heap.get? a = some oa) (hTI : IsTupOf2 s.heap TI (.ref i1) (.ref i2)) (st1 : St1 i s.heap) (st2 : St2 i s.heap) (l1 : i < n1) (l2 : i < n2)
    (hQ : ∀ x1 x2 h' tk, P1 i x1 → P2 i x2 → ZOut h' z TI TO a true → St1 (i + 1) h' → St2 (i + 1) h' → IsTupOf2 h' s.heap.objs.size x1 x2 → h'.objs.size = s.heap.objs.size + 1 →
      (∀ c o, c ≠ z → c ≠ i1 → c ≠ i2 → s.heap.get? c = some o → h'.get? c = some o) → Q (.ref s.heap.objs.size) { s with heap := h', toks := tk }) :
    wpAny (model prog w) A (Builtin.«zip.__next__» ⟨[.ref z], []⟩) (fun fin s' => ∃ v, fin = .done (.ret v) ∧ Q v s') E s := by
  obtain ⟨hp, g, d, tk0, os⟩ := s
  show wpAny _ _ (field (.ref z) 2 >>= _) _ _ _
  refine wpAny_bind (wpAny_field hz rfl (x := .bool false) rfl ?_); show wpAny _ _ (field (.ref z) 3 >>= _) _ _ _
  refine wpAny_bind (wpAny_field hz rfl (x := .ref TI) rfl ?_); refine wpAny_bind (wpAny_seqItems hTI rfl ?_)
  show wpAny _ _ (Builtin.SmallTypes.ownedTupleIsFree (.ref z) >>= _) _ _ _
  refine wpAny_bind (zo_free hz ha fun h₁ z₁ s₁ => ?_)
  replace s₁ : Heap.SameBut z hp h₁ := s₁
  simp only [Bool.false_eq_true, if_false]
  refine wpAny_bind ?_
  simp only [List.forIn_toArray, List.forIn_cons, List.forIn_nil]
  refine wpAny_bind (wpAny_bind (wpAny_holding ?_))
  show wpAny _ _ (Builtin.SmallTypes.nextOf (.ref i1) >>= fun x => pure (some x)) _ _ _
  refine wpAny_bind (D1.item i _ _ _ l1 (D1.over st1 s₁ S.zf1) fun x1 h₂ t₂ p1 q1 s₂ => wpAny_pure (wpAny_pure ?_))
  replace s₂ : Heap.SameBut i1 h₁ h₂ := s₂
  refine wpAny_bind (wpAny_bind (wpAny_holding ?_))
  show wpAny _ _ (Builtin.SmallTypes.nextOf (.ref i2) >>= fun x => pure (some x)) _ _ _
  refine wpAny_bind (D2.item i _ _ _ l2 (D2.over (D2.over st2 s₁ S.zf2) s₂ S.sep1_2) fun x2 h₃ t₃ p2 q2 s₃ => wpAny_pure (wpAny_pure (wpAny_pure ?_)))
  replace s₃ : Heap.SameBut i2 h₂ h₃ := s₃
  have hsz : h₃.objs.size = hp.objs.size := by rw [s₃.1, s₂.1, s₁.1]
  have zlt : z < h₃.objs.size := by rw [hsz]; exact Heap.lt_size hz
  have e₃ : ZOut h₃ z TI TO a true := s₃.extBut _ _ S.zi2 (s₂.extBut _ _ S.zi1 z₁)
  refine wpAny_bind (wpAny_newTuple (hsz := by show 2 ≤ sizeLine; decide) (wpAny_pure ⟨_, rfl, ?_⟩))
  have up : ∀ c o, h₃.get? c = some o → (h₃.push { cls := .type "tuple", data := .seq #[x1, x2] }).get? c = some o := fun c o e => Heap.get?_push_of_some _ e
  show Q (.ref h₃.objs.size) _
  rw [hsz]
  refine hQ x1 x2 _ t₃ p1 p2 (up _ _ e₃) (D1.frame _ _ _ (D1.over q1 s₃ S.sep2_1) fun b _ o e => up b o e) (D2.frame _ _ _ q2 fun b _ o e => up b o e) ?_ ?_ fun c o c1 c2 c3 e => up c o (s₃.extBut _ _ c3 (s₂.extBut _ _ c2 (s₁.extBut _ _ c1 e)))
  · show IsTupOf2 _ hp.objs.size _ _
    rw [← hsz]
    exact Heap.get?_push_size _ rfl
  · show _ = hp.objs.size + 1
    rw [Heap.size_push, hsz]
theorem zo_end {Q : Fin → Shared → Prop} (S : ZipSep2 z TI TO i1 i2 fp1 fp2) (D1 : Draws prog w A i1 fp1 n1 P1 St1)
    (hz : ZOut s.heap z TI TO a f) (ha : s.heap.get? a = some oa) (hTI : IsTupOf2 s.heap TI (.ref i1) (.ref i2)) (st1 : St1 n1 s.heap)
    (hE : ∀ h' e, (∀ c o, c ≠ z → c ≠ i1 → s.heap.get? c = some o → h'.get? c = some o) → (∃ o, h'.get? e = some o ∧ o.cls = .type "StopIteration") → E (.ref e) { s with heap := h' }) :
    wpAny (model prog w) A (Builtin.«zip.__next__» ⟨[.ref z], []⟩) Q E s := by
  obtain ⟨hp, g, d, tk0, os⟩ := s
  show wpAny _ _ (field (.ref z) 2 >>= _) _ _ _
  refine wpAny_bind (wpAny_field hz rfl (x := .bool false) rfl ?_); show wpAny _ _ (field (.ref z) 3 >>= _) _ _ _
  refine wpAny_bind (wpAny_field hz rfl (x := .ref TI) rfl ?_); refine wpAny_bind (wpAny_seqItems hTI rfl ?_)
  show wpAny _ _ (Builtin.SmallTypes.ownedTupleIsFree (.ref z) >>= _) _ _ _
  refine wpAny_bind (zo_free hz ha fun h₁ z₁ s₁ => ?_)
  replace s₁ : Heap.SameBut z hp h₁ := s₁
  simp only [Bool.false_eq_true, if_false]
  refine wpAny_bind ?_
  simp only [List.forIn_toArray, List.forIn_cons, List.forIn_nil]
  refine wpAny_bind (wpAny_bind (wpAny_holding ?_))
  show wpAny _ _ (Builtin.SmallTypes.nextOf (.ref i1) >>= fun x => pure (some x)) _ _ _
  refine wpAny_bind (D1.done _ _ _ (D1.over st1 s₁ S.zf1) fun h₂ e x₂ he => ?_)
  exact hE h₂ e (fun c o c1 c2 y => x₂ c o c2 (s₁.extBut _ _ c1 y)) he
theorem zo_next_item {Q : Option Value → Shared → Prop} (S : ZipSep2 z TI TO i1 i2 fp1 fp2) (D1 : Draws prog w A.in1 i1 fp1 n1 P1 St1) (D2 : Draws prog w A.in1 i2 fp2 n2 P2 St2)
    (hz : ZOut s.heap z TI TO a f) (ha : s.heap.get? a = some oa) (hTI : IsTupOf2 s.heap TI (.ref i1) (.ref i2)) (st1 : St1 i s.heap) (st2 : St2 i s.heap) (l1 : i < n1) (l2 : i < n2)
    (hQ : ∀ x1 x2 h' tk, P1 i x1 → P2 i x2 → ZOut h' z TI TO a true → St1 (i + 1) h' → St2 (i + 1) h' → IsTupOf2 h' s.heap.objs.size x1 x2 → h'.objs.size = s.heap.objs.size + 1 →
      (∀ c o, c ≠ z → c ≠ i1 → c ≠ i2 → s.heap.get? c = some o → h'.get? c = some o) → Q (some (.ref s.heap.objs.size)) { s with heap := h', toks := tk }) :
    wpAny (model prog w) A (pyNext (.ref z)) Q E s := by
  have hT : s.TypeIs (.ref z) "zip" := ⟨_, hz, rfl⟩
  unfold pyNext
  refine wpAny_bind (wpAny_attempt (wpAny_callSpecial?_slot (name := Str.ofString "__next__") hT F.slot_zip_next (wpAny_call_entry F.slot_zip_next hT F.entry_zip_next ?_ (F.args_zip_next_1 _))))
  exact zo_item S D1 D2 hz ha hTI st1 st2 l1 l2 fun x1 x2 h' tk y1 y2 b1 b2 b3 b4 b5 b6 => wpAny_pure (hQ x1 x2 h' tk y1 y2 b1 b2 b3 b4 b5 b6)
theorem zo_next_end {Q : Option Value → Shared → Prop} (S : ZipSep2 z TI TO i1 i2 fp1 fp2) (D1 : Draws prog w A.in1 i1 fp1 n1 P1 St1)
    (hz : ZOut s.heap z TI TO a f) (ha : s.heap.get? a = some oa) (hTI : IsTupOf2 s.heap TI (.ref i1) (.ref i2)) (st1 : St1 n1 s.heap)
    (hQ : ∀ h' tk, (∀ c o, c ≠ z → c ≠ i1 → s.heap.get? c = some o → h'.get? c = some o) → Q none { s with heap := h', toks := tk }) : wpAny (model prog w) A (pyNext (.ref z)) Q E s := by
  have hT : s.TypeIs (.ref z) "zip" := ⟨_, hz, rfl⟩
  unfold pyNext
  refine wpAny_bind (wpAny_attempt (wpAny_callSpecial?_slot (name := Str.ofString "__next__") hT F.slot_zip_next (wpAny_call_entry F.slot_zip_next hT F.entry_zip_next ?_ (F.args_zip_next_1 _))))
  refine zo_end S D1 hz ha hTI st1 fun h' e hk ⟨o, ho, hc⟩ => ?_
  exact wpAny_bind (wpAny_isInstance (T := "StopIteration") (b := true) ⟨o, ho, hc⟩ isSubtype_stop (wpAny_pure (hQ h' _ hk)))
/-- a zip, before or behind its first tuple; S: an object that is not its own -/
def ZSt (h : Heap) (z TI TO S : Addr) (i : Nat) : Prop := (i = 0 ∧ IsZip h z TI TO .none ∧ ∃ u v, IsTupOf2 h TO u v) ∨ ∃ a f o, ZOut h z TI TO a f ∧ h.get? a = some o ∧ a ≠ z ∧ a ≠ S ∧ a ≠ i1 ∧ a ≠ i2
theorem ZSt.keep {h h' : Heap} {S : Addr} (x : ZSt (i1 := i1) (i2 := i2) h z TI TO S i) (hz : z ≠ S) (hT : TO ≠ S) (k : ∀ b o, b ≠ S → h.get? b = some o → h'.get? b = some o) : ZSt (i1 := i1) (i2 := i2) h' z TI TO S i := by
  rcases x with ⟨e, y, u, v, q⟩ | ⟨a, f, o, y, q, a1, a2, a3, a4⟩
  · exact .inl ⟨e, k _ _ hz y, u, v, k _ _ hT q⟩
  · exact .inr ⟨a, f, o, k _ _ hz y, k _ _ a2 q, a1, a2, a3, a4⟩
theorem zs_item {Q : Option Value → Shared → Prop} {T : Addr} (S : ZipSep2 z TI TO i1 i2 fp1 fp2) (D1 : Draws prog w A.in1 i1 fp1 n1 P1 St1) (D2 : Draws prog w A.in1 i2 fp2 n2 P2 St2) (x : ZSt (i1 := i1) (i2 := i2) s.heap z TI TO T i) (hT : T < s.heap.objs.size)
    (hTI : IsTupOf2 s.heap TI (.ref i1) (.ref i2)) (st1 : St1 i s.heap) (st2 : St2 i s.heap) (l1 : i < n1) (l2 : i < n2)
    (hQ : ∀ x1 x2 h' tk, P1 i x1 → P2 i x2 → ZSt (i1 := i1) (i2 := i2) h' z TI TO T (i + 1) → St1 (i + 1) h' → St2 (i + 1) h' → IsTupOf2 h' s.heap.objs.size x1 x2 → h'.objs.size = s.heap.objs.size + 1 →
      (∀ c o, c ≠ z → c ≠ TO → c ≠ i1 → c ≠ i2 → s.heap.get? c = some o → h'.get? c = some o) → Q (some (.ref s.heap.objs.size)) { s with heap := h', toks := tk }) :
    wpAny (model prog w) A (pyNext (.ref z)) Q E s := by
  have lt : ∀ {b : Addr} {o : Obj}, s.heap.get? b = some o → s.heap.objs.size ≠ b := fun e => Nat.ne_of_gt (Heap.lt_size e)
  obtain ⟨o1, g1⟩ := D1.live _ _ st1
  obtain ⟨o2, g2⟩ := D2.live _ _ st2
  rcases x with ⟨e, y, u, v, q⟩ | ⟨a, f, o, y, q, a1, a2, a3, a4⟩
  · exact wpAny_pyNext_zipD2_item S D1 D2 y hTI q st1 st2 l1 l2 fun x1 x2 h' tk y1 y2 b1 b2 b3 b4 b5 b6 b7 => hQ x1 x2 h' tk y1 y2 (.inr ⟨_, false, _, b1, b5, lt y, Nat.ne_of_gt hT, lt g1, lt g2⟩) b3 b4 b5 b6 b7
  · exact zo_next_item S D1 D2 y q hTI st1 st2 l1 l2 fun x1 x2 h' tk y1 y2 b1 b3 b4 b5 b6 b7 => hQ x1 x2 h' tk y1 y2 (.inr ⟨a, true, o, b1, b7 a o a1 a3 a4 q, a1, a2, a3, a4⟩) b3 b4 b5 b6 fun c o c1 _ c3 c4 e => b7 c o c1 c3 c4 e
theorem zs_end {Q : Option Value → Shared → Prop} {T : Addr} (S : ZipSep2 z TI TO i1 i2 fp1 fp2) (D1 : Draws prog w A.in1 i1 fp1 n1 P1 St1) (D2 : Draws prog w A.in1 i2 fp2 n1 P2 St2) (x : ZSt (i1 := i1) (i2 := i2) s.heap z TI TO T n1)
    (hTI : IsTupOf2 s.heap TI (.ref i1) (.ref i2)) (st1 : St1 n1 s.heap) (st2 : St2 n1 s.heap)
    (hQ : ∀ h' tk, (∀ c o, c ≠ z → c ≠ TO → c ≠ i1 → c ≠ i2 → s.heap.get? c = some o → h'.get? c = some o) → Q none { s with heap := h', toks := tk }) : wpAny (model prog w) A (pyNext (.ref z)) Q E s := by
  rcases x with ⟨e, y, u, v, q⟩ | ⟨a, f, o, y, q, a1, a2, a3, a4⟩
  · exact wpAny_pyNext_zipD2_end S D1 D2 y hTI q st1 st2 (Nat.le_refl _) (Nat.le_refl _) (.inl rfl) hQ
  · exact zo_next_end S D1 y q hTI st1 fun h' tk k => hQ h' tk fun c o c1 _ c3 _ e => k c o c1 c3 e
end
/-- the tuples that came -/
structure ZG (P1 P2 : Nat → Value → Prop) (lo : Addr) (h : Heap) (as : List Addr) : Prop where
  rise : as.Pairwise (· < ·)
  above : ∀ a ∈ as, lo < a
  pairs : ∀ (j : Nat) (a : Addr), as[j]? = some a → ∃ x y, P1 j x ∧ P2 j y ∧ IsTupOf2 h a x y
abbrev KpZ (T z TO i1 i2 : Addr) (h h' : Heap) : Prop := ∀ b o, b ≠ T → b ≠ z → b ≠ TO → b ≠ i1 → b ≠ i2 → h.get? b = some o → h'.get? b = some o
section
variable {prog : Program} {w : World} {A : Around} {E : Value → Shared → Prop} {s : Shared} {z TI TO i1 i2 T : Addr} {fp1 fp2 : List Addr} {n : Nat} {P1 P2 : Nat → Value → Prop} {St1 St2 : Nat → Heap → Prop} {R : Result → Shared → Prop}
/-- what lies apart from the list at T -/
structure Zap (T z TI TO i1 i2 : Addr) (fp1 fp2 : List Addr) : Prop where
  sep : ZipSep2 z TI TO i1 i2 fp1 fp2
  z : z < T
  TI : TI < T
  TO : TO < T
  i1 : i1 < T
  i2 : i2 < T
  f1 : ∀ b ∈ fp1, b < T
  f2 : ∀ b ∈ fp2, b < T
abbrev lobj (acc : Array Value) (c : Nat) : Obj := { cls := .type "list", dict := none, data := .seq acc c, slots := #[] }
theorem zl_loop (Z : Zap T z TI TO i1 i2 fp1 fp2) (D1 : Draws prog w A.in1.in1 i1 fp1 n P1 St1) (D2 : Draws prog w A.in1.in1 i2 fp2 n P2 St2) (hn : n ≤ sizeLine) (res : Value) {h₁ : Heap}
    (hR : ∀ h' tk acc c as, KpZ T z TO i1 i2 h₁ h' → h'.get? T = some (lobj acc c) → as.length = n → ZG P1 P2 T h' as → acc.toList = as.map Value.ref → R (.ok (.ret res)) { s with heap := h', toks := tk }) :
    ∀ (k i : Nat) (h : Heap) (tk c : Nat) (acc : Array Value) (as : List Addr), n - i = k → i ≤ n → ZSt (i1 := i1) (i2 := i2) h z TI TO T i → IsTupOf2 h TI (.ref i1) (.ref i2) → St1 i h → St2 i h → KpZ T z TO i1 i2 h₁ h →
      h.get? T = some (lobj acc c) → acc.toList = as.map Value.ref → as.length = i → ZG P1 P2 T h as → codeAny (model prog w) A (.builtin "list.extend.loop" ⟨[.ref T, .ref z, res], []⟩) R { s with heap := h, toks := tk } := by
  have ne : ∀ {x : Addr}, x < T → T ≠ x := fun h => Nat.ne_of_gt h
  intro k
  induction k with
  | zero =>
    intro i h tk c acc as hk hi hst hTI t1 t2 hkeep hS hacc hal hG
    have hin : i = n := by omega
    subst hin
    refine codeAny_builtin PySem.F.entry_extend_loop ?_
    rw [Around.under_plainId PySem.F.plain_extend_loop _]
    show wpAny _ A.in1 (pyNext (.ref z) >>= _) _ _ _
    refine wpAny_bind (zs_end (s := { s with heap := h, toks := tk }) (A := A.in1) Z.sep D1 D2 hst hTI t1 t2 fun h' tk' he => ?_)
    refine wpAny_pure (hR h' tk' acc c as (fun b o b0 b1 b2 b3 b4 e => he b o b1 b2 b3 b4 (hkeep b o b0 b1 b2 b3 b4 e)) (he T _ (ne Z.z) (ne Z.TO) (ne Z.i1) (ne Z.i2) hS) hal ⟨hG.rise, hG.above, fun j a hj => ?_⟩ hacc)
    obtain ⟨x, y, e1, e2, e3⟩ := hG.pairs j a hj
    have ha := hG.above a (List.mem_of_getElem? hj)
    exact ⟨x, y, e1, e2, he a _ (Nat.ne_of_gt (Nat.lt_trans Z.z ha)) (Nat.ne_of_gt (Nat.lt_trans Z.TO ha)) (Nat.ne_of_gt (Nat.lt_trans Z.i1 ha)) (Nat.ne_of_gt (Nat.lt_trans Z.i2 ha)) e3⟩
  | succ k ih =>
    intro i h tk c acc as hk hi hst hTI t1 t2 hkeep hS hacc hal hG
    have hlt : i < n := by omega
    have hsz : acc.size = i := by rw [← Array.length_toList, hacc, List.length_map, hal]
    refine codeAny_builtin PySem.F.entry_extend_loop ?_
    rw [Around.under_plainId PySem.F.plain_extend_loop _]
    show wpAny _ A.in1 (pyNext (.ref z) >>= _) _ _ _
    refine wpAny_bind (zs_item (s := { s with heap := h, toks := tk }) (A := A.in1) Z.sep D1 D2 hst (Heap.lt_size hS) hTI t1 t2 hlt hlt fun x1 x2 h' tk' p1 p2 hst' t1' t2' ht hz hkp => ?_)
    dsimp only at ht hz hkp ⊢
    have hS' := hkp T _ (ne Z.z) (ne Z.TO) (ne Z.i1) (ne Z.i2) hS
    have hSl : T < h.objs.size := Heap.lt_size hS
    have up : ∀ b o, b ≠ T → h'.get? b = some o → (h'.update T (Obj.mapSeq (·.push (Value.ref h.objs.size)))).get? b = some o := fun b o hb e => (Heap.get?_update_other _ _ (Ne.symm hb)).trans e
    have upl : ∀ {b : Addr} {o : Obj}, b < T → h'.get? b = some o → (h'.update T (Obj.mapSeq (·.push (Value.ref h.objs.size)))).get? b = some o := fun {b o} hb e => up b o (Nat.ne_of_lt hb) e
    show wpAny _ A.in1 (updateSeq T (·.push (Value.ref h.objs.size)) >>= _) _ _ _
    refine wpAny_bind (wpAny_updateSeq hS' rfl (wpAny_pure ⟨plainId_quiet PySem.F.plain_extend_loop _, ?_⟩) (by rw [hsz]; omega) (by show (acc.push (Value.ref h.objs.size)).size ≤ sizeLine + 1; rw [Array.size_push, hsz]; omega))
    have hTn : TI ≠ z := Z.sep.TIz
    refine ih (i + 1) _ tk' _ (acc.push (Value.ref h.objs.size)) (as ++ [h.objs.size]) (by omega) hlt (hst'.keep (Nat.ne_of_lt Z.z) (Nat.ne_of_lt Z.TO) up) (upl Z.TI (hkp _ _ Z.sep.TIz Z.sep.TITO Z.sep.TIi1 Z.sep.TIi2 hTI))
      (D1.frame _ _ _ t1' fun b hb o e => upl (Z.f1 b hb) e) (D2.frame _ _ _ t2' fun b hb o e => upl (Z.f2 b hb) e) (fun b o b0 b1 b2 b3 b4 e => up b o b0 (hkp b o b1 b2 b3 b4 (hkeep b o b0 b1 b2 b3 b4 e)))
      (Heap.get?_update_self _ hS' rfl) (by rw [Array.toList_push, hacc, List.map_append]; rfl) (by rw [List.length_append, hal]; rfl) ⟨?_, ?_, ?_⟩
    · refine List.pairwise_append.mpr ⟨hG.rise, List.pairwise_singleton _ _, fun a ha b hb => ?_⟩
      rw [List.mem_singleton.mp hb]
      obtain ⟨j, hj⟩ := List.mem_iff_getElem?.mp ha
      obtain ⟨_, _, _, _, e⟩ := hG.pairs j a hj
      exact Heap.lt_size e
    · intro a ha
      rcases List.mem_append.mp ha with ha | ha
      · exact hG.above a ha
      · rw [List.mem_singleton.mp ha]; exact hSl
    · intro j b hj
      rcases Nat.lt_trichotomy j as.length with h1 | h1 | h1
      · rw [List.getElem?_append_left h1] at hj
        obtain ⟨x, y, e1, e2, e3⟩ := hG.pairs j b hj
        have hb := hG.above b (List.mem_of_getElem? hj)
        exact ⟨x, y, e1, e2, up b _ (Nat.ne_of_gt hb) (hkp b _ (Nat.ne_of_gt (Nat.lt_trans Z.z hb)) (Nat.ne_of_gt (Nat.lt_trans Z.TO hb)) (Nat.ne_of_gt (Nat.lt_trans Z.i1 hb)) (Nat.ne_of_gt (Nat.lt_trans Z.i2 hb)) e3)⟩
      · subst h1
        have hb : h.objs.size = b := by simpa using hj
        subst hb
        exact ⟨x1, x2, by rw [hal]; exact p1, by rw [hal]; exact p2, up _ _ (Nat.ne_of_gt hSl) ht⟩
      · have hnone : (as ++ [h.objs.size])[j]? = none := List.getElem?_eq_none (by rw [List.length_append, List.length_singleton]; omega)
        rw [hnone] at hj; cases hj
theorem zl_len : typeLookup (.type "zip") "__len__" = pure none := by rw [typeLookup_type, builtinLookup_eq_fast]; kernel_rfl
theorem zl_lh : typeLookup (.type "zip") "__length_hint__" = pure none := by rw [typeLookup_type, builtinLookup_eq_fast]; kernel_rfl
theorem zl_hint {r : Addr} (hT : s.TypeIs (.ref r) "zip") {Q : Bool → Shared → Prop} (h : Q true s) : wpAny (model prog w) A (Builtin.List.listLengthHint (.ref r)) Q E s := by
  unfold Builtin.List.listLengthHint
  refine wpAny_bind (wpAny_specialOf hT zl_len ?_)
  simp only [Option.isSome_none, Bool.false_eq_true, if_false]
  refine wpAny_ite_split (fun hab => absurd (show (false : Bool) = true from hab) (by decide)) (fun _ => ?_)
  refine wpAny_bind (wpAny_specialOf hT zl_lh ?_)
  exact wpAny_pure h
theorem zl_extend {t0 : Addr} {fp1 fp2 : List Addr} (Z : Zap T z TI TO i1 i2 fp1 fp2) (D1 : Draws prog w A.in1.in1 i1 fp1 n P1 St1) (D2 : Draws prog w A.in1.in1 i2 fp2 n P2 St2) (hn : n ≤ sizeLine) (res : Value) (c₀ : Nat)
    (hz : IsZip s.heap z TI TO .none) (hTI : IsTupOf2 s.heap TI (.ref i1) (.ref i2)) (hTO : ∃ u v, IsTupOf2 s.heap TO u v) (t1 : St1 0 s.heap) (t2 : St2 0 s.heap) (hS : s.heap.get? T = some (lobj #[] c₀))
    (hR : ∀ h' tk acc c as, KpZ T z TO i1 i2 s.heap h' → h'.get? T = some (lobj acc c) → as.length = n → ZG P1 P2 T h' as → acc.toList = as.map Value.ref → R (.ok (.ret res)) { s with heap := h', toks := tk }) :
    wpAny (model prog w) A.in1 (Builtin.List.listExtendWith (.ref T) (.ref z) res)
      (fun fin s' => match fin with | .done f => R (.ok f) s' | .again c' => c'.quiet = true ∧ codeAny (model prog w) A c' R s') (fun e s' => R (.error e) s') s := by
  have ne : ∀ {x : Addr}, x < T → x ≠ T := fun h => Nat.ne_of_lt h
  have fin : ∀ (h : Heap) (c₁ tk : Nat), (∀ b o, b ≠ T → s.heap.get? b = some o → h.get? b = some o) → h.get? T = some (lobj #[] c₁) → codeAny (model prog w) A (.builtin "list.extend.loop" ⟨[.ref T, .ref z, res], []⟩) R { s with heap := h, toks := tk } := by
    intro h c₁ tk hk hS₁
    obtain ⟨u, v, hTO⟩ := hTO
    exact zl_loop (s := s) (h₁ := s.heap) Z D1 D2 hn res hR n 0 h tk c₁ #[] [] (Nat.sub_zero _) (Nat.zero_le _) (.inl ⟨rfl, hk _ _ (ne Z.z) hz, u, v, hk _ _ (ne Z.TO) hTO⟩) (hk _ _ (ne Z.TI) hTI)
      (D1.frame _ _ _ t1 fun b hb o e => hk b o (ne (Z.f1 b hb)) e) (D2.frame _ _ _ t2 fun b hb o e => hk b o (ne (Z.f2 b hb)) e) (fun b o b0 _ _ _ _ e => hk b o b0 e) hS₁ rfl rfl ⟨List.Pairwise.nil, (fun _ ha => nomatch ha), (fun j a hj => by simp at hj)⟩
  have hT : s.TypeIs (.ref z) "zip" := ⟨_, hz, rfl⟩
  unfold Builtin.List.listExtendWith
  refine wpAny_bind (wpAny_typeOf (T := "zip") hT ?_)
  have h1 : Builtin.List.listSameRef (.ref T) (.ref z) = false := by simp [Builtin.List.listSameRef, Nat.ne_of_gt Z.z]
  have h2 : (Value.type "zip" == Value.type "list") = false := by decide
  have h3 : (Value.type "zip" == Value.type "tuple") = false := by decide
  simp only [h1, h2, h3, Bool.or_false, Bool.false_eq_true, if_false]
  refine wpAny_bind (wpAny_pyIter_zip hz ?_)
  refine wpAny_bind (wpAny_holding (zl_hint hT ?_))
  refine wpAny_ite_split (fun _ => ?_) (fun x => absurd rfl x)
  refine wpAny_bind (wpAny_rule ?_)
  refine wpAny_bind ?_
  show wpAny _ _ (updateSeq T (·.push .none) >>= fun _ => updateSeq T (·.pop)) _ _ _
  refine wpAny_bind (wpAny_updateSeq hS rfl ?_)
  have hS₂ := Heap.get?_update_self (Obj.mapSeq (·.push Value.none)) hS rfl
  refine wpAny_updateSeq (hz := by seq_fits) hS₂ rfl ?_
  have hS₃ := Heap.get?_update_self (Obj.mapSeq (·.pop)) hS₂ rfl
  exact wpAny_pure ⟨plainId_quiet PySem.F.plain_extend_loop _, fin _ _ _ (fun b o hb e => (Heap.get?_update_other _ _ (Ne.symm hb)).trans ((Heap.get?_update_other _ _ (Ne.symm hb)).trans e)) hS₃⟩
theorem zl_call {Q : Value → Shared → Prop} (Z : Zap s.heap.objs.size z TI TO i1 i2 fp1 fp2) (D1 : Draws prog w A.in1.in1.in1 i1 fp1 n P1 St1) (D2 : Draws prog w A.in1.in1.in1 i2 fp2 n P2 St2) (hn : n ≤ sizeLine)
    (hz : IsZip s.heap z TI TO .none) (hTI : IsTupOf2 s.heap TI (.ref i1) (.ref i2)) (hTO : ∃ u v, IsTupOf2 s.heap TO u v) (t1 : St1 0 s.heap) (t2 : St2 0 s.heap)
    (hQ : ∀ h' tk acc c as, (∀ b o, b ≠ z → b ≠ TO → b ≠ i1 → b ≠ i2 → s.heap.get? b = some o → h'.get? b = some o) → h'.get? s.heap.objs.size = some (lobj acc c) → as.length = n → ZG P1 P2 s.heap.objs.size h' as → acc.toList = as.map Value.ref → Q (.ref s.heap.objs.size) { s with heap := h', toks := tk }) :
    wpAny (model prog w) A (call (.type "list") [.ref z]) Q E s := by
  refine callType_codes (Q₁ := fun obj s₁ => obj = .ref s.heap.objs.size ∧ s₁ = { s with heap := s.heap.push { cls := .type "list", data := .seq #[] } }) PySem.F.called_list (PySem.F.typeCall_list_1 _) PySem.F.entry_list_init
    (code_list_new _ ⟨rfl, rfl⟩) fun obj s₁ h₁ => ?_
  obtain ⟨rfl, rfl⟩ := h₁
  have hS : (s.heap.push { cls := .type "list", data := .seq #[] }).get? s.heap.objs.size = some { cls := .type "list", data := .seq #[] } := Heap.get?_push_size _ rfl
  have up : ∀ b o, s.heap.get? b = some o → (s.heap.push { cls := .type "list", data := .seq #[] }).get? b = some o := fun b o e => Heap.get?_push_of_some _ e
  refine ⟨⟨_, hS, rfl⟩, PySem.F.args_list_init_2 _ _, ?_⟩
  have oth : ∀ b o, b ≠ s.heap.objs.size → (s.heap.push { cls := .type "list", data := .seq #[] }).get? b = some o → ((s.heap.push { cls := .type "list", data := .seq #[] }).update s.heap.objs.size (Obj.mapSeq (fun _ => (#[] : Array Value)))).get? b = some o :=
    fun b o hb e => (Heap.get?_update_other _ _ (Ne.symm hb)).trans e
  have hS₂ := Heap.get?_update_self (Obj.mapSeq (fun _ => (#[] : Array Value))) hS rfl
  have ne : ∀ {x : Addr}, x < s.heap.objs.size → x ≠ s.heap.objs.size := fun h => Nat.ne_of_lt h
  have all : ∀ b o, b < s.heap.objs.size → s.heap.get? b = some o → ((s.heap.push { cls := .type "list", data := .seq #[] }).update s.heap.objs.size (Obj.mapSeq (fun _ => (#[] : Array Value)))).get? b = some o := fun b o hb e => oth b o (ne hb) (up b o e)
  show wpAny _ _ (do let old ← Builtin.List.listItems (.ref s.heap.objs.size); Builtin.List.listUpdate (.ref s.heap.objs.size) (fun _ => #[]); letGo old.toList.reverse; Builtin.List.listExtendWith (.ref s.heap.objs.size) (.ref z) .none) _ _ _
  refine wpAny_bind ?_
  unfold Builtin.List.listItems
  refine wpAny_bind (wpAny_seqItems hS rfl (wpAny_pure ?_))
  show wpAny _ _ (updateSeq s.heap.objs.size (fun _ => #[]) >>= fun _ => letGo (#[] : Array Value).toList.reverse >>= fun _ => Builtin.List.listExtendWith (.ref s.heap.objs.size) (.ref z) .none) _ _ _
  refine wpAny_bind (wpAny_updateSeq hS rfl ?_)
  refine wpAny_bind (wpAny_letGo ?_)
  refine zl_extend (A := A.in1) (t0 := z) Z D1 D2 hn .none _ (all _ _ Z.z hz) (all _ _ Z.TI hTI) (hTO.imp fun u ⟨v, x⟩ => ⟨v, all _ _ Z.TO x⟩) (D1.frame _ _ _ t1 fun b hb o e => all b o (Z.f1 b hb) e) (D2.frame _ _ _ t2 fun b hb o e => all b o (Z.f2 b hb) e) hS₂ fun h' tk acc c as hk hS' hl hG hacc => ?_
  exact ⟨rfl, hQ h' tk acc c as (fun b o b1 b2 b3 b4 e => hk b o (ne (Heap.lt_size e)) b1 b2 b3 b4 (all b o (Heap.lt_size e) e)) hS' hl hG hacc⟩
end
end Vl
namespace Vl
open PySem PySem.Spec PyProof.Rows L2
/-- pairs laid at their addresses -/
def putZ : Hp → List Addr → List (V × V) → Hp
  | H, a :: as, q :: qs => putZ (upd H a (.tup [q.1, q.2])) as qs
  | H, _, _ => H
theorem putZ_off {b : Addr} : ∀ {as : List Addr} {qs : List (V × V)} {H : Hp}, b ∉ as → putZ H as qs b = H b
  | [], _, _, _ => rfl
  | _ :: _, [], _, _ => rfl
  | a :: as, q :: qs, H, h => (putZ_off (as := as) (qs := qs) (H := upd H a (.tup [q.1, q.2])) fun z => h (.tail _ z)).trans (upd_ne fun z => h (z ▸ .head _))
theorem putZ_at : ∀ {as : List Addr} {qs : List (V × V)} {H : Hp}, as.length = qs.length → as.Nodup → Paired (fun (t : Addr) (q : V × V) => putZ H as qs t = some (.tup [q.1, q.2])) as qs
  | [], [], _, _, _ => .nil
  | [], _ :: _, _, h, _ => by cases h
  | _ :: _, [], _, h, _ => by cases h
  | a :: as, q :: qs, H, h, hn => by
    obtain ⟨n1, n2⟩ := List.nodup_cons.mp hn
    exact .cons ((putZ_off (as := as) (qs := qs) (H := upd H a (.tup [q.1, q.2])) n1).trans upd_same) (putZ_at (H := upd H a (.tup [q.1, q.2])) (Nat.succ.inj h) n2)
def rListZip (K : PySem.W.Frag) : List V → Hp → VK → Prop := fun vs H Q => ∃ (a b : Addr) (xs ys : List V), vs = [.ref a, .ref b] ∧ xs.length = ys.length ∧ ((SqL K H a xs ∧ SqL K H b ys) ∨ (SqT K H a xs ∧ SqT K H b ys)) ∧
  ∀ (H' : Hp) (p : Addr) (ts : List Addr), (∀ b o, H b = some o → H' b = some o) → H p = none → (∀ t ∈ ts, H t = none) → p ∉ ts → ts.Nodup → H' p = some (.lst (ts.map V.ref)) → (∀ t, t ∉ ts → t ≠ p → H' t = H t) → Paired (fun (t : Addr) (q : V × V) => H' t = some (.tup [q.1, q.2])) ts (xs.zip ys) → Q (.ref p) H'
section
variable {X : Cx} {pins : List (Addr × Obj)} {σ : L2.St} {H : Hp} {s : Shared} {P1 P2 : Nat → Value → Prop}
theorem zip_laid {h' : Heap} {tk lo : Nat} {qs : List (V × V)} {acc : Array Value} {c : Nat} {as : List Addr} (I : Inv X pins σ H s) (hlo : s.heap.objs.size ≤ lo) (hz : qs.length ≤ sizeLine) (rel : ∀ j x y, P1 j x → P2 j y → ∃ q, qs[j]? = some q ∧ RelV q.1 x ∧ RelV q.2 y)
    (hk : ∀ b o, s.heap.get? b = some o → h'.get? b = some o) (hS : h'.get? lo = some (lobj acc c)) (hl : as.length = qs.length) (hG : ZG P1 P2 lo h' as) (hacc : acc.toList = as.map Value.ref) :
    ∃ H' : Hp, (∀ b o, H b = some o → H' b = some o) ∧ H lo = none ∧ (∀ t ∈ as, H t = none) ∧ lo ∉ as ∧ as.Nodup ∧ H' lo = some (.lst (as.map V.ref)) ∧ (∀ t, t ∉ as → t ≠ lo → H' t = H t) ∧ Paired (fun (t : Addr) (q : V × V) => H' t = some (.tup [q.1, q.2])) as qs ∧ Inv X pins σ H' { s with heap := h', toks := tk } := by
  have nS : lo ∉ as := fun z => Nat.lt_irrefl _ (hG.above _ z)
  have nd : as.Nodup := hG.rise.imp fun h => Nat.ne_of_lt h
  have new : ∀ t ∈ as, H t = none := fun t ht => I.hok.fresh (Nat.le_of_lt (Nat.lt_of_le_of_lt hlo (hG.above t ht)))
  have newS : H lo = none := I.hok.fresh hlo
  generalize eH : putZ (upd H lo (.lst (as.map V.ref))) as qs = G
  have atP : Paired (fun (t : Addr) (q : V × V) => G t = some (.tup [q.1, q.2])) as qs := by rw [← eH]; exact putZ_at hl nd
  have off : ∀ b, b ∉ as → b ≠ lo → G b = H b := fun b h1 h2 => by rw [← eH, putZ_off h1, upd_ne h2]
  have eS : G lo = some (.lst (as.map V.ref)) := by rw [← eH, putZ_off nS, upd_same]
  have kp : ∀ b u, H b = some u → G b = some u := fun b u e => (off b (fun z => by rw [new b z] at e; cases e) (fun z => by rw [z, newS] at e; cases e)).trans e
  have low : ∀ b o, s.heap.get? b = some o → b ∉ as ∧ b ≠ lo := fun b o e =>
    have lt : b < lo := Nat.lt_of_lt_of_le (Heap.lt_size e) hlo
    ⟨fun z => Nat.lt_asymm lt (hG.above b z), Nat.ne_of_lt lt⟩
  refine ⟨G, kp, newS, new, nS, nd, eS, off, atP, I.call' (ch := []) rfl ⟨fun b o q _ _ _ => hk b o q, fun b o q _ _ _ => ⟨o.slots, hk b o q⟩, fun b o q n _ => (off b (low b o q).1 (low b o q).2).trans n, fun b o q _ => ⟨o, hk b o q⟩, fun b xs q => kp b _ q, fun b o u q => kp b _ q, fun b ps q => ⟨#[], by rw [kp b _ q]; simp⟩⟩ (fun b u q => ?_) I.bare fun b z => by simp at z⟩
  by_cases hb : b ∈ as
  · obtain ⟨j, pk, e1, e2, e3⟩ := LiI.paired_ix atP hb
    rw [e3] at q
    cases q
    obtain ⟨x, y, f1, f2, f3⟩ := hG.pairs j b e1
    obtain ⟨qv, g1, g2, g3⟩ := rel j x y f1 f2
    rw [e2] at g1
    cases g1
    exact ⟨by show 2 ≤ sizeLine; decide, [x, y], .cons g2 (.cons g3 .nil), ⟨_, f3, rfl, _, rfl⟩⟩
  · by_cases hb2 : b = lo
    · subst hb2
      rw [eS] at q
      cases q
      refine ⟨by rw [List.length_map, hl]; exact hz, acc.toList, c, by rw [hacc]; exact LiI.vals_refs as, ?_⟩
      rw [Array.toArray_toList]
      exact hS
    · rw [off b hb hb2] at q
      exact (I.hok b u q).stay (fun d v _ y => hk d v y) (fun d y => kp d _ y) fun d xs y => kp d _ y
theorem vals_ix : ∀ {vs : List V} {us : List Value} {j : Nat} {x : Value}, Vals vs us → us[j]? = some x → ∃ v, vs[j]? = some v ∧ RelV v x
  | _, _, _, _, .nil, h => by cases h
  | _, _, 0, _, .cons r t, h => by cases h; exact ⟨_, rfl, r⟩
  | _, _, j + 1, _, .cons r t, h => vals_ix (j := j) t h
theorem pe_listZip {a b : Expr} {ta : TA} {p p2 cpos pos : Pos} (hc : X.calm = true) (ha : PA X [a, b] ta) (hg : Gl X "list") (hm : X.mg "list" = none) (hgz : Gl X "zip") (hmz : X.mg "zip" = none)
    (hs : starEach [a, b] X.env = (false, eval a X.env) :: starEach [b] X.env := by rfl) (hpl : (backTo cpos (starEach [b] X.env)).any (·.1) = false := by rfl)
    (hs2 : starEach [.Call (.Name "zip" p2) [a, b] [] cpos] X.env = (false, eval (.Call (.Name "zip" p2) [a, b] [] cpos) X.env) :: starEach [] X.env := by rfl) :
    PE X (.Call (.Name "list" p) [.Call (.Name "zip" p2) [a, b] [] cpos] [] pos) (tCB (rListZip X.K) ta) := by
  refine ⟨fun pins s σ H Q I hq => ?_⟩
  refine wpAny_Call_Name_kw (ld_blt I hg hm boot_list ?_)
  refine PyProof.Rows.callWith_type1 ?_ hs2 rfl
  rw [hs2]
  show wpAny _ _ (spliced ((false, eval (.Call (.Name "zip" p2) [a, b] [] cpos) X.env) :: backTo pos (starEach [] X.env))) _ _ s
  refine Calls.spliced_cons ?_
  refine wpAny_Call_Name_kw (ld_blt I hgz hmz PyProof.Rows.boot_zip (PyProof.Rows.callWith_type1 (thn (ha.run cpos pins s σ H _ I hq) fun us s1 ⟨vs, H1, I1, r1, q1⟩ => ?_) hs hpl))
  obtain ⟨a, b, xs, ys, ex, hlen, hk, q⟩ := q1
  subst ex
  cases r1 with
  | cons r rr =>
  cases rr with
  | cons r' rr =>
  cases rr
  cases r
  cases r'
  have hH : X.A.in1.in1.in1.handled = none := I1.ok.hd hc
  have fin : ∀ {its its2 : List Value} {St1 St2 : Nat → Heap → Prop} {h' : Heap}, Vals xs its → Vals ys its2 → xs.length ≤ sizeLine → a < s1.heap.objs.size → b < s1.heap.objs.size →
      Draws X.prog X.w X.A.in1.in1.in1 s1.heap.objs.size [s1.heap.objs.size, a] its.toArray.size (fun i v => its.toArray[i]? = some v) St1 → Draws X.prog X.w X.A.in1.in1.in1 (s1.heap.objs.size + 1 : Nat) [(s1.heap.objs.size + 1 : Nat), b] its2.toArray.size (fun i v => its2.toArray[i]? = some v) St2 → St1 0 h' → St2 0 h' →
      IsZip h' (s1.heap.objs.size + 4 : Nat) (s1.heap.objs.size + 2 : Nat) (s1.heap.objs.size + 3 : Nat) .none → IsTupOf2 h' (s1.heap.objs.size + 2 : Nat) (.ref s1.heap.objs.size) (.ref (s1.heap.objs.size + 1 : Nat)) → IsTupOf2 h' (s1.heap.objs.size + 3 : Nat) .none .none → h'.objs.size = s1.heap.objs.size + 5 → (∀ c o, s1.heap.get? c = some o → h'.get? c = some o) →
      wpAny (model X.prog X.w) X.A (call (.type "list") [.ref (s1.heap.objs.size + 4 : Nat)]) (fun v s' => ∃ x H', Inv X pins σ H' s' ∧ RelV x v ∧ Q x H') X.xe { s1 with heap := h' } := by
    intro its its2 St1 St2 h' rv rv2 hsl la lb D1 D2 t1 t2 hz hTI hTO hsz hkp
    have el : its.toArray.size = xs.length := by rw [List.size_toArray]; exact (Paired.length rv).symm
    have el2 : its2.toArray.size = its.toArray.size := by rw [el, List.size_toArray, hlen]; exact (Paired.length rv2).symm
    rw [el2] at D2
    refine zl_call (s := { s1 with heap := h' }) (fp1 := [s1.heap.objs.size, a]) (fp2 := [(s1.heap.objs.size + 1 : Nat), b]) ?_ D1 D2 (by rw [el]; exact hsl) hz hTI ⟨_, _, hTO⟩ t1 t2 fun h2 tk acc c as hk2 hS hl hG hacc => ?_
    · show Zap h'.objs.size _ _ _ _ _ _ _
      rw [hsz]
      have la : (a : Nat) < s1.heap.objs.size := la
      have lb : (b : Nat) < s1.heap.objs.size := lb
      refine ⟨zip_sep2 (N := s1.heap.objs.size) (fp1 := [a]) (fp2 := [b]) (by simpa using la) (by simpa using lb), ?_, ?_, ?_, ?_, ?_, ?_, ?_⟩
      · exact Nat.add_lt_add_left (by decide) _
      · exact Nat.add_lt_add_left (by decide) _
      · exact Nat.add_lt_add_left (by decide) _
      · exact Nat.lt_add_of_pos_right (by decide)
      · exact Nat.add_lt_add_left (by decide) _
      · intro c hc
        have hc : c = s1.heap.objs.size ∨ c = a := by simpa using hc
        rcases hc with rfl | rfl
        · exact Nat.lt_add_of_pos_right (by decide)
        · exact Nat.lt_of_lt_of_le la (Nat.le_add_right _ _)
      · intro c hc
        have hc : c = (s1.heap.objs.size + 1 : Nat) ∨ c = b := by simpa using hc
        rcases hc with rfl | rfl
        · exact Nat.add_lt_add_left (by decide) _
        · exact Nat.lt_of_lt_of_le lb (Nat.le_add_right _ _)
    · have zl : (xs.zip ys).length = xs.length := by rw [List.length_zip, hlen, Nat.min_self]
      have off : ∀ {b : Addr} {o : Obj} (k : Nat), s1.heap.get? b = some o → b ≠ (s1.heap.objs.size + k : Nat) := fun k e z => by
        have := Heap.lt_size e
        rw [z] at this
        have this : (s1.heap.objs.size + k : Nat) < s1.heap.objs.size := this
        omega
      obtain ⟨H', k1, k2, k3, k4, k5, k6, k7, k8, J⟩ := zip_laid (tk := tk) (qs := xs.zip ys) I1 (show s1.heap.objs.size ≤ h'.objs.size by rw [hsz]; omega) (by rw [zl]; exact hsl) (fun j x y f1 f2 => by
        rw [List.getElem?_toArray] at f1 f2
        obtain ⟨u, g1, g2⟩ := vals_ix rv f1
        obtain ⟨v, g3, g4⟩ := vals_ix rv2 f2
        exact ⟨(u, v), List.getElem?_zip_eq_some.mpr ⟨g1, g3⟩, g2, g4⟩) (fun c o e => hk2 c o (off 4 e) (off 3 e) (off 0 e) (off 1 e) (hkp c o e)) hS (by rw [hl, el, zl]) hG hacc
      exact ⟨.ref _, H', J, rfl, q H' _ as k1 k2 k3 k4 k5 k6 k7 k8⟩
  rcases hk with ⟨hqx, hqy⟩ | ⟨hqx, hqy⟩
  · obtain ⟨its, rv, p1, hsl⟩ := I1.list hqx
    obtain ⟨its2, rv2, p2, _⟩ := I1.list hqy
    refine zip_begins2 (begins_list a its.toArray) (begins_list b its2.toArray) p1.isList p2.isList fun h' hz hTI hTO h1 h2 hsz hkp => ?_
    refine Calls.spliced_nil ?_
    have la := p1.lt
    have lb := p2.lt
    refine fin rv rv2 hsl la lb (Draws.list hH _ _ (Nat.ne_of_lt la) its.toArray) (Draws.list hH _ _ (Nat.ne_of_lt (Nat.lt_succ_of_lt lb)) its2.toArray) ⟨⟨_, h1, rfl, rfl⟩, p1.isList.at fun o e => hkp _ o e⟩ ⟨⟨_, h2, rfl, rfl⟩, p2.isList.at fun o e => hkp _ o e⟩ hz hTI hTO hsz hkp
  · obtain ⟨its, rv, p1, hsl⟩ := I1.tuple hqx
    obtain ⟨its2, rv2, p2, _⟩ := I1.tuple hqy
    refine zip_begins2 (begins_tuple a its.toArray) (begins_tuple b its2.toArray) p1 p2 fun h' hz hTI hTO h1 h2 hsz hkp => ?_
    refine Calls.spliced_nil ?_
    obtain ⟨o1, ho1, _⟩ := id p1
    obtain ⟨o2, ho2, _⟩ := id p2
    have la := Heap.lt_size ho1
    have lb := Heap.lt_size ho2
    refine fin rv rv2 hsl la lb (Draws.tuple hH _ _ (Nat.ne_of_lt la) its.toArray) (Draws.tuple hH _ _ (Nat.ne_of_lt (Nat.lt_succ_of_lt lb)) its2.toArray) ⟨⟨_, h1, rfl, rfl⟩, Heap.IsTuple.at p1 fun o e => hkp _ o e⟩ ⟨⟨_, h2, rfl, rfl⟩, Heap.IsTuple.at p2 fun o e => hkp _ o e⟩ hz hTI hTO hsz hkp
end
end Vl
/-! The value layer, 37: list(zip(xs, ys)) as an expression. -/
namespace Vl
open PySem PySem.Spec PyProof.Rows L2

def pr2D (x y : D) : D := .nd .tup .c () [x, y]
def D.lzip : List D → Option D
  | [.nd .lst _ _ xs, .nd .lst _ _ ys] => if allL isC xs = true ∧ allL isC ys = true ∧ xs.length = ys.length then some (.nd .lst .o () (List.zipWith pr2D xs ys)) else none
  | [.nd .tup _ _ xs, .nd .tup _ _ ys] => if allL isC xs = true ∧ allL isC ys = true ∧ xs.length = ys.length then some (.nd .lst .o () (List.zipWith pr2D xs ys)) else none
  | _ => none
/-- the pairs with their addresses -/
def pairA : List Addr → List A → List A → List A
  | t :: ts, x :: xs, y :: ys => .nd .tup .c (t, 0) [x, y] :: pairA ts xs ys
  | _, _, _ => []
theorem pairA_er : ∀ {ts : List Addr} {xs ys : List A}, ts.length = xs.length → xs.length = ys.length → mapL (fun _ => ()) (pairA ts xs ys) = List.zipWith pr2D (mapL (fun _ => ()) xs) (mapL (fun _ => ()) ys)
  | [], [], [], _, _ => rfl
  | t :: ts, x :: xs, y :: ys, h1, h2 => by
    have ih := pairA_er (ts := ts) (xs := xs) (ys := ys) (Nat.succ.inj h1) (Nat.succ.inj h2)
    show T.nd .tup .c () [er x, er y] :: mapL (fun _ => ()) (pairA ts xs ys) = _
    rw [ih]; rfl
  | [], _ :: _, _, h, _ => by cases h
  | _ :: _, [], _, h, _ => by cases h
  | [], [], _ :: _, _, h => by cases h
  | _ :: _, _ :: _, [], _, h => by cases h
theorem pairA_val : ∀ {ts : List Addr} {xs ys : List A}, ts.length = xs.length → xs.length = ys.length → (pairA ts xs ys).map val = ts.map V.ref
  | [], [], [], _, _ => rfl
  | t :: ts, x :: xs, y :: ys, h1, h2 => by
    have ih := pairA_val (ts := ts) (xs := xs) (ys := ys) (Nat.succ.inj h1) (Nat.succ.inj h2)
    show V.ref t :: (pairA ts xs ys).map val = V.ref t :: ts.map V.ref
    rw [ih]
  | [], _ :: _, _, h, _ => by cases h
  | _ :: _, [], _, h, _ => by cases h
  | [], [], _ :: _, _, h => by cases h
  | _ :: _, _ :: _, [], _, h => by cases h
theorem pairA_cold : ∀ {ts : List Addr} {xs ys : List A}, allL isC xs = true → allL isC ys = true → allL isC (pairA ts xs ys) = true
  | [], _, _, _, _ => rfl
  | _ :: _, [], _, _, _ => rfl
  | _ :: _, _ :: _, [], _, _ => rfl
  | t :: ts, x :: xs, y :: ys, h1, h2 => by
    rw [allL, Bool.and_eq_true] at h1 h2
    show ((isC .c && (x.all isC && (y.all isC && true))) && allL isC (pairA ts xs ys)) = true
    rw [h1.1, h2.1, pairA_cold h1.2 h2.2]; rfl
section
variable {X : Ctx} {F F' H H' : Hp}
theorem pairA_ok : ∀ {ts : List Addr} {xs ys : List A}, OkL X F H xs → OkL X F H ys → allL isC xs = true → allL isC ys = true → (∀ a u, F a = some u → F' a = some u) → Paired (fun (t : Addr) (q : V × V) => F' t = some (.tup [q.1, q.2])) ts ((xs.map val).zip (ys.map val)) → OkL X F' H' (pairA ts xs ys)
  | [], _, _, _, _, _, _, _, _ => trivial
  | _ :: _, [], _, _, _, _, _, _, p => by cases p
  | _ :: _, _ :: _, [], _, _, _, _, _, p => by cases p
  | t :: ts, x :: xs, y :: ys, o1, o2, c1, c2, fs, p => by
    rw [allL, Bool.and_eq_true] at c1 c2
    cases p with
    | cons h t =>
      have st : ∀ {z : A}, Ok X F H z → z.cold = true → Ok X F' H' z := fun {z} oz cz => cold_stay oz cz fs
      refine ⟨⟨⟨trivial, .of h, ?_⟩, st o1.1 c1.1, st o2.1 c2.1, trivial⟩, pairA_ok o1.2 o2.2 c1.2 c2.2 fs t⟩
      show (x.all isC && (y.all isC && true)) = true
      rw [c1.1, c2.1]; rfl
end
section
variable {ca : Ca} {C : Cx} {W : WX} {a b : Expr} {fa : Env → R (List D)}
theorem paired_len {α β : Type} {P : α → β → Prop} {xs : List α} {ys : List β} (h : Paired P xs ys) : xs.length = ys.length := Paired.length h
theorem opn_lzip : OpN (cx ca C) (fun r => r = rListZip C.K ∨ r = fun _ _ _ => False) D.lzip := by
  intro ds d h
  refine ⟨_, .inl rfl, fun F H zs Q s ok nd ex kk => ?_⟩
  have main : ∀ {k : Kd} {m1 m2 : Mk} {u v : Unit} {xs0 ys0 : List D}, ds = [.nd k m1 u xs0, .nd k m2 v ys0] → (k = .lst ∨ k = .tup) → (if allL isC xs0 = true ∧ allL isC ys0 = true ∧ xs0.length = ys0.length then some (T.nd .lst .o () (List.zipWith pr2D xs0 ys0)) else none) = some d → rListZip C.K (zs.map val) H Q := by
    intro k m1 m2 u v xs0 ys0 e hk hd
    subst e
    split at hd
    · rename_i hz
      cases hd
      obtain ⟨x, y, rfl, e1, e2⟩ := two_of ex
      obtain ⟨a, xs, rfl, ex1⟩ := er_nd e1
      obtain ⟨b, ys, rfl, ey1⟩ := er_nd e2
      subst ex1 ey1
      have c1 := er_cold hz.1
      have c2 := er_cold hz.2.1
      have hl : xs.length = ys.length := by rw [← mapL_len (fun _ => ()) xs, ← mapL_len (fun _ => ()) ys]; exact hz.2.2
      refine ⟨a.1, b.1, xs.map val, ys.map val, rfl, by rw [List.length_map, List.length_map]; exact hl, ?_, fun H' p ts kp hp ht npt ndt hL off prs => ?_⟩
      · rcases hk with rfl | rfl
        · exact .inl ⟨SqL.of (ok.1.at_ s), SqL.of (ok.2.1.at_ s)⟩
        · exact .inr ⟨ok.1.at_ s, ok.2.1.at_ s⟩
      · have tl : ts.length = xs.length := by rw [paired_len prs, List.length_zip, List.length_map, List.length_map, hl, Nat.min_self]
        have hF : ∀ q, H q = none → F q = none := fun q h => s.free h
        have ff : ∀ q u, F q = some u → (fun q => if q ∈ ts then H' q else F q) q = some u := fun q u e => by
          show (if q ∈ ts then H' q else F q) = some u
          rw [if_neg (fun z => by rw [hF q (ht q z)] at e; cases e)]; exact e
        have cold := pairA_cold (ts := ts) c1 c2
        refine kk (fun q => if q ∈ ts then H' q else F q) H' (.nd .lst .o (p, 0) (pairA ts xs ys)) kp ff (fun q e1 e2 => ?_) (fun q u e => ?_) ⟨⟨trivial, ⟨?_, trivial⟩, fun q hq => ?_, allC_notB cold⟩, pairA_ok ok.1.kids ok.2.1.kids c1 c2 ff ?_⟩ ?_ ?_ ?_ ?_
        · have e2 : (if q ∈ ts then H' q else F q) ≠ none := e2
          by_cases hq : q ∈ ts
          · exact .inl (ht q hq)
          · rw [if_neg hq] at e2; exact absurd e1 e2
        · have e : (if q ∈ ts then H' q else F q) = some u := e
          by_cases hq : q ∈ ts
          · rw [if_pos hq] at e; exact .inl e
          · rw [if_neg hq] at e
            exact (s q u e).imp (kp q u) fun ⟨o, kv, z1, z2⟩ => ⟨o, kv, z1, kp q _ z2⟩
        · show H' p = some (.lst ((pairA ts xs ys).map val))
          rw [pairA_val tl hl]; exact hL
        · have e : q = p := by simpa [ndA] using hq
          rw [e]
          show (if p ∈ ts then H' p else F p) = none
          rw [if_neg npt]; exact hF p hp
        · have pm : ∀ {us : List Addr} {qs : List (V × V)}, Paired (fun (t : Addr) (q : V × V) => H' t = some (.tup [q.1, q.2])) us qs → (∀ t ∈ us, t ∈ ts) → Paired (fun (t : Addr) (q : V × V) => (fun q => if q ∈ ts then H' q else F q) t = some (.tup [q.1, q.2])) us qs := by
            intro us qs pp
            induction pp with
            | nil => exact fun _ => .nil
            | cons h t ih => exact fun hu => .cons (by show (if _ ∈ ts then _ else _) = _; rw [if_pos (hu _ (.head _))]; exact h) (ih fun z hz => hu z (.tail _ hz))
          exact pm prs fun t h => h
        · show T.nd .lst .o () (mapL (fun _ => ()) (pairA ts xs ys)) = _
          rw [pairA_er tl hl]
        · show ([p] ++ adrL .o (pairA ts xs ys)).Nodup
          rw [adrL_nil (p := isC) rfl cold]; simp
        · intro q hq
          have hq : q ∈ [p] ++ adrL .o (pairA ts xs ys) := hq
          rw [adrL_nil (p := isC) rfl cold, List.append_nil] at hq
          rw [List.mem_singleton.mp hq]; exact .inl hp
        · intro q hq
          have hq : q ∈ [] ++ adrL .b (pairA ts xs ys) := hq
          rw [adrL_nil (p := isC) rfl cold] at hq
          cases hq
    · cases hd
  unfold D.lzip at h
  split at h
  · exact main rfl (.inl rfl) h
  · exact main rfl (.inr rfl) h
  · cases h
theorem ce_lzip {p p2 cpos pos : Pos} (hc : C.calm = true) (hg : Gl C "list") (hm : C.mg "list" = none) (hgz : Gl C "zip") (hmz : C.mg "zip" = none) (ha : CA ca C W [a, b] fa)
    (hs : starEach [a, b] C.env = (false, eval a C.env) :: starEach [b] C.env := by rfl) (hpl : (backTo cpos (starEach [b] C.env)).any (·.1) = false := by rfl)
    (hs2 : starEach [.Call (.Name "zip" p2) [a, b] [] cpos] C.env = (false, eval (.Call (.Name "zip" p2) [a, b] [] cpos) C.env) :: starEach [] C.env := by rfl) : CE ca C W (.Call (.Name "list" p) [.Call (.Name "zip" p2) [a, b] [] cpos] [] pos) (E.args D.lzip fa) := ⟨fun ρ => by
  obtain ⟨ta, r, pa, ok, i⟩ := args_imp (.inr rfl) opn_lzip ha ρ
  have base := pe_listZip (p := p) (p2 := p2) (pos := pos) (cpos := cpos) hc pa hg hm hgz hmz hs hpl hs2
  rcases ok with rfl | rfl
  · exact PE.mono base i
  · exact PE.mono (pe_listZip (p := p) (p2 := p2) (pos := pos) (cpos := cpos) hc (PA.clos pa) hg hm hgz hmz hs hpl hs2) fun σ H Q q => ⟨_, i σ H Q q, fun vs H f => f.elim⟩⟩
end
end Vl
/-! The value layer, 38: list comprehensions of two clauses. -/
namespace Vl
open PySem PySem.Spec PyProof.Rows L2

def lc2L (g : Gv) (t : Ev) (i1 : Iv) (vs1 : List Nat) (g1 : Gv) (t1 f : Ev) (ρw : Env) : List D → Option (List D)
  | [] => some []
  | d :: ds => match g d ρw with
    | none => none
    | some ρ1 => match t ρ1 with
      | .ok (.bl true) _ => match i1 ρ1 with
        | .ok es _ => match lcL g1 t1 f (wipeL ρ1 vs1) es with
          | some ys => (lc2L g t i1 vs1 g1 t1 f ρw ds).map (ys ++ ·)
          | none => none
        | _ => none
      | .ok (.bl false) _ => lc2L g t i1 vs1 g1 t1 f ρw ds
      | _ => none
def E.lc2 (fi : Iv) (vs : List Nat) (g : Gv) (t : Ev) (i1 : Iv) (vs1 : List Nat) (g1 : Gv) (t1 f : Ev) : Ev := fun ρ => (fi ρ).bind fun ds ρ1 => match lc2L g t i1 vs1 g1 t1 f (wipeL ρ1 vs) ds with
  | some ys => if ys.length ≤ sizeLine then .ok (.nd .lst .o () ys) ρ1 else .bad
  | none => .bad
def iT (X : Ctx) (i1 : Iv) : TI := fun σ H R => ∃ ρ, rdI X W0 i1 ρ σ H R
section
variable {X : Ctx} {W : WX} {F F1 F3 F4 F5 F6 H H1 H3 H4 H5 H6 : Hp} {r r1 r4 r7 : AR} {σ σ4 σ7 : St} {ρ : Env} {D : Addr} {ys : List A}
/-- beside the list that is made, the slots within a turn -/
structure Inn (X : Ctx) (F1 H1 : Hp) (r1 : AR) (σ : St) (D : Addr) (F4 H4 : Hp) (r4 : AR) (σ4 : St) (F H : Hp) (ys : List A) : Prop where
  acc : Acc X F1 H1 r1 σ D F H ys
  st : Stt X F H r4 σ4
  fs : ∀ a u, F4 a = some u → F a = some u
  bs : ∀ b ∈ adrR .b r4, ∀ u, H4 b = some u → H b = some u
theorem Inn.step (a : Inn X F1 H1 r1 σ D F4 H4 r4 σ4 F3 H3 ys) (s1 : Stt X F1 H1 r1 σ) (hD : H1 D = none) (hr : ∀ a ∈ adrR .o r4, a ∈ adrR .o r1) (hr7 : ∀ a ∈ adrR .o r7, a ∈ adrR .o r4) (s7 : Stt X F3 H3 r7 σ7) (g : Grow F3 H3 r7 F6 H6 r7) (s6 : Stt X F6 H6 r7 σ7) : Inn X F1 H1 r1 σ D F4 H4 r4 σ4 F6 H6 ys := by
  refine ⟨a.acc.step s1 hD (fun q hq => hr q (hr7 q hq)) s7 g s6, (Stt.beside a.st .refl a.st hr7 g s6).1, fun q u h => g.fs q u (a.fs q u h), fun b hb u h => g.same b u (a.bs b hb u h)⟩
theorem Inn.add {y : A} (a : Inn X F1 H1 r1 σ D F4 H4 r4 σ4 F3 H3 ys) (s1 : Stt X F1 H1 r1 σ) (hD : H1 D = none) (hr : ∀ a ∈ adrR .o r4, a ∈ adrR .o r1) (hb : ∀ a ∈ adrR .b r4, a ∈ adrR .b r1) (ok : Ok X F3 H3 y) (nd : (own y).Nodup) (new : ∀ q ∈ own y, H1 q = none ∧ q ≠ D ∧ q ∉ adrL .o ys) (nb : y.nob = true) :
    Inn X F1 H1 r1 σ D F4 H4 r4 σ4 F3 (upd H3 D (.lst (ys.map val ++ [val y]))) (ys ++ [y]) := by
  have nD : ∀ q, H1 q ≠ none → q ≠ D := fun q h e => h (by rw [e]; exact hD)
  have h := a.acc.add s1 hD ok nd new nb
  exact ⟨h, a.st.keep (fun _ _ z => z) (fun q hq => ⟨upd_ne (nD q (s1.own_there (hr q hq)).1), (a.st.own_there hq).2⟩) (fun b hb' u hu => by rw [upd_ne (nD b (s1.bor_there (hb b hb')))]; exact hu) h.stt.sub, a.fs, fun b hb' u hu => by rw [upd_ne (nD b (s1.bor_there (hb b hb')))]; exact a.bs b hb' u hu⟩
theorem lc2_main {fi i1 : Iv} {vs vs1 ss ss1 : List Nat} {g g1 : Gv} {t t1 f : Ev} {Q : VK} (hfx : ∀ p ∈ X.fix, p.1 ∉ vs) (hfx1 : ∀ p ∈ X.fix, p.1 ∉ vs1) (hss : ∀ j ∈ ss, j ∈ vs) (hss1 : ∀ j ∈ ss1, j ∈ vs1) (ht : PureE t) (hi1 : PureI i1) (ht1 : PureE t1) (hf : PureE f) (s : Stt X F H r σ) (e : erR r = ρ) (p : PostE X W σ F H r (E.lc2 fi vs g t i1 vs1 g1 t1 f ρ) Q) :
    tLc2 (rdI X W fi ρ) (gT X ss g) (tT X t) (iT X i1) (gT X ss1 g1) (tT X t1) (eT X f) vs vs1 σ H Q := by
  unfold E.lc2 at p
  refine ⟨F, r, s, e, ?_⟩
  cases hi : fi ρ with
  | bad => rw [hi] at p; exact p
  | exc c fs ρ1 => rw [hi] at p; exact p
  | ok ds ρ1 =>
    rw [hi, R.ok_bind] at p
    intro F1 H1 r1 J g0 s1 e1 it D hD
    cases hlc : lc2L g t i1 vs1 g1 t1 f (wipeL ρ1 vs) ds with
    | none => rw [hlc] at p; exact p.elim
    | some ys =>
      rw [hlc] at p
      dsimp only at p
      split at p
      · rename_i hlen
        have hs0 : ∀ a, H1 a = none → H a = none := fun a h => by
          cases e : H a with
          | none => rfl
          | some u => rw [g0.same a u e] at h; cases h
        have fD : F1 D = none := s1.sub.free hD
        have start : Acc X F1 H1 r1 σ D F1 (upd H1 D (.lst [])) [] := by
          have up := same_new (u := HO.lst []) hD
          exact ⟨s1.grow0 up (fun _ _ h => h) (fun _ h h' => absurd h h') fun q u h => (s1.sub q u h).imp (up q u) fun ⟨o, k, z1, z2⟩ => ⟨o, k, z1, up q _ z2⟩, ⟨up, fun _ _ h => h, fun _ h h' => absurd h h', fun _ h => h, fun _ => Iff.rfl, rfl⟩, upd_same, fD, trivial, List.nodup_nil, fun _ z => (by cases z), rfl⟩
        refine ⟨fun i m H2 => m = ds.length - i ∧ i ≤ ds.length ∧ ∃ F2 zs rest, Acc X F1 H1 r1 σ D F2 H2 zs ∧ lc2L g t i1 vs1 g1 t1 f (wipeL ρ1 vs) (ds.drop i) = some rest ∧ zs.map er ++ rest = ys, ⟨ds.length, by simp, Nat.zero_le _, F1, [], ys, start, by rw [List.drop_zero]; exact hlc, rfl⟩, ?_⟩
        rintro i m H2 ⟨rfl, hi2, F2, zs, rest, acc, hrest, hys⟩
        obtain ⟨w1, w2⟩ := it i F2 H2 r1 σ ⟨acc.gr.fs, fun b _ u hu => acc.gr.same b u hu⟩ acc.stt
        by_cases hlt : i < ds.length
        · have hd : ds[i]? = some ds[i] := List.getElem?_eq_getElem hlt
          obtain ⟨go, yl⟩ := w1 _ hd
          rw [List.drop_eq_getElem_cons hlt] at hrest
          refine .inr ⟨go, fun H' => i + 1 ≤ ds.length ∧ ∃ F2 zs rest, Acc X F1 H1 r1 σ D F2 H' zs ∧ lc2L g t i1 vs1 g1 t1 f (wipeL ρ1 vs) (ds.drop (i + 1)) = some rest ∧ zs.map er ++ rest = ys, fun H' hN => ⟨ds.length - (i + 1), by omega, rfl, hN.1, hN.2⟩, fun x H3 y => ?_⟩
          obtain ⟨F3, z, g3, s3, okz, ez, evz, cz⟩ := yl x H3 y
          have acc3 := acc.step s1 hD (fun _ h => h) acc.stt g3 s3
          unfold lc2L at hrest
          cases hg : g ds[i] (wipeL ρ1 vs) with
          | none => rw [hg] at hrest; cases hrest
          | some ρ2 =>
            rw [hg] at hrest
            dsimp only at hrest
            have sw := s3.wipe hfx
            have ew : erR (wipeL r1 vs) = wipeL ρ1 vs := by rw [← e1]; exact wipeL_map er r1 vs
            rw [wipe_eq]
            refine ⟨ds[i], wipeL ρ1 vs, ρ2, hg, F3, wipeL r1 vs, z, sw, ew, evz, ez, okz, by rw [cold_own cz]; exact List.nodup_nil, by rw [cold_own cz]; exact fun _ h => (by cases h), by rw [cold_own cz]; exact fun _ h => (by cases h), by rw [cold_bor cz]; exact fun _ h => (by cases h), fun r4 σ4 s4 e4 ow4 bo4 on4 => ⟨by rw [wipe_eq]; exact wipe_only on4 hss, ρ2, ?_⟩⟩
            have hr : ∀ a ∈ adrR .o r4, a ∈ adrR .o r1 := fun a ha => (ow4 a ha).elim (adr_wipe a) fun h => by rw [cold_own cz] at h; cases h
            have hb4 : ∀ a ∈ adrR .b r4, a ∈ adrR .b r1 := fun a ha => adr_wipe a (bo4 a ha)
            cases htt : t ρ2 with
            | bad => rw [htt] at hrest; cases hrest
            | exc c fs ρ3 => rw [htt] at hrest; cases hrest
            | ok b ρ3 =>
              have eb := ht _ _ _ htt
              subst eb
              rw [htt] at hrest
              cases b with
              | bl b =>
                refine test_step htt F3 r4 s4 e4 fun F5 H5 r5 g5 s5 e5 => ?_
                have er5 : r5 = r4 := same_env (by rw [e5, e4]) g5.un
                subst er5
                have acc5 := acc3.step s1 hD hr s4 g5 s5
                cases b with
                | false =>
                  rw [if_neg (by decide)]
                  exact ⟨hlt, F5, zs, rest, acc5, hrest, hys⟩
                | true =>
                  rw [if_pos rfl]
                  dsimp only at hrest
                  cases hii : i1 ρ3 with
                  | bad => rw [hii] at hrest; cases hrest
                  | exc c fs ρ4 => rw [hii] at hrest; cases hrest
                  | ok es ρ4 =>
                    have eb := hi1 _ _ _ hii
                    subst eb
                    rw [hii] at hrest
                    dsimp only at hrest
                    cases hin : lcL g1 t1 f (wipeL ρ4 vs1) es with
                    | none => rw [hin] at hrest; cases hrest
                    | some ys1 =>
                      rw [hin] at hrest
                      dsimp only at hrest
                      cases hr2 : lc2L g t i1 vs1 g1 t1 f (wipeL ρ1 vs) (ds.drop (i + 1)) with
                      | none => rw [hr2] at hrest; cases hrest
                      | some rest2 =>
                        rw [hr2] at hrest
                        have hrest : ys1 ++ rest2 = rest := Option.some.inj hrest
                        subst hrest
                        refine ⟨ρ4, F5, r5, s5, e5, ?_⟩
                        rw [hii]
                        intro F6 H6 r6 J1 g6 s6 e6 it1
                        have er6 : r6 = r5 := same_env (by rw [e6, e5]) g6.un
                        subst er6
                        have acc6 := acc5.step s1 hD hr s5 g6 s6
                        have inn0 : Inn X F1 H1 r1 σ D F6 H6 r6 σ4 F6 H6 zs := ⟨acc6, s6, fun _ _ h => h, fun _ _ _ h => h⟩
                        refine ⟨fun j k H' => k = es.length - j ∧ j ≤ es.length ∧ ∃ F' zs1 rest1, Inn X F1 H1 r1 σ D F6 H6 r6 σ4 F' H' zs1 ∧ lcL g1 t1 f (wipeL ρ4 vs1) (es.drop j) = some rest1 ∧ zs1.map er ++ (rest1 ++ rest2) = ys, ⟨es.length, by simp, Nat.zero_le _, F6, zs, ys1, inn0, by rw [List.drop_zero]; exact hin, hys⟩, ?_⟩
                        rintro j k H7 ⟨rfl, hj2, F7, zs1, rest1, inn, hrest1, hys1⟩
                        obtain ⟨v1, v2⟩ := it1 j F7 H7 r6 σ4 ⟨inn.fs, inn.bs⟩ inn.st
                        by_cases hjl : j < es.length
                        · have hdj : es[j]? = some es[j] := List.getElem?_eq_getElem hjl
                          obtain ⟨go1, yl1⟩ := v1 _ hdj
                          rw [List.drop_eq_getElem_cons hjl] at hrest1
                          refine .inr ⟨go1, fun H' => j + 1 ≤ es.length ∧ ∃ F' zs1 rest1, Inn X F1 H1 r1 σ D F6 H6 r6 σ4 F' H' zs1 ∧ lcL g1 t1 f (wipeL ρ4 vs1) (es.drop (j + 1)) = some rest1 ∧ zs1.map er ++ (rest1 ++ rest2) = ys, fun H' hN => ⟨es.length - (j + 1), by omega, rfl, hN.1, hN.2⟩, fun x1 H8 y1 => ?_⟩
                          obtain ⟨F8, z1, g8, s8, okz1, ez1, evz1, cz1⟩ := yl1 x1 H8 y1
                          have inn8 := inn.step s1 hD hr (fun _ h => h) inn.st g8 s8
                          unfold lcL at hrest1
                          cases hg1 : g1 es[j] (wipeL ρ4 vs1) with
                          | none => rw [hg1] at hrest1; cases hrest1
                          | some ρ5 =>
                            rw [hg1] at hrest1
                            dsimp only at hrest1
                            have sw1 := s8.wipe hfx1
                            have ew1 : erR (wipeL r6 vs1) = wipeL ρ4 vs1 := by rw [← e6]; exact wipeL_map er r6 vs1
                            rw [wipe_eq]
                            refine ⟨es[j], wipeL ρ4 vs1, ρ5, hg1, F8, wipeL r6 vs1, z1, sw1, ew1, evz1, ez1, okz1, by rw [cold_own cz1]; exact List.nodup_nil, by rw [cold_own cz1]; exact fun _ h => (by cases h), by rw [cold_own cz1]; exact fun _ h => (by cases h), by rw [cold_bor cz1]; exact fun _ h => (by cases h), fun r9 σ9 s9 e9 ow9 bo9 on9 => ⟨by rw [wipe_eq]; exact wipe_only on9 hss1, ρ5, ?_⟩⟩
                            have hr9 : ∀ a ∈ adrR .o r9, a ∈ adrR .o r6 := fun a ha => (ow9 a ha).elim (adr_wipe a) fun h => by rw [cold_own cz1] at h; cases h
                            cases ht9 : t1 ρ5 with
                            | bad => rw [ht9] at hrest1; cases hrest1
                            | exc c fs ρ6 => rw [ht9] at hrest1; cases hrest1
                            | ok b ρ6 =>
                              have eb := ht1 _ _ _ ht9
                              subst eb
                              rw [ht9] at hrest1
                              cases b with
                              | bl b =>
                                refine test_step ht9 F8 r9 s9 e9 fun Fa Ha ra ga sa ea => ?_
                                have era : ra = r9 := same_env (by rw [ea, e9]) ga.un
                                subst era
                                have inna := inn8.step s1 hD hr hr9 s9 ga sa
                                cases b with
                                | false =>
                                  rw [if_neg (by decide)]
                                  exact ⟨hjl, Fa, zs1, rest1, inna, hrest1, hys1⟩
                                | true =>
                                  rw [if_pos rfl]
                                  dsimp only at hrest1
                                  cases hff : f ρ6 with
                                  | bad => rw [hff] at hrest1; cases hrest1
                                  | exc c fs ρ7 => rw [hff] at hrest1; cases hrest1
                                  | ok yd ρ7 =>
                                    have eb := hf _ _ _ hff
                                    subst eb
                                    rw [hff] at hrest1
                                    dsimp only at hrest1
                                    split at hrest1
                                    · rename_i hnb
                                      cases hr3 : lcL g1 t1 f (wipeL ρ4 vs1) (es.drop (j + 1)) with
                                      | none => rw [hr3] at hrest1; cases hrest1
                                      | some rest3 =>
                                        rw [hr3] at hrest1
                                        have hrest1 : yd :: rest3 = rest1 := Option.some.inj hrest1
                                        subst hrest1
                                        refine ⟨ρ7, Fa, ra, sa, ea, ?_⟩
                                        rw [hff]
                                        intro Fb Hb rb w gb sb eb okb exb vb
                                        have erb : rb = ra := same_env (by rw [eb, ea]) gb.un
                                        subst erb
                                        have innb := inna.step s1 hD hr hr9 sa gb sb
                                        have nbw : w.nob = true := by rw [← hnb, ← exb]; exact (T.all_map _ _ w).symm
                                        have hlt2 : zs1.length < sizeLine := by
                                          have : ys.length = zs1.length + ((rest3.length + 1) + rest2.length) := by rw [← hys1]; simp; omega
                                          omega
                                        refine ⟨zs1.map val, innb.acc.at_, by rw [List.length_map]; exact hlt2, hjl, Fb, zs1 ++ [w], rest3, innb.add s1 hD hr hb4 okb vb.nd (fun q hq => ?_) nbw, rfl, ?_⟩
                                        · have h5 := vb.new q hq
                                          refine ⟨?_, fun e => ?_, fun h => ?_⟩
                                          · cases e : H1 q with
                                            | none => rfl
                                            | some u => rw [inna.acc.gr.same q u e] at h5; cases h5
                                          · rw [e, inna.acc.at_] at h5; cases h5
                                          · exact (OkL.own_there inna.acc.ok q h).1 h5
                                        · rw [List.map_append, List.map_cons, List.map_nil, exb, List.append_assoc, ← hys1]; rfl
                                    · cases hrest1
                              | _ => cases hrest1
                        · have e5 : j = es.length := by omega
                          subst e5
                          rw [List.drop_length] at hrest1
                          have hrest1 : ([] : List _) = rest1 := Option.some.inj hrest1
                          subst hrest1
                          exact .inl ⟨v2 (Nat.le_refl _), hlt, F7, zs1, rest2, inn.acc, rfl, hys1⟩
              | _ => cases hrest
        · have e5 : i = ds.length := by omega
          subst e5
          rw [List.drop_length] at hrest
          have hrest : ([] : List _) = rest := Option.some.inj hrest
          subst hrest
          rw [List.append_nil] at hys
          refine .inl ⟨w2 (Nat.le_refl _), ?_⟩
          have oy : own (T.nd .lst .o (D, D) zs) = D :: adrL .o zs := rfl
          refine p F2 H2 r1 (.nd .lst .o (D, D) zs) (g0.trans s1 acc.gr) acc.stt e1 ⟨⟨trivial, ⟨acc.at_, trivial⟩, fun q hq => ?_, acc.nob⟩, acc.ok⟩ ?_ ⟨?_, fun q hq => ?_, fun b hb => ?_⟩
          · have e : q = D := by simpa [ndA] using hq
            rw [e]; exact acc.fd
          · show T.nd .lst .o () (mapL (fun _ => ()) zs) = _
            rw [mapL_eq, ← hys]
          · rw [oy]
            exact List.nodup_cons.mpr ⟨fun h => (acc.new D h).2 rfl, acc.nd⟩
          · rw [oy] at hq
            rcases List.mem_cons.mp hq with rfl | h
            · exact hs0 _ hD
            · exact hs0 q (acc.new q h).1
          · have q0 : bor (T.nd .lst .o (D, D) zs) = [] := nob_bor (by rw [T.nob, T.all, Bool.and_eq_true]; exact ⟨rfl, acc.nob⟩)
            rw [q0] at hb; cases hb
      · exact p.elim
end
section
variable {ca : Ca} {C : Cx} {W : WX}
variable {elt tg iter tg1 iter1 : Expr} {ifs ifs1 : List Expr} {scope : Scope} {own : List (Str × Nat)} {pos : Pos} {fi i1 : Iv} {g g1 : Gv} {t t1 f : Ev} {ss ss1 vs vs1 : List Nat}
theorem ce_lc2 (hvs : vs = own.map (·.2)) (hfx : ∀ p ∈ ca.fix, p.1 ∉ vs) (hss : ∀ j ∈ ss, j ∈ vs) (hss1 : ∀ j ∈ ss1, j ∈ vs1) (hv : ∀ i ∈ vs1, i ∈ vs) (hc : C.calm = true) (hN : C.N.Nodup) (hi : CI ca C W tg iter fi) (ok : BlkOk C.N C.env.scope scope own) (hf : PureE f) (ht : PureE t) (ht1 : PureE t1) (hpi : PureI i1)
    (hg : ∀ (s : Shared) (H : Hp) (B : Addr) (cl : List (Str × Addr)) (fp : List Addr), CG ca (C.blk s H scope (compEnvC scope cl B C.env) fp) tg ss g)
    (hts : ∀ (s : Shared) (H : Hp) (B : Addr) (cl : List (Str × Addr)) (fp : List Addr), CTs ca (C.blk s H scope (compEnvC scope cl B C.env) fp) ifs t)
    (hi1 : ∀ (s : Shared) (H : Hp) (B : Addr) (cl : List (Str × Addr)) (fp : List Addr), CI ca (C.blk s H scope (compEnvC scope cl B C.env) fp) W0 tg1 iter1 i1)
    (hg1 : ∀ (s : Shared) (H : Hp) (B : Addr) (cl : List (Str × Addr)) (fp : List Addr), CG ca (C.blk s H scope (compEnvC scope cl B C.env) fp) tg1 ss1 g1)
    (hts1 : ∀ (s : Shared) (H : Hp) (B : Addr) (cl : List (Str × Addr)) (fp : List Addr), CTs ca (C.blk s H scope (compEnvC scope cl B C.env) fp) ifs1 t1)
    (he : ∀ (s : Shared) (H : Hp) (B : Addr) (cl : List (Str × Addr)) (fp : List Addr), CE ca (C.blk s H scope (compEnvC scope cl B C.env) fp) W0 elt f)
    (hs : ∀ x, foldedSetIterable iter C.env x = pure x := by intro _; rfl) (hs1 : ∀ env x, foldedSetIterable iter1 env x = pure x := by intro _ _; rfl) :
    CE ca C W (.ListComp elt [⟨tg, iter, ifs, 0⟩, ⟨tg1, iter1, ifs1, 0⟩] scope pos) (E.lc2 fi vs g t i1 vs1 g1 t1 f) := ⟨fun ρ => by
  subst hvs
  refine PE.mono (pe_lc2 (g := gT (cx ca C) ss g) (tt := tT (cx ca C) t) (wi1 := iT (cx ca C) i1) (g1 := gT (cx ca C) ss1 g1) (tt1 := tT (cx ca C) t1) (te := eT (cx ca C) f) hc hN (hi.run ρ) ok hv
    (fun s H B cl fp => ⟨fun pins s σ H v u Q I r ⟨d, ρ, ρ', hgd, q⟩ => ((hg _ _ B cl fp).run d ρ ρ' hgd).run pins s σ H v u Q I r q⟩) (fun s H B cl fp => (hts s H B cl fp).run)
    (fun s H B cl fp => ⟨fun pins s σ H R I ⟨ρ, q⟩ => ((hi1 _ _ B cl fp).run ρ).run pins s σ H R I q⟩)
    (fun s H B cl fp => ⟨fun pins s σ H v u Q I r ⟨d, ρ, ρ', hgd, q⟩ => ((hg1 _ _ B cl fp).run d ρ ρ' hgd).run pins s σ H v u Q I r q⟩) (fun s H B cl fp => (hts1 s H B cl fp).run)
    (fun s H B cl fp => ⟨fun pins s σ H Q I ⟨ρ, q⟩ => ((he _ _ B cl fp).run ρ).run pins s σ H Q I q⟩) hs hs1) fun σ H Q ⟨F, r, s, e, p⟩ => lc2_main hfx (fun p hp h => hfx p hp (hv _ h)) hss hss1 ht hpi ht1 hf s e p⟩
theorem cs_setlc2 {i : Nat} {y : Str} {spos py : Pos} (hvs : vs = own.map (·.2)) (hfx : ∀ p ∈ ca.fix, p.1 ∉ vs) (hfi : ∀ p ∈ ca.fix, p.1 ≠ i) (hss : ∀ j ∈ ss, j ∈ vs) (hss1 : ∀ j ∈ ss1, j ∈ vs1) (hv : ∀ i ∈ vs1, i ∈ vs) (hc : C.calm = true) (hN : C.N.Nodup) (hi : CI ca C W tg iter fi) (ok : BlkOk C.N C.env.scope scope own) (hf : PureE f) (ht : PureE t) (ht1 : PureE t1) (hpi : PureI i1)
    (hg : ∀ (s : Shared) (H : Hp) (B : Addr) (cl : List (Str × Addr)) (fp : List Addr), CG ca (C.blk s H scope (compEnvC scope cl B C.env) fp) tg ss g)
    (hts : ∀ (s : Shared) (H : Hp) (B : Addr) (cl : List (Str × Addr)) (fp : List Addr), CTs ca (C.blk s H scope (compEnvC scope cl B C.env) fp) ifs t)
    (hi1 : ∀ (s : Shared) (H : Hp) (B : Addr) (cl : List (Str × Addr)) (fp : List Addr), CI ca (C.blk s H scope (compEnvC scope cl B C.env) fp) W0 tg1 iter1 i1)
    (hg1 : ∀ (s : Shared) (H : Hp) (B : Addr) (cl : List (Str × Addr)) (fp : List Addr), CG ca (C.blk s H scope (compEnvC scope cl B C.env) fp) tg1 ss1 g1)
    (hts1 : ∀ (s : Shared) (H : Hp) (B : Addr) (cl : List (Str × Addr)) (fp : List Addr), CTs ca (C.blk s H scope (compEnvC scope cl B C.env) fp) ifs1 t1)
    (he : ∀ (s : Shared) (H : Hp) (B : Addr) (cl : List (Str × Addr)) (fp : List Addr), CE ca (C.blk s H scope (compEnvC scope cl B C.env) fp) W0 elt f)
    (hy : C.N[i]? = some y := by rfl) (hyl : C.env.scope.names.lookup y = some .local := by rfl) (hsw : swapsWith (.ListComp elt [⟨tg, iter, ifs, 0⟩, ⟨tg1, iter1, ifs1, 0⟩] scope pos) (some (.Name y py)) spos.line C.env = pure true := by rfl)
    (hs : ∀ x, foldedSetIterable iter C.env x = pure x := by intro _; rfl) (hs1 : ∀ env x, foldedSetIterable iter1 env x = pure x := by intro _ _; rfl) :
    CS ca C W (.Assign [.Name y py] (.ListComp elt [⟨tg, iter, ifs, 0⟩, ⟨tg1, iter1, ifs1, 0⟩] scope pos) spos) (S.asg (E.lc2 fi vs g t i1 vs1 g1 t1 f) (G.name i)) := ⟨fun ρ => by
  subst hvs
  refine PS.mono (ps_setLc2 (g := gT (cx ca C) ss g) (tt := tT (cx ca C) t) (wi1 := iT (cx ca C) i1) (g1 := gT (cx ca C) ss1 g1) (tt1 := tT (cx ca C) t1) (te := eT (cx ca C) f) hc hN hy hyl hsw (hi.run ρ) ok hv
    (fun s H B cl fp => ⟨fun pins s σ H v u Q I r ⟨d, ρ, ρ', hgd, q⟩ => ((hg _ _ B cl fp).run d ρ ρ' hgd).run pins s σ H v u Q I r q⟩) (fun s H B cl fp => (hts s H B cl fp).run)
    (fun s H B cl fp => ⟨fun pins s σ H R I ⟨ρ, q⟩ => ((hi1 _ _ B cl fp).run ρ).run pins s σ H R I q⟩)
    (fun s H B cl fp => ⟨fun pins s σ H v u Q I r ⟨d, ρ, ρ', hgd, q⟩ => ((hg1 _ _ B cl fp).run d ρ ρ' hgd).run pins s σ H v u Q I r q⟩) (fun s H B cl fp => (hts1 s H B cl fp).run)
    (fun s H B cl fp => ⟨fun pins s σ H Q I ⟨ρ, q⟩ => ((he _ _ B cl fp).run ρ).run pins s σ H Q I q⟩) hs hs1) fun D σ H ⟨F, r, s, e, p⟩ => ?_
  exact lc2_main hfx (fun p hp h => hfx p hp (hv _ h)) hss hss1 ht hpi ht1 hf s e (asg_name hfi s e p)⟩
end
theorem pu_lc2 {fi i1 : Iv} {vs vs1 : List Nat} {g g1 : Gv} {t t1 f : Ev} (hi : PureI fi) : PureE (E.lc2 fi vs g t i1 vs1 g1 t1 f) := fun ρ d ρ' h => by
  obtain ⟨q, ρ1, h1, h2⟩ := bind_ok h
  have e := hi _ _ _ h1
  split at h2
  · split at h2
    · cases h2; exact e
    · cases h2
  · cases h2
theorem pu_star {f : Ev} {g : Vl.Env → R (List D)} (hf : PureE f) (hg : PureA g) : PureA (E.star f g) := fun ρ d ρ' h => by
  obtain ⟨q, ρ1, h1, h2⟩ := bind_ok h
  have e := hf _ _ _ h1
  split at h2
  · split at h2
    · obtain ⟨q2, ρ2, h3, h4⟩ := bind_ok h2
      cases h4; rw [hg _ _ _ h3, e]
    · cases h2
  · split at h2
    · obtain ⟨q2, ρ2, h3, h4⟩ := bind_ok h2
      cases h4; rw [hg _ _ _ h3, e]
    · cases h2
  · cases h2
end Vl
namespace Vl
open PySem PySem.Spec PyProof.Rows L2
theorem pu_ofp {p : Pv} {f : Ev} (hp : PureP p) (hf : PureE f) : PureI (I.ofp p f) := fun ρ d ρ' h => by
  unfold I.ofp at h
  have base : ∀ {d ρ'}, I.of f ρ = .ok d ρ' → ρ' = ρ := fun {d ρ'} h => pu_of hf ρ d ρ' h
  cases hq : p ρ with
  | bad => rw [hq] at h; exact base h
  | exc c fs ρ1 => rw [hq] at h; exact base h
  | ok q ρ1 =>
    rw [hq] at h
    dsimp only at h
    split at h
    · split at h
      · cases h; exact hp _ _ _ hq
      · cases h
    · exact base h
end Vl
/-! The value layer, 39: dict comprehensions, keys ints and texts or displays of them. -/
namespace Vl
open PySem PySem.Spec PyProof.Rows L2

/-- a kind of dict: how it stands, what a key is -/
structure DKn (κ : Type) [DecidableEq κ] where
  ho : List (κ × V) → HO
  key : Hp → V → κ → Prop
  empty : ∀ {P : Program} {w : World} {H : Hp} (h : Heap), sysModules < h.objs.size → ObjOk P w H (h.push { cls := .type "dict", data := .dict #[] }) h.objs.size (ho [])
  put : ∀ {Y : Cx} {ps : List (Addr × Obj)} {τ : L2.St} {G : Hp} {s : Shared} {E : Value → Shared → Prop} {d : Addr} {kvs : List (κ × V)} {k : κ} {y v : V} {u r : Value} {Q : Unit → Shared → Prop}, Y.A.units + 1 < cLine → Inv Y ps τ G s → G d = some (ho kvs) → kvs.length < sizeLine → key G y k → RelV y u → RelV v r →
    (∀ s', Inv Y ps τ (upd G d (ho (putK kvs k v))) s' → Q () s') → wpAny (model Y.prog Y.w) Y.A (dictSet d u r) Q E s
def dkK : DKn Key where
  ho := .dK
  key := fun _ y k => y = kV k
  empty := fun h hb => dk_empty h hb
  put := fun hu I hD hz hk ry rv h => by subst hk; exact d_dictSet I hD hz ry rv h
def dkT : DKn (List Key) where
  ho := .dT
  key := fun H y k => ∃ b, y = .ref b ∧ H b = some (.tup (k.map kV))
  empty := fun h hb => dt_empty h hb
  put := fun {Y ps τ G s E d kvs k y v u r Q} hu I hD hz hk ry rv h => by
    obtain ⟨b, rfl, eb⟩ := hk
    cases ry
    obtain ⟨z, hd, xs, rel, dd⟩ := dt_of I.hok hD
    have zx : xs.length ≤ sizeLine := by rw [← Paired.length rel]; exact z
    have zl : (putK kvs k v).length ≤ sizeLine := Nat.le_trans (length_putK kvs k v) hz
    refine wpAny_dictSet_heap (hsz := zx) (show Y.A.units < cLine by omega) (key_of I.hok eb) dd fun h' dd' hs => h _ ?_
    obtain ⟨q, es, ep, h1, h2, h3, h4, _, h5⟩ := dd'
    exact d_write I (by rw [hD]; exact True.intro) hs ⟨q, h1⟩ ⟨zl, hd, _, (rel.put k eb rv).keeps fun c ys ec => (upd_ne (ne_of ec hD fun z => nomatch z)).trans ec, q, es, ep, h1, h2, h3, h4, h5⟩
section
variable {κ : Type} [DecidableEq κ]
def tDcG (m : DKn κ) (wi : TI) (g : TG) (tt : TT) (tk tv : TE) (vs : List Nat) : TE := fun σ H Q => wi σ H fun J H1 => ∀ D, H1 D = none → ∃ W : Nat → Nat → Hp → Prop, (∃ n, W 0 n (upd H1 D (m.ho []))) ∧ ∀ i n H, W i n H →
  (J.stop i H ∧ Q (.ref D) H) ∨ (J.go i H ∧ ∃ Nx : Hp → Prop, (∀ H', Nx H' → ∃ n', n' < n ∧ W (i + 1) n' H') ∧ ∀ x H', J.yld i H x H' → g x (wipe σ vs) H' fun σ2 H2 => wipe σ2 vs = wipe σ vs ∧ tt σ2 H2 fun b H3 =>
    if b = true then tk σ2 H3 fun y H4 => tv σ2 H4 fun z H5 => ∃ kvs k, m.key H5 y k ∧ H5 D = some (m.ho kvs) ∧ kvs.length < sizeLine ∧ Nx (upd H5 D (m.ho (putK kvs k z))) else Nx H3)
variable {Y : Cx}
theorem dcg_core (m : DKn κ) {ps : List (Addr × Obj)} {s : Shared} {τ : L2.St} {G : Hp} {Q : VK} {kx vx tg it0 : Expr} {ifs : List Expr} {sc : Scope} {own : List (Str × Nat)} {pos pos' : Pos} {wi : TI} {g : TG} {tt : TT} {tk tv : TE} {use : Option (Value → Sem Unit)} {Qf : Value → Shared → Prop}
    (hu : Y.A.units + 1 < cLine) (hc : Y.calm = true) (hN : Y.N.Nodup) (I : Inv Y ps τ G s) (hi : PI Y tg it0 wi) (ok : BlkOk Y.N Y.env.scope sc own)
    (hg : ∀ (s : Shared) (H : Hp) (B : Addr) (cl : List (Str × Addr)) (fp : List Addr), PG (Y.blk s H sc (compEnvC sc cl B Y.env) fp) tg g) (ht : ∀ (s : Shared) (H : Hp) (B : Addr) (cl : List (Str × Addr)) (fp : List Addr), PTs (Y.blk s H sc (compEnvC sc cl B Y.env) fp) ifs tt)
    (hk : ∀ (s : Shared) (H : Hp) (B : Addr) (cl : List (Str × Addr)) (fp : List Addr), PE (Y.blk s H sc (compEnvC sc cl B Y.env) fp) kx tk)
    (he : ∀ (s : Shared) (H : Hp) (B : Addr) (cl : List (Str × Addr)) (fp : List Addr), PE (Y.blk s H sc (compEnvC sc cl B Y.env) fp) vx tv) (hs : ∀ x, foldedSetIterable it0 Y.env x = pure x)
    (h : tDcG m wi g tt tk tv (own.map (·.2)) τ G Q)
    (hRR : ∀ D B s' mm H', Inv Y ps τ H' s' → Q (.ref D) H' → s'.heap.Ns B mm → FpOk Y ps H' B → compPost (model Y.prog Y.w) Y.A Y.xe use Qf (.ref D) B (.ok .next) s') :
    wpAny (model Y.prog Y.w) Y.A (comprehension (.DictComp kx vx [⟨tg, it0, ifs, 0⟩] sc pos) sc Y.env pos' newDict false (eval it0 Y.env) use) Qf Y.xe s := by
  have hfr : ∀ y ∈ sc.names, y.2 = .free → ∃ c, Y.env.cells.lookup y.1 = some c := fun y hy e => I.ok.has _ (ok.free y hy e)
  refine wpAny_comprehension_free (use := use) rfl hs (closure_ok hfr) ok.kind (fun y hy e => by rw [ok.uniq y hy, e])
    (thn (hi.run ps s τ G _ I h) fun xv s1 hx => thn hx fun itv s2 h2 => ?_)
  obtain ⟨it, fp, tn, J, H2, rfl, I2, T, st2, f2, q⟩ := h2
  refine wpAny_newObj_type (newEnv_comp ?_)
  generalize hD : s2.heap.objs.size = D
  have nD : H2 D = none := I2.hok.fresh (Nat.le_of_eq hD)
  obtain ⟨W, ⟨n0, w0⟩, turn⟩ := q D nD
  generalize es3 : ({ s2 with heap := s2.heap.push { cls := .type "dict", data := .dict #[] } } : Shared) = s3
  have I3 : Inv Y ps τ (upd H2 D (m.ho [])) s3 := by
    subst es3
    exact I2.laid (t' := s2.toks) (fun b o e => Heap.get?_push_of_some _ e) (Nat.le_of_eq hD) (by rw [← hD]; exact m.empty s2.heap I2.big)
  have e3 : s3.heap = s2.heap.push { cls := .type "dict", data := .dict #[] } := by subst es3; rfl
  have f3 : ∀ b ∈ fp, FpOk Y ps (upd H2 D (m.ho [])) b ∧ b < s3.heap.objs.size := fun b hb => by
    obtain ⟨o, e, _⟩ := T.obj _ _ st2 b hb
    have lt := Heap.lt_size e
    refine ⟨⟨(upd_ne (by rw [← hD]; exact Nat.ne_of_lt lt)).trans (f2 b hb).1, (f2 b hb).2⟩, ?_⟩
    rw [e3, Heap.size_push]; exact Nat.lt_succ_of_lt lt
  have st3 : tn 0 s3.heap := T.keep _ _ _ st2 fun b _ o e => by rw [e3]; exact Heap.get?_push_of_some _ e
  have I4 := block_start I3 ok hN f3
  generalize ecl : cellsFrom (s3.heap.objs.size + 1) sc.names (cloFrom Y.env.cells sc.names []) = cl at I4
  have pg := hg s3 (upd H2 D (m.ho [])) s3.heap.objs.size cl fp
  have pt := ht s3 (upd H2 D (m.ho [])) s3.heap.objs.size cl fp
  have pk := hk s3 (upd H2 D (m.ho [])) s3.heap.objs.size cl fp
  have pe := he s3 (upd H2 D (m.ho [])) s3.heap.objs.size cl fp
  show codeAny _ _ (.compStart (.DictComp kx vx [⟨tg, it0, ifs, 0⟩] sc pos) 0 (.ref it) (.ref D) (compEnvC sc cl s3.heap.objs.size Y.env)) (compPost (model Y.prog Y.w) Y.A Y.xe use Qf (.ref D) s3.heap.objs.size) { s3 with heap := pushCells (s3.heap.push { cls := .type "dict", data := .dict #[] }) sc.names }
  have nfp : ∀ b ∈ fp, (upd H2 D (m.ho [])) b = none := fun b hb => (f3 b hb).1.1
  generalize ece : compEnvC sc cl s3.heap.objs.size Y.env = ce at I4 pg pt pk pe ⊢
  have cL : ce.locals = s3.heap.objs.size := by subst ece; rfl
  generalize eH3 : upd H2 D (m.ho []) = H3 at I3 I4 pg pt pk pe w0 nfp f3
  generalize es4 : ({ s3 with heap := pushCells (s3.heap.push { cls := .type "dict", data := .dict #[] }) sc.names } : Shared) = s4 at I4 ⊢
  have st4 : tn 0 s4.heap := T.keep _ _ _ st3 fun b _ o e => by subst es4; exact pushCells_keeps _ _ _ _ (Heap.get?_push_of_some _ e)
  have stat : ∀ {τ' : L2.St} {H' : Hp} {s' : Shared}, Inv (Y.blk s3 H3 sc ce fp) [] τ' H' s' → (∀ b ∈ fp, H' b = none) → ∀ b ∈ fp, FpOk (Y.blk s3 H3 sc ce fp) [] H' b := fun {τ' H' s'} I' hn b hb =>
    ⟨hn b hb, (I'.ok.exf b hb).1, I'.ok.exfs b hb, .inl hb, fun x c e => (I'.ok.exf b hb).2 x c e, fun p hp => absurd (show p ∈ ([] : List (Addr × Obj)) ++ [] from hp) (by simp)⟩
  have loop : codeAny (model Y.prog Y.w) Y.A (.compLoop (.DictComp kx vx [⟨tg, it0, ifs, 0⟩] sc pos) 0 (.ref it) (.ref D) ce) (compPost (model Y.prog Y.w) Y.A Y.xe use Qf (.ref D) s3.heap.objs.size) s4 := by
    refine compLoop_anyD (fun n s' => ∃ i H', Inv (Y.blk s3 H3 sc ce fp) [] (wipe τ (own.map (·.2))) H' s' ∧ tn i s'.heap ∧ (∀ b ∈ fp, H' b = none) ∧ W i n H') ?_ n0 ⟨0, H3, I4, st4, nfp, w0⟩
    rintro n s5 ⟨i, H5, I5, st5, n5, w5⟩
    rcases turn i n H5 w5 with ⟨stop, qq⟩ | ⟨go, Nx, hNx, step⟩
    · refine thnF (T.done (Y.blk s3 H3 sc ce fp) rfl rfl rfl hc i [] s5 _ H5 (fun _ _ => False) I5 (stat I5 n5) st5 stop) fun r s6 ⟨hr, I6⟩ => ?_
      subst hr
      have I7 : Inv Y ps τ H5 s6 := I3.call' (ch := fp) I6.os I6.base I6.hok I6.bare fun b hb => ⟨(f3 b hb).1.2.2.2.1, (f3 b hb).1.2.1, (f3 b hb).1.2.2.2.2.1, (f3 b hb).1.2.2.2.2.2⟩
      have nC : H5 s3.heap.objs.size = none := cL ▸ (show H5 ce.locals = none from I6.free)
      obtain ⟨mm, hn, _⟩ := I6.loc
      have hn : s6.heap.Ns s3.heap.objs.size mm := cL ▸ (show s6.heap.Ns ce.locals mm from hn)
      exact hRR D s3.heap.objs.size s6 mm H5 I7 qq hn (I3.fpOk (Nat.le_refl _) nC)
    · refine thnF (T.item (Y.blk s3 H3 sc ce fp) rfl rfl rfl hc i [] s5 _ H5 (fun _ _ => False) I5 (stat I5 n5) st5 go) fun r s6 ⟨u, hr, h6⟩ => ?_
      subst hr
      refine thnF h6 fun _ s7 ⟨x, H7, I7, r7, y7, st7, n7⟩ => ?_
      have I7' := I7.pinned (stat I7 n7) (T.obj _ _ st7)
      refine thnF (pg.run _ s7 _ H7 x u _ I7' r7 (step x H7 y7)) fun _ s8 ⟨τ8, H8, I8, hw8, q8⟩ => thnF (pt.run _ s8 τ8 H8 _ I8 q8) fun b s9 ⟨H9, I9, q9⟩ => ?_
      have fin : ∀ {s' : Shared} {H' : Hp}, Inv (Y.blk s3 H3 sc ce fp) ([] ++ pinsAt fp s7.heap) τ8 H' s' → Nx H' → ∃ n', n' < n ∧ ∃ i H', Inv (Y.blk s3 H3 sc ce fp) [] (wipe τ (own.map (·.2))) H' s' ∧ tn i s'.heap ∧ (∀ b ∈ fp, H' b = none) ∧ W i n' H' := fun {s' H'} I' nx => by
        obtain ⟨n', hn', w'⟩ := hNx H' nx
        have pin : ∀ b ∈ fp, ∀ o, s7.heap.get? b = some o → s'.heap.get? b = some o ∧ H' b = none := fun b hb o e =>
          (fun z => ⟨z.1, z.2.1⟩) (I'.pin (b, o) (List.mem_append_right _ (List.mem_append_right _ (mem_pinsAt hb e))))
        refine ⟨n', hn', i + 1, H', (I'.unpinned (pins := [])).weak (by rw [← hw8, wipe_length]) (fun j v e => ?_), T.keep _ _ _ st7 fun b hb o e => (pin b hb o e).1, fun b hb => ?_, w'⟩
        · rw [← hw8] at e; exact (wipe_some e).1
        · obtain ⟨o, e, _⟩ := T.obj _ _ st7 b hb
          exact (pin b hb o e).2
      cases b with
      | false =>
        rw [if_neg Bool.false_ne_true] at q9 ⊢
        exact fin I9 q9
      | true =>
        rw [if_pos rfl] at q9 ⊢
        refine thnF (pk.run _ s9 τ8 H9 _ I9 q9) fun z s10 ⟨yk, H10, I10, r10, q10⟩ => thnF (pe.run _ s10 τ8 H10 _ I10 q10) fun z2 s11 ⟨yv, H11, I11, r11, kvs, k, ek, hD11, hz11, nx⟩ => ?_
        exact m.put (Y := Y.blk s3 H3 sc ce fp) hu I11 hD11 hz11 ek r10 r11 fun s12 I12 => fin I12 nx
  exact codeAny_compStart_dict loop (T.self Y.A 0 _ _ _ st4 loop)
theorem pe_dcg (m : DKn κ) {kx vx tg it0 : Expr} {ifs : List Expr} {sc : Scope} {own : List (Str × Nat)} {pos : Pos} {wi : TI} {g : TG} {tt : TT} {tk tv : TE} (hu : Y.A.units + 1 < cLine) (hc : Y.calm = true) (hN : Y.N.Nodup) (hi : PI Y tg it0 wi) (ok : BlkOk Y.N Y.env.scope sc own)
    (hg : ∀ (s : Shared) (H : Hp) (B : Addr) (cl : List (Str × Addr)) (fp : List Addr), PG (Y.blk s H sc (compEnvC sc cl B Y.env) fp) tg g) (ht : ∀ (s : Shared) (H : Hp) (B : Addr) (cl : List (Str × Addr)) (fp : List Addr), PTs (Y.blk s H sc (compEnvC sc cl B Y.env) fp) ifs tt)
    (hk : ∀ (s : Shared) (H : Hp) (B : Addr) (cl : List (Str × Addr)) (fp : List Addr), PE (Y.blk s H sc (compEnvC sc cl B Y.env) fp) kx tk)
    (he : ∀ (s : Shared) (H : Hp) (B : Addr) (cl : List (Str × Addr)) (fp : List Addr), PE (Y.blk s H sc (compEnvC sc cl B Y.env) fp) vx tv) (hs : ∀ x, foldedSetIterable it0 Y.env x = pure x) :
    PE Y (.DictComp kx vx [⟨tg, it0, ifs, 0⟩] sc pos) (tDcG m wi g tt tk tv (own.map (·.2))) := ⟨fun ps s τ G Q I h => by
  rw [arm_eval_DictComp]
  refine dcg_core m hu hc hN I hi ok hg ht hk he hs h fun D B s' mm H' I' q hn f => ⟨mm, hn, fun h2 sb => ?_⟩
  obtain ⟨f0, f1, f2, f3, f4, f5⟩ := f
  exact ⟨.ref D, H', I'.turned (t' := s'.toks) (fun b o hb e => (sb.2 b hb).trans e) f0 f1 f3 f4 f5, rfl, q⟩⟩
end
end Vl
/-! The value layer, 40: dict comprehensions as expressions. -/
namespace Vl
open PySem PySem.Spec PyProof.Rows L2

section
variable {κ : Type} [DecidableEq κ] {α β : Type}
def putQ : List κ → List α → κ → α → List κ × List α
  | k' :: ks, x :: xs, k, v => if k' = k then (k' :: ks, v :: xs) else (k' :: (putQ ks xs k v).1, x :: (putQ ks xs k v).2)
  | _, _, k, v => ([k], [v])
theorem putQ_pos {k' k : κ} {ks : List κ} {x v : α} {xs : List α} (e : k' = k) : putQ (k' :: ks) (x :: xs) k v = (k' :: ks, v :: xs) := if_pos e
theorem putQ_neg {k' k : κ} {ks : List κ} {x v : α} {xs : List α} (e : ¬ k' = k) : putQ (k' :: ks) (x :: xs) k v = (k' :: (putQ ks xs k v).1, x :: (putQ ks xs k v).2) := if_neg e
theorem putQ_map (f : α → β) (k : κ) (v : α) : ∀ {ks : List κ} {xs : List α}, ks.length = xs.length → (putQ ks (xs.map f) k (f v)).1 = (putQ ks xs k v).1 ∧ (putQ ks (xs.map f) k (f v)).2 = (putQ ks xs k v).2.map f
  | [], [], _ => ⟨rfl, rfl⟩
  | k' :: ks, x :: xs, h => by
    obtain ⟨h1, h2⟩ := putQ_map f k v (ks := ks) (xs := xs) (by simpa using h)
    by_cases e : k' = k
    · rw [List.map_cons, putQ_pos e, putQ_pos e]; exact ⟨rfl, rfl⟩
    · rw [List.map_cons, putQ_neg e, putQ_neg e, h1, h2]; exact ⟨rfl, rfl⟩
theorem putQ_len {k : κ} {v : α} : ∀ {ks : List κ} {xs : List α}, ks.length = xs.length → (putQ ks xs k v).1.length = (putQ ks xs k v).2.length ∧ (putQ ks xs k v).1.length ≤ ks.length + 1
  | [], [], _ => ⟨rfl, Nat.le_refl _⟩
  | k' :: ks, x :: xs, h => by
    obtain ⟨h1, h2⟩ := putQ_len (k := k) (v := v) (ks := ks) (xs := xs) (by simpa using h)
    by_cases e : k' = k
    · rw [putQ_pos e]; exact ⟨by simpa using h, Nat.le_succ _⟩
    · rw [putQ_neg e]; exact ⟨by simpa using h1, by simpa using h2⟩
theorem putQ_key {k k' : κ} {v : α} : ∀ {ks : List κ} {xs : List α}, ks.length = xs.length → k' ∈ (putQ ks xs k v).1 → k' = k ∨ k' ∈ ks
  | [], [], _, h => .inl (by simpa [putQ] using h)
  | q :: ks, x :: xs, hl, h => by
    by_cases e : q = k
    · rw [putQ_pos e] at h; exact .inr h
    · rw [putQ_neg e] at h
      rcases List.mem_cons.mp h with h | h
      · exact .inr (h ▸ List.mem_cons_self)
      · exact (putQ_key (by simpa using hl) h).imp id (List.mem_cons_of_mem _)
theorem putQ_nodup {k : κ} {v : α} : ∀ {ks : List κ} {xs : List α}, ks.length = xs.length → ks.Nodup → (putQ ks xs k v).1.Nodup
  | [], [], _, _ => by simp [putQ]
  | q :: ks, x :: xs, hl, h => by
    obtain ⟨h1, h2⟩ := List.nodup_cons.mp h
    by_cases e : q = k
    · rw [putQ_pos e]; exact h
    · rw [putQ_neg e]
      refine List.nodup_cons.mpr ⟨fun z => ?_, putQ_nodup (by simpa using hl) h2⟩
      rcases putQ_key (by simpa using hl) z with z | z
      · exact e z
      · exact h1 z
theorem putQ_mem {k : κ} {v y : α} : ∀ {ks : List κ} {xs : List α}, y ∈ (putQ ks xs k v).2 → y = v ∨ y ∈ xs
  | k' :: ks, x :: xs, h => by
    by_cases e : k' = k
    · rw [putQ_pos e] at h
      exact (List.mem_cons.mp h).imp id (List.mem_cons_of_mem _)
    · rw [putQ_neg e] at h
      rcases List.mem_cons.mp h with h | h
      · exact .inr (h ▸ List.mem_cons_self)
      · exact (putQ_mem h).imp id (List.mem_cons_of_mem _)
  | [], xs, h => .inl (by cases xs <;> simpa [putQ] using h)
  | _ :: _, [], h => .inl (by simpa [putQ] using h)
theorem map_noop {k : κ} {v : V} : ∀ {kvs : List (κ × V)}, k ∉ kvs.map (·.1) → kvs.map (fun kv => if kv.1 = k then (kv.1, v) else kv) = kvs
  | [], _ => rfl
  | p :: r, h => by
    have e : ¬ p.1 = k := fun e => h (by rw [List.map_cons, e]; exact List.mem_cons_self)
    rw [List.map_cons, if_neg e, map_noop fun z => h (by rw [List.map_cons]; exact List.mem_cons_of_mem _ z)]
theorem putQ_zip {k : κ} {v : V} : ∀ {ks : List κ} {xs : List V}, ks.length = xs.length → ks.Nodup → putK (ks.zip xs) k v = (putQ ks xs k v).1.zip (putQ ks xs k v).2
  | [], [], _, _ => rfl
  | k' :: ks, x :: xs, hl, hn => by
    obtain ⟨h1, h2⟩ := List.nodup_cons.mp hn
    have hl' : ks.length = xs.length := by simpa using hl
    have ih := putQ_zip (k := k) (v := v) hl' h2
    have hz : (ks.zip xs).map (·.1) = ks := by rw [List.map_fst_zip (by omega)]
    show putK ((k', x) :: ks.zip xs) k v = _
    by_cases e : k' = k
    · subst e
      rw [putQ_pos rfl]
      unfold putK
      rw [if_pos (by simp), List.map_cons, if_pos rfl, map_noop (by rw [hz]; exact h1)]
      rfl
    · rw [putQ_neg e]
      show _ = (k', x) :: (putQ ks xs k v).1.zip (putQ ks xs k v).2
      rw [← ih]
      unfold putK
      by_cases q : ((ks.zip xs).any fun kv => decide (kv.1 = k)) = true
      · rw [if_pos (by rw [List.any_cons, q, Bool.or_true]), if_pos q, List.map_cons, if_neg e]
      · rw [if_neg (by rw [List.any_cons, decide_eq_false e, Bool.false_or]; exact q), if_neg q]; rfl
end
/-- a kind of dict in the value layer -/
structure DKd (κ : Type) [DecidableEq κ] extends DKn κ where
  kd : List κ → Kd
  cont_eq : ∀ (ca : Str → Addr) (ks : List κ) (a : AA) (vs : List V), cont ca (kd ks) a vs = ho (ks.zip vs)
  full : ∀ {ca : Str → Addr} {H : Hp} {ks : List κ} {a : AA} {vs : List V}, H a.1 = some (ho (ks.zip vs)) → Full ca H (kd ks) a vs
  shp_of : ∀ {ks : List κ} {n : Nat}, ks.length = n → ks.Nodup → shp (kd ks) n
  nda : ∀ (ks : List κ) (a : AA), ndA (kd ks) a = [a.1]
def vdK : DKd Key := { dkK with kd := .dct, cont_eq := fun _ _ _ _ => rfl, full := fun h => ⟨h, trivial⟩, shp_of := fun h1 h2 => ⟨h1, h2⟩, nda := fun _ _ => rfl }
def vdT : DKd (List Key) := { dkT with kd := .dtt, cont_eq := fun _ _ _ _ => rfl, full := fun h => ⟨h, trivial⟩, shp_of := fun h1 h2 => ⟨h1, h2⟩, nda := fun _ _ => rfl }
section
variable {κ : Type} [DecidableEq κ]
def dcL (g : Gv) (t : Ev) (kf : Env → Option κ) (f : Ev) (ρw : Env) : List D → List κ → List D → Option (List κ × List D)
  | [], ks, xs => some (ks, xs)
  | d :: ds, ks, xs => match g d ρw with
    | none => none
    | some ρ1 => match t ρ1 with
      | .ok (.bl true) _ => match kf ρ1 with
        | some k => match f ρ1 with
          | .ok y _ => if y.cold = true then dcL g t kf f ρw ds (putQ ks xs k y).1 (putQ ks xs k y).2 else none
          | _ => none
        | none => none
      | .ok (.bl false) _ => dcL g t kf f ρw ds ks xs
      | _ => none
def E.dc (m : DKd κ) (fi : Iv) (vs : List Nat) (g : Gv) (t : Ev) (kf : Env → Option κ) (f : Ev) : Ev := fun ρ => (fi ρ).bind fun ds ρ1 => if ds.length ≤ sizeLine then match dcL g t kf f (wipeL ρ1 vs) ds [] [] with
    | some p => .ok (.nd (m.kd p.1) .o () p.2) ρ1
    | none => .bad
  else .bad
/-- the key expression is worth kf: nothing settled, nothing changed but new objects -/
def kT (X : Ctx) (m : DKd κ) (kf : Env → Option κ) : TE := fun σ H Q => ∃ F r ρ k, Stt X F H r σ ∧ erR r = ρ ∧ kf ρ = some k ∧ ∀ F' H' y, Grow F H r F' H' r → Stt X F' H' r σ → m.key H' y k → (∀ H2 : Hp, (∀ a u, H' a = some u → H2 a = some u) → m.key H2 y k) → Q y H'
variable {X : Ctx} {W : WX} {F F1 F3 F6 H H1 H3 H6 : Hp} {r r1 r4 : AR} {σ σ4 : St} {ρ : Env} {D : Addr} {ks : List κ} {xs : List A}
structure AccD (m : DKd κ) (X : Ctx) (F1 H1 : Hp) (r1 : AR) (σ : St) (D : Addr) (F H : Hp) (ks : List κ) (xs : List A) : Prop where
  stt : Stt X F H r1 σ
  gr : Grow F1 H1 r1 F H r1
  at_ : H D = some (m.ho (ks.zip (xs.map val)))
  fd : F D = none
  ok : OkL X F H xs
  cold : allL isC xs = true
  len : ks.length = xs.length
  nd : ks.Nodup
theorem AccD.step {m : DKd κ} (a : AccD m X F1 H1 r1 σ D F3 H3 ks xs) (s1 : Stt X F1 H1 r1 σ) (hD : H1 D = none) (hr : ∀ a ∈ adrR .o r4, a ∈ adrR .o r1) (s4 : Stt X F3 H3 r4 σ4) (g : Grow F3 H3 r4 F6 H6 r4) (s6 : Stt X F6 H6 r4 σ4) : AccD m X F1 H1 r1 σ D F6 H6 ks xs := by
  obtain ⟨h1, h2⟩ := Stt.beside s1 a.gr a.stt hr g s6
  have nr : ∀ q, H1 q = none → q ∉ adrR .o r4 := fun q h h' => (s1.own_there (hr q h')).1 h
  refine ⟨h1, h2, g.same _ _ a.at_, ?_, OkL_iff.mpr fun y hy => cold_stay (OkL_iff.mp a.ok y hy) (by have := a.cold; rw [allL_eq, List.all_eq_true] at this; exact this y hy) g.fs, a.cold, a.len, a.nd⟩
  cases e : F6 D with
  | none => rfl
  | some u =>
    rcases g.fr D a.fd (by rw [e]; exact fun z => by cases z) with q | q
    · rw [a.at_] at q; cases q
    · exact absurd q (nr D hD)
theorem AccD.put {m : DKd κ} {y : A} {k : κ} (a : AccD m X F1 H1 r1 σ D F3 H3 ks xs) (s1 : Stt X F1 H1 r1 σ) (hD : H1 D = none) (ok : Ok X F3 H3 y) (cy : y.cold = true) : AccD m X F1 H1 r1 σ D F3 (upd H3 D (m.ho (putK (ks.zip (xs.map val)) k (val y)))) (putQ ks xs k y).1 (putQ ks xs k y).2 := by
  have nD : ∀ q, H1 q ≠ none → q ≠ D := fun q h e => h (by rw [e]; exact hD)
  generalize eu : m.ho (putK (ks.zip (xs.map val)) k (val y)) = u
  have sub : Sub F3 (upd H3 D u) := fun q w h => by
    rw [upd_ne (fun e => by rw [e, a.fd] at h; cases h)]; exact a.stt.sub q w h
  have mp := putQ_map val k y a.len
  have lv : ks.length = (xs.map val).length := by rw [List.length_map]; exact a.len
  refine ⟨a.stt.keep (fun _ _ h => h) (fun q hq => ⟨upd_ne (nD q (s1.own_there hq).1), (a.stt.own_there hq).2⟩) (fun b hb w hw => by rw [upd_ne (nD b (s1.bor_there hb))]; exact hw) sub,
    ⟨fun q w h => by rw [upd_ne (nD q (by rw [h]; exact fun z => by cases z))]; exact a.gr.same q w h, a.gr.fs, a.gr.fr, fun _ h => h, fun _ => Iff.rfl, rfl⟩, ?_, a.fd, OkL_iff.mpr fun z hz => ?_, ?_, (putQ_len a.len).1, putQ_nodup a.len a.nd⟩
  · rw [upd_same, ← eu, putQ_zip lv a.nd, mp.1, mp.2]
  · rcases putQ_mem hz with rfl | hz
    · exact cold_stay ok cy fun _ _ h => h
    · exact cold_stay (OkL_iff.mp a.ok z hz) (by have := a.cold; rw [allL_eq, List.all_eq_true] at this; exact this z hz) fun _ _ h => h
  · rw [allL_eq, List.all_eq_true]
    intro z hz
    rcases putQ_mem hz with rfl | hz
    · exact cy
    · have := a.cold; rw [allL_eq, List.all_eq_true] at this; exact this z hz
theorem dc_main {m : DKd κ} {fi : Iv} {vs ss : List Nat} {g : Gv} {t f : Ev} {kf : Env → Option κ} {Q : VK} (hfx : ∀ p ∈ X.fix, p.1 ∉ vs) (hss : ∀ j ∈ ss, j ∈ vs) (ht : PureE t) (hf : PureE f) (s : Stt X F H r σ) (e : erR r = ρ) (p : PostE X W σ F H r (E.dc m fi vs g t kf f ρ) Q) :
    tDcG m.toDKn (rdI X W fi ρ) (gT X ss g) (tT X t) (kT X m kf) (eT X f) vs σ H Q := by
  unfold E.dc at p
  refine ⟨F, r, s, e, ?_⟩
  cases hi : fi ρ with
  | bad => rw [hi] at p; exact p
  | exc c fs ρ1 => rw [hi] at p; exact p
  | ok ds ρ1 =>
    rw [hi, R.ok_bind] at p
    intro F1 H1 r1 J g1 s1 e1 it D hD
    split at p
    · rename_i hlen
      cases hlc : dcL g t kf f (wipeL ρ1 vs) ds [] [] with
      | none => rw [hlc] at p; exact p.elim
      | some fin =>
        rw [hlc] at p
        have fD : F1 D = none := s1.sub.free hD
        have start : AccD m X F1 H1 r1 σ D F1 (upd H1 D (m.ho [])) [] [] := by
          have up := same_new (u := m.ho []) hD
          exact ⟨s1.grow0 up (fun _ _ h => h) (fun _ h h' => absurd h h') fun q u h => (s1.sub q u h).imp (up q u) fun ⟨o, k, z1, z2⟩ => ⟨o, k, z1, up q _ z2⟩, ⟨up, fun _ _ h => h, fun _ h h' => absurd h h', fun _ h => h, fun _ => Iff.rfl, rfl⟩, upd_same, fD, trivial, rfl, rfl, List.nodup_nil⟩
        refine ⟨fun i n H2 => n = ds.length - i ∧ i ≤ ds.length ∧ ∃ F2 ks xs, AccD m X F1 H1 r1 σ D F2 H2 ks xs ∧ ks.length ≤ i ∧ dcL g t kf f (wipeL ρ1 vs) (ds.drop i) ks (xs.map er) = some fin, ⟨ds.length, by simp, Nat.zero_le _, F1, [], [], start, Nat.le_refl _, by rw [List.drop_zero]; exact hlc⟩, ?_⟩
        rintro i n H2 ⟨rfl, hi2, F2, ks, xs, acc, hkl, hrest⟩
        obtain ⟨w1, w2⟩ := it i F2 H2 r1 σ ⟨acc.gr.fs, fun b _ u hu => acc.gr.same b u hu⟩ acc.stt
        by_cases hlt : i < ds.length
        · have hd : ds[i]? = some ds[i] := List.getElem?_eq_getElem hlt
          obtain ⟨go, yl⟩ := w1 _ hd
          rw [List.drop_eq_getElem_cons hlt] at hrest
          refine .inr ⟨go, fun H' => i + 1 ≤ ds.length ∧ ∃ F2 ks xs, AccD m X F1 H1 r1 σ D F2 H' ks xs ∧ ks.length ≤ i + 1 ∧ dcL g t kf f (wipeL ρ1 vs) (ds.drop (i + 1)) ks (xs.map er) = some fin, fun H' hN => ⟨ds.length - (i + 1), by omega, rfl, hN.1, hN.2⟩, fun x H3 y => ?_⟩
          obtain ⟨F3, z, g3, s3, okz, ez, evz, cz⟩ := yl x H3 y
          have acc3 := acc.step s1 hD (fun _ h => h) acc.stt g3 s3
          unfold dcL at hrest
          cases hg : g ds[i] (wipeL ρ1 vs) with
          | none => rw [hg] at hrest; cases hrest
          | some ρ2 =>
            rw [hg] at hrest
            dsimp only at hrest
            have sw := s3.wipe hfx
            have ew : erR (wipeL r1 vs) = wipeL ρ1 vs := by rw [← e1]; exact wipeL_map er r1 vs
            rw [wipe_eq]
            refine ⟨ds[i], wipeL ρ1 vs, ρ2, hg, F3, wipeL r1 vs, z, sw, ew, evz, ez, okz, by rw [cold_own cz]; exact List.nodup_nil, by rw [cold_own cz]; exact fun _ h => (by cases h), by rw [cold_own cz]; exact fun _ h => (by cases h), by rw [cold_bor cz]; exact fun _ h => (by cases h), fun r4 σ4 s4 e4 ow4 bo4 on4 => ⟨by rw [wipe_eq]; exact wipe_only on4 hss, ρ2, ?_⟩⟩
            have hr : ∀ a ∈ adrR .o r4, a ∈ adrR .o r1 := fun a ha => (ow4 a ha).elim (adr_wipe a) fun h => by rw [cold_own cz] at h; cases h
            cases htt : t ρ2 with
            | bad => rw [htt] at hrest; cases hrest
            | exc c fs ρ3 => rw [htt] at hrest; cases hrest
            | ok b ρ3 =>
              have eb := ht _ _ _ htt
              subst eb
              rw [htt] at hrest
              cases b with
              | bl b =>
                refine test_step htt F3 r4 s4 e4 fun F5 H5 r5 g5 s5 e5 => ?_
                have er5 : r5 = r4 := same_env (by rw [e5, e4]) g5.un
                subst er5
                have acc5 := acc3.step s1 hD hr s4 g5 s5
                cases b with
                | false =>
                  rw [if_neg (by decide)]
                  exact ⟨hlt, F5, ks, xs, acc5, by omega, hrest⟩
                | true =>
                  rw [if_pos rfl]
                  dsimp only at hrest
                  cases hkf : kf ρ3 with
                  | none => rw [hkf] at hrest; cases hrest
                  | some key =>
                    rw [hkf] at hrest
                    dsimp only at hrest
                    cases hff : f ρ3 with
                    | bad => rw [hff] at hrest; cases hrest
                    | exc c fs ρ4 => rw [hff] at hrest; cases hrest
                    | ok yd ρ4 =>
                      have eb := hf _ _ _ hff
                      subst eb
                      rw [hff] at hrest
                      dsimp only at hrest
                      split at hrest
                      · rename_i hnb
                        refine ⟨F5, r5, ρ4, key, s5, e5, hkf, fun F6 H6 yv g6 s6 _ hky => ?_⟩
                        have acc6 := acc5.step s1 hD hr s5 g6 s6
                        refine ⟨ρ4, F6, r5, s6, e5, ?_⟩
                        rw [hff]
                        intro F7 H7 r7 w g7 s7 e7 ok7 ex7 v7
                        have er7 : r7 = r5 := same_env (by rw [e7, e5]) g7.un
                        subst er7
                        have acc7 := acc6.step s1 hD hr s6 g7 s7
                        have cw : w.cold = true := by rw [← hnb, ← ex7]; exact (T.all_map _ _ w).symm
                        have pl := putQ_len (k := key) (v := w) acc7.len
                        refine ⟨ks.zip (xs.map val), key, hky H7 g7.same, acc7.at_, by rw [List.length_zip]; omega, hlt, F7, _, _, acc7.put s1 hD ok7 cw, by omega, ?_⟩
                        have mp := putQ_map er key w acc7.len
                        rw [ex7] at mp
                        rw [← mp.1, ← mp.2]
                        exact hrest
                      · cases hrest
              | _ => cases hrest
        · have e5 : i = ds.length := by omega
          subst e5
          rw [List.drop_length] at hrest
          have hrest : (ks, xs.map er) = fin := Option.some.inj hrest
          subst hrest
          refine .inl ⟨w2 (Nat.le_refl _), ?_⟩
          have oy : own (T.nd (m.kd ks) .o (D, D) xs) = [D] := by
            show (if Mk.o = .o then ndA (m.kd ks) (D, D) else []) ++ adrL .o xs = [D]
            rw [if_pos rfl, m.nda, adrL_nil (p := isC) rfl acc.cold]; rfl
          have nb := allC_notB acc.cold
          refine p F2 H2 r1 (.nd (m.kd ks) .o (D, D) xs) (g1.trans s1 acc.gr) acc.stt e1 ⟨⟨m.shp_of acc.len acc.nd, m.full acc.at_, fun q hq => ?_, nb⟩, acc.ok⟩ ?_ ⟨?_, fun q hq => ?_, fun b hb => ?_⟩
          · rw [m.nda] at hq
            rw [List.mem_singleton.mp hq]; exact acc.fd
          · show T.nd (m.kd ks) .o () (mapL (fun _ => ()) xs) = _
            rw [mapL_eq]
          · rw [oy]; simp
          · rw [oy] at hq
            rw [List.mem_singleton.mp hq]
            cases e : H D with
            | none => rfl
            | some u => rw [g1.same D u e] at hD; cases hD
          · have q0 : bor (T.nd (m.kd ks) .o (D, D) xs) = [] := nob_bor (by rw [T.nob, T.all, Bool.and_eq_true]; exact ⟨rfl, nb⟩)
            rw [q0] at hb; cases hb
    · exact p.elim
end
/-- the key is the display of fa's values -/
def kfT (fa : Env → R (List D)) : Env → Option (List Key) := fun ρ => match fa ρ with
  | .ok ds _ => if ds.length ≤ sizeLine then keysL ds else none
  | _ => none
def kfK (f : Ev) : Env → Option Key := fun ρ => match f ρ with
  | .ok d _ => d.key
  | _ => none
section
variable {ca : Ca} {C : Cx} {W : WX} {e : Expr} {es : List Expr} {fa : Env → R (List D)} {f : Ev}
/-- what the key is worth -/
structure CK {κ : Type} [DecidableEq κ] (m : DKd κ) (ca : Ca) (C : Cx) (e : Expr) (kf : Env → Option κ) : Prop where
  run : PE C e (kT (cx ca C) m kf)
theorem ck_tup {x1} {pos : Pos} (hp : PureA fa) (h : CA ca C W0 es fa) : CK vdT ca C (.Tuple es x1 pos) (kfT fa) := ⟨⟨fun pins s σ H Q I ⟨F, r, ρ, k, st, e, hk, q⟩ => by
  unfold kfT at hk
  cases hf : fa ρ with
  | bad => rw [hf] at hk; cases hk
  | exc c fs ρ1 => rw [hf] at hk; cases hk
  | ok ds ρ1 =>
    rw [hf] at hk
    dsimp only at hk
    split at hk
    · rename_i hl
      have eb := hp _ _ _ hf
      subst eb
      refine (pe_tup (h.run ρ1)).run pins s σ H Q I ⟨F, r, st, e, ?_⟩
      rw [hf]
      intro F' H' r' xs g s' e' ok ex nd new bo
      have er5 : r' = r := same_env (by rw [e', e]) g.un
      subst er5
      have hv : xs.map val = k.map kV := keysL_val (by rw [← hk, ← ex, mapL_eq])
      refine ⟨by rw [List.length_map, ← List.length_map (f := er), ex]; exact hl, fun p hp => ?_⟩
      rw [hv]
      have sm := same_new (u := HO.tup (k.map kV)) hp
      refine q F' _ (.ref p) ⟨fun a u h => sm a u (g.same a u h), g.fs, g.fr, g.ow, g.bo, g.un⟩ (s'.grow0 sm (fun _ _ h => h) (fun _ h h' => absurd h h') (s'.sub.upd hp)) ⟨p, rfl, upd_same⟩ fun H2 h2 => ⟨p, rfl, h2 p _ upd_same⟩
    · cases hk⟩⟩
theorem ck_plain (hp : PureE f) (h : CE ca C W0 e f) : CK vdK ca C e (kfK f) := ⟨⟨fun pins s σ H Q I ⟨F, r, ρ, k, st, e, hk, q⟩ => by
  unfold kfK at hk
  cases hf : f ρ with
  | bad => rw [hf] at hk; cases hk
  | exc c fs ρ1 => rw [hf] at hk; cases hk
  | ok d ρ1 =>
    rw [hf] at hk
    dsimp only at hk
    have eb := hp _ _ _ hf
    subst eb
    refine (h.run ρ1).run pins s σ H Q I ⟨F, r, st, e, ?_⟩
    rw [hf]
    intro F' H' r' x g s' e' ok ex v
    have er5 : r' = r := same_env (by rw [e', e]) g.un
    subst er5
    have hv : val x = kV k := key_val (by rw [ex]; exact hk)
    exact q F' H' (val x) g s' hv fun _ _ => hv⟩⟩
variable {κ : Type} [DecidableEq κ] {m : DKd κ} {kx vx tg iter : Expr} {ifs : List Expr} {scope : Scope} {own : List (Str × Nat)} {pos : Pos} {fi : Iv} {g : Gv} {t : Ev} {kf : Env → Option κ} {ss vs : List Nat}
theorem ce_dc {k : Nat} (hr : Room k C.A) (hvs : vs = own.map (·.2)) (hfx : ∀ p ∈ ca.fix, p.1 ∉ vs) (hss : ∀ j ∈ ss, j ∈ vs) (hc : C.calm = true) (hN : C.N.Nodup) (hi : CI ca C W tg iter fi) (ok : BlkOk C.N C.env.scope scope own) (hf : PureE f) (ht : PureE t)
    (hg : ∀ (s : Shared) (H : Hp) (B : Addr) (cl : List (Str × Addr)) (fp : List Addr), CG ca (C.blk s H scope (compEnvC scope cl B C.env) fp) tg ss g)
    (hts : ∀ (s : Shared) (H : Hp) (B : Addr) (cl : List (Str × Addr)) (fp : List Addr), CTs ca (C.blk s H scope (compEnvC scope cl B C.env) fp) ifs t)
    (hk : ∀ (s : Shared) (H : Hp) (B : Addr) (cl : List (Str × Addr)) (fp : List Addr), CK m ca (C.blk s H scope (compEnvC scope cl B C.env) fp) kx kf)
    (he : ∀ (s : Shared) (H : Hp) (B : Addr) (cl : List (Str × Addr)) (fp : List Addr), CE ca (C.blk s H scope (compEnvC scope cl B C.env) fp) W0 vx f)
    (hs : ∀ x, foldedSetIterable iter C.env x = pure x := by intro _; rfl) : CE ca C W (.DictComp kx vx [⟨tg, iter, ifs, 0⟩] scope pos) (E.dc m fi vs g t kf f) := ⟨fun ρ => by
  subst hvs
  refine PE.mono (pe_dcg m.toDKn (g := gT (cx ca C) ss g) (tt := tT (cx ca C) t) (tk := kT (cx ca C) m kf) (tv := eT (cx ca C) f) (by have := hr.un; omega) hc hN (hi.run ρ) ok (fun s H B cl fp => ⟨fun pins s σ H v u Q I r ⟨d, ρ, ρ', hgd, q⟩ => ((hg _ _ B cl fp).run d ρ ρ' hgd).run pins s σ H v u Q I r q⟩) (fun s H B cl fp => (hts s H B cl fp).run)
    (fun s H B cl fp => (hk _ _ B cl fp).run) (fun s H B cl fp => ⟨fun pins s σ H Q I ⟨ρ, q⟩ => ((he _ _ B cl fp).run ρ).run pins s σ H Q I q⟩) hs) fun σ H Q ⟨F, r, s, e, p⟩ => dc_main hfx hss ht hf s e p⟩
end
end Vl
/-! The value layer, 41: the same as rules for simp; data that is settled, by functions. -/
namespace Vl
open PySem PySem.Spec PyProof.Rows L2

/-- what f gives is settled -/
class Cold {α : Type} (f : α → D) : Prop where
  h : ∀ a, T.all isC (f a) = true
instance : Cold T.int := ⟨fun _ => rfl⟩
instance : Cold T.str := ⟨fun _ => rfl⟩
instance : Cold T.bl := ⟨fun _ => rfl⟩
instance {α β : Type} {f : β → D} {g : α → β} [Cold f] : Cold (f ∘ g) := ⟨fun a => Cold.h (f := f) (g a)⟩
section
variable {α : Type} {f : α → D} {l : List α} {a : α} {p : Mk → Bool} {g : Mk → Mk}
theorem all_of_cold {p : Mk → Bool} (hp : p .c = true) {d : D} (h : T.all isC d = true) : T.all p d = true := T.all_imp (fun m hm => by cases m <;> first | exact hp | exact absurd hm Bool.false_ne_true) h
@[simp] theorem coldL [Cold f] : allL isC (List.map f l) = true := by
  rw [allL_eq, List.all_eq_true]
  intro x hx
  obtain ⟨a, _, rfl⟩ := List.mem_map.mp hx
  exact Cold.h a
@[simp] theorem nobL [Cold f] : allL notB (List.map f l) = true := allC_notB coldL
@[simp] theorem lendL [Cold f] : mkL lend (List.map f l) = List.map f l := mkL_cold rfl coldL
@[simp] theorem calmL [Cold f] : mkL calm (List.map f l) = List.map f l := mkL_cold rfl coldL
theorem lend_cold {xs : List D} (h : allL isC xs = true) : mkL lend xs = xs := mkL_cold rfl h
theorem calm_cold {xs : List D} (h : allL isC xs = true) : mkL calm xs = xs := mkL_cold rfl h
theorem vw_cold {d : D} (h : T.all isC d = true) : T.mk lend d = d := T.mk_cold rfl h
theorem fz_cold' {d : D} (h : T.all isC d = true) : T.mk calm d = d := T.mk_cold rfl h
instance [Cold f] : Cold (fun x : List α => T.nd .tup .c () (List.map f x)) := ⟨fun x => by show (isC .c && allL isC (List.map f x)) = true; rw [coldL]; rfl⟩
instance [Cold f] : Cold (fun x : List α => T.nd .lst .c () (List.map f x)) := ⟨fun x => by show (isC .c && allL isC (List.map f x)) = true; rw [coldL]; rfl⟩
/-- a pair of texts -/
def pS (q : Str × Str) : D := .nd .tup .c () [.str q.1, .str q.2]
instance : Cold pS := ⟨fun _ => rfl⟩
@[simp] theorem all_pS {q : Str × Str} : T.all isC (pS q) = true := rfl
@[simp] theorem nob_pS {q : Str × Str} : T.all notB (pS q) = true := rfl
@[simp] theorem vw_pS {q : Str × Str} : T.mk lend (pS q) = pS q := rfl
@[simp] theorem fz_pS {q : Str × Str} : T.mk calm (pS q) = pS q := rfl
/- trees -/
@[simp] theorem a_non : T.all p (.non : D) = true := rfl
@[simp] theorem a_bl {b : Bool} : T.all p (.bl b : D) = true := rfl
@[simp] theorem a_int {i : Int} : T.all p (.int i : D) = true := rfl
@[simp] theorem a_str {x : Str} : T.all p (.str x : D) = true := rfl
@[simp] theorem a_nd {k : Kd} {m : Mk} {u : Unit} {xs : List D} : T.all p (.nd k m u xs) = (p m && allL p xs) := rfl
@[simp] theorem al_nil : allL p ([] : List D) = true := rfl
@[simp] theorem al_cons {x : D} {xs : List D} : allL p (x :: xs) = (T.all p x && allL p xs) := rfl
@[simp] theorem al_app {xs ys : List D} : allL p (xs ++ ys) = (allL p xs && allL p ys) := allL_append p xs ys
@[simp] theorem m_non : T.mk g (.non : D) = .non := rfl
@[simp] theorem m_bl {b : Bool} : T.mk g (.bl b : D) = .bl b := rfl
@[simp] theorem m_int {i : Int} : T.mk g (.int i : D) = .int i := rfl
@[simp] theorem m_str {x : Str} : T.mk g (.str x : D) = .str x := rfl
@[simp] theorem m_nd {k : Kd} {m : Mk} {u : Unit} {xs : List D} : T.mk g (.nd k m u xs) = .nd k (g m) u (mkL g xs) := rfl
@[simp] theorem ml_nil : mkL g ([] : List D) = [] := rfl
@[simp] theorem ml_cons {x : D} {xs : List D} : mkL g (x :: xs) = T.mk g x :: mkL g xs := rfl
@[simp] theorem ml_app {xs ys : List D} : mkL g (xs ++ ys) = mkL g xs ++ mkL g ys := by rw [mkL_eq, mkL_eq, mkL_eq, List.map_append]
@[simp] theorem ml_len {xs : List D} : (mkL g xs).length = xs.length := by rw [mkL_eq, List.length_map]
@[simp] theorem isC_c : isC .c = true := rfl
@[simp] theorem isC_o : isC .o = false := rfl
@[simp] theorem isC_b : isC .b = false := rfl
@[simp] theorem notB_c : notB .c = true := rfl
@[simp] theorem notB_o : notB .o = true := rfl
@[simp] theorem notB_b : notB .b = false := rfl
@[simp] theorem lend_c : lend .c = .c := rfl
@[simp] theorem lend_o : lend .o = .b := rfl
@[simp] theorem lend_b : lend .b = .b := rfl
@[simp] theorem calm_e {m : Mk} : calm m = .c := rfl
end
section
variable {ρ : Vl.Env} {f g h : Ev} {fa : Vl.Env → R (List D)} {u v : Sv} {i j : Nat} {d e : D} {ds : List D} {b : Bool} {k : D → D → Option D} {k1 : D → Option D} {kn : List D → Option D} {c : Fc} {dd : List A} {gv : Gv} {fi : Iv} {gk : List D → D → Option (List D)} {n : Str} {fs : List (Str × D)} {vs : List Nat} {t : Ev} {lo hi : Eo}
@[simp] theorem e_c : E.c d ρ = .ok d ρ := rfl
@[simp] theorem e_at : E.at (P.var i) ρ = (match ρ[i]? with | some (some d) => .ok (T.mk lend d) ρ | _ => .bad) := x_at
@[simp] theorem e_tk : E.tk (P.var i) ρ = (match ρ[i]? with | some (some d) => if T.all isC d = true then .ok d ρ else if T.all notB d = true then .ok (T.mk calm d) (ρ.set i (some (T.mk calm d))) else .bad | _ => .bad) := by
  rw [x_tk]
  cases h : ρ[i]? with
  | none => rfl
  | some o =>
    cases o with
    | none => rfl
    | some d =>
      dsimp only
      rw [show modS T.fz ρ i [] = ρ.set i (some (T.mk calm d)) from by unfold modS; rw [h]; unfold T.mod; rfl]
@[simp] theorem e_bin : E.bin k f g ρ = K.bin1 k g (f ρ) := rfl
@[simp] theorem q_bin1 : K.bin1 k g (.ok d ρ) = K.bin2 k d (g ρ) := rfl
@[simp] theorem q_bin2 : K.bin2 k d (.ok e ρ) = R.of (k d e) ρ := rfl
@[simp] theorem e_un : E.un k1 f ρ = K.un k1 (f ρ) := rfl
@[simp] theorem q_un : K.un k1 (.ok d ρ) = R.of (k1 d) ρ := rfl
@[simp] theorem e_args : E.args kn fa ρ = K.args kn (fa ρ) := rfl
@[simp] theorem q_args : K.args kn (.ok ds ρ) = R.of (kn ds) ρ := rfl
@[simp] theorem e_nil : E.nil ρ = .ok [] ρ := rfl
@[simp] theorem e_anil : A.nil ρ = .ok [] ρ := rfl
@[simp] theorem e_cons : E.cons f fa ρ = K.cons1 fa (f ρ) := rfl
@[simp] theorem q_cons1 : K.cons1 fa (.ok d ρ) = K.cons2 d (fa ρ) := rfl
@[simp] theorem q_cons2 : K.cons2 d (.ok ds ρ) = .ok (d :: ds) ρ := rfl
@[simp] theorem e_and : E.and f g ρ = K.and g (f ρ) := rfl
@[simp] theorem q_and1 : K.and g (.ok (.bl true) ρ) = g ρ := rfl
@[simp] theorem q_and0 : K.and g (.ok (.bl false) ρ) = .ok (.bl false) ρ := rfl
@[simp] theorem e_or : E.or f g ρ = K.or g (f ρ) := rfl
@[simp] theorem q_or1 : K.or g (.ok (.bl true) ρ) = .ok (.bl true) ρ := rfl
@[simp] theorem q_or0 : K.or g (.ok (.bl false) ρ) = g ρ := rfl
@[simp] theorem e_ite : E.ite f g h ρ = K.ite g h (f ρ) := rfl
@[simp] theorem q_ite1 : K.ite g h (.ok (.bl true) ρ) = g ρ := rfl
@[simp] theorem q_ite0 : K.ite g h (.ok (.bl false) ρ) = h ρ := rfl
@[simp] theorem e_call : E.call c dd fa ρ = K.call c dd (fa ρ) := rfl
@[simp] theorem q_call : K.call c dd (.ok ds ρ) = if ds.length + dd.length = c.np then (c.fn (ds ++ dd.map er)).toR ρ else .bad := rfl
@[simp] theorem q_toR {os : List D} : (Out.ok d os).toR ρ = .ok d ρ := rfl
@[simp] theorem e_seq : S.seq u v ρ = K.seq v (u ρ) := rfl
@[simp] theorem e_snil : S.nil ρ = .nx ρ := rfl
@[simp] theorem e_ret : S.ret f ρ = K.ret (f ρ) := rfl
@[simp] theorem q_ret : K.ret (.ok d ρ) = if T.all notB d = true then .ret d ρ else .bad := rfl
@[simp] theorem e_sif : S.ite f u v ρ = K.sif u v (f ρ) := rfl
@[simp] theorem q_sif1 : K.sif u v (.ok (.bl true) ρ) = u ρ := rfl
@[simp] theorem q_sif0 : K.sif u v (.ok (.bl false) ρ) = v ρ := rfl
@[simp] theorem e_asg : S.asg f gv ρ = K.asg gv (f ρ) := rfl
@[simp] theorem q_asg : K.asg gv (.ok d ρ) = if T.all notB d = true then match gv d ρ with | some ρ2 => .nx ρ2 | none => .bad else .bad := rfl
@[simp] theorem e_name : G.name i d ρ = if i < ρ.length then some (ρ.set i (some d)) else none := rfl
@[simp] theorem e_for : S.for_ fi gv u ρ = K.for_ gv u (fi ρ) := rfl
@[simp] theorem q_for : K.for_ gv u (.ok ds ρ) = forL gv u ds ρ := rfl
@[simp] theorem w_nx : K.seq u (.nx ρ) = u ρ := rfl
@[simp] theorem w_ret : K.seq u (.ret d ρ) = .ret d ρ := rfl
@[simp] theorem w_exc : K.seq u (.exc n fs ρ) = .exc n fs ρ := rfl
@[simp] theorem w_bk : K.seq u (.bk ρ) = .bk ρ := rfl
@[simp] theorem w_ct : K.seq u (.ct ρ) = .ct ρ := rfl
@[simp] theorem z_some {β : Type} (v : β) : R.of (some v) ρ = .ok v ρ := rfl
@[simp] theorem z_bind {β γ : Type} (v : β) (k : β → Vl.Env → R γ) : (R.ok v ρ).bind k = k v ρ := rfl
@[simp] theorem z_toS {β : Type} (v : β) (k : β → Vl.Env → SR) : (R.ok v ρ).toS k = k v ρ := rfl
@[simp] theorem e_append : S.append (P.var i) f ρ = (match ρ[i]? with
  | some (some (.nd .lst .o _ _)) => K.lm gAppend i (f ρ)
  | _ => .bad) := x_lm1
@[simp] theorem e_extend : S.extend (P.var i) f ρ = (match ρ[i]? with
  | some (some (.nd .lst .o _ _)) => K.lm gExtend i (f ρ)
  | _ => .bad) := x_lm1
@[simp] theorem q_lm : K.lm gk i (.ok d ρ) = (match ρ[i]? with
  | some (some (.nd .lst .o a xs)) => match gk xs d with
    | some ys => .nx (ρ.set i (some (.nd .lst .o a ys)))
    | none => .bad
  | _ => .bad) := by
  show (match getR ρ i [] with | some (.nd .lst .o _ xs) => (match gk xs d with | some ys => SR.nx (modS (T.kids ys) ρ i []) | none => .bad) | _ => .bad) = _
  unfold getR
  cases h : ρ[i]? with
  | none => rfl
  | some o =>
    cases o with
    | none => rfl
    | some x =>
      simp only [getT]
      split
      · rename_i a0 xs0 h2; cases h2
        dsimp only
        cases hg : gk xs0 d with
        | some ys => dsimp only; unfold modS; rw [h]; dsimp only; unfold T.mod T.kids; rfl
        | none => rfl
      · rename_i h2
        split
        · rename_i h3; cases h3; exact absurd rfl (h2 _ _)
        · rfl
@[simp] theorem e_pop : S.pop (P.var i) ρ = (match ρ[i]? with
  | some (some (.nd .lst .o _ xs)) => if xs ≠ [] then .nx (ρ.set i (some (.nd .lst .o () xs.dropLast))) else .bad
  | _ => .bad) := by
  unfold S.pop P.var getR
  cases h : ρ[i]? with
  | none => rfl
  | some o =>
    cases o with
    | none => rfl
    | some x =>
      simp only [R.ok_toS, h, getT]
      split
      · rename_i a0 xs0 h2; cases h2
        dsimp only
        by_cases h3 : xs0 ≠ []
        · rw [if_pos h3, if_pos h3]; unfold modS; rw [h]; dsimp only; unfold T.mod; rfl
        · rw [if_neg h3, if_neg h3]
      · rename_i h2
        split
        · rename_i h3; cases h3; exact absurd rfl (h2 _ _)
        · rfl
@[simp] theorem e_no : E.no ρ = .ok none ρ := rfl
def K.part (x : R D) : R (Option Int) := x.bind fun d ρ1 => match d with | .int i => .ok (some i) ρ1 | _ => .bad
theorem part_eq : E.part f ρ = K.part (f ρ) := rfl
@[simp] theorem q_part {z : Int} : K.part (.ok (.int z) ρ) = .ok (some z) ρ := rfl
def K.sl1 (lo hi : Eo) (x : R D) : R D := x.bind fun d ρ1 => (lo ρ1).bind fun l ρ2 => (hi ρ2).bind fun h ρ3 => R.of (D.slice d l h) ρ3
def K.sl2 (hi : Eo) (d : D) (x : R (Option Int)) : R D := x.bind fun l ρ2 => (hi ρ2).bind fun h ρ3 => R.of (D.slice d l h) ρ3
def K.sl3 (d : D) (l : Option Int) (x : R (Option Int)) : R D := x.bind fun h ρ3 => R.of (D.slice d l h) ρ3
@[simp] theorem e_sl : E.sl f lo hi ρ = K.sl1 lo hi (f ρ) := rfl
@[simp] theorem q_sl1 : K.sl1 lo hi (.ok d ρ) = K.sl2 hi d (lo ρ) := rfl
@[simp] theorem q_sl2 {l : Option Int} : K.sl2 hi d (.ok l ρ) = K.sl3 d l (hi ρ) := rfl
@[simp] theorem q_sl3 {l h : Option Int} : K.sl3 d l (.ok h ρ) = R.of (D.slice d l h) ρ := rfl
def K.star1 (g : Vl.Env → R (List D)) (x : R D) : R (List D) := x.bind fun d ρ1 => match d with
  | .nd .lst _ _ xs => if allL isC xs = true then (g ρ1).bind fun ds ρ2 => .ok (xs ++ ds) ρ2 else .bad
  | .nd .tup _ _ xs => if allL isC xs = true then (g ρ1).bind fun ds ρ2 => .ok (xs ++ ds) ρ2 else .bad
  | _ => .bad
def K.star2 (xs : List D) (x : R (List D)) : R (List D) := x.bind fun ds ρ2 => .ok (xs ++ ds) ρ2
@[simp] theorem e_star : E.star f fa ρ = K.star1 fa (f ρ) := rfl
@[simp] theorem q_star1 {m : Mk} {w : Unit} {xs : List D} : K.star1 fa (.ok (.nd .tup m w xs) ρ) = if allL isC xs = true then K.star2 xs (fa ρ) else .bad := rfl
@[simp] theorem q_star1l {m : Mk} {w : Unit} {xs : List D} : K.star1 fa (.ok (.nd .lst m w xs) ρ) = if allL isC xs = true then K.star2 xs (fa ρ) else .bad := rfl
@[simp] theorem q_star2 {xs : List D} : K.star2 xs (.ok ds ρ) = .ok (xs ++ ds) ρ := rfl
/- what is walked -/
def K.of (x : R D) : R (List D) := x.bind fun d ρ1 => match D.its d with | some ds => .ok ds ρ1 | none => .bad
@[simp] theorem e_of : I.of f ρ = K.of (f ρ) := rfl
@[simp] theorem q_of : K.of (.ok d ρ) = (match D.its d with | some ds => .ok ds ρ | none => .bad) := rfl
def K.rg1 (x : R (List D)) : R (List D) := x.bind fun ds ρ1 => match ds with | [.int j] => if okRg j = true then .ok (rangeD 0 j.toNat) ρ1 else .bad | _ => .bad
def K.rg2 (x : R (List D)) : R (List D) := x.bind fun ds ρ1 => match ds with | [.int i, .int j] => if okRg i = true ∧ okRg j = true then .ok (rangeD i (j - i).toNat) ρ1 else .bad | _ => .bad
@[simp] theorem e_rg1 : I.range1 fa ρ = K.rg1 (fa ρ) := rfl
@[simp] theorem e_rg2 : I.range2 fa ρ = K.rg2 (fa ρ) := rfl
@[simp] theorem q_rg1 {z : Int} : K.rg1 (.ok [.int z] ρ) = if okRg z = true then .ok (rangeD 0 z.toNat) ρ else .bad := rfl
@[simp] theorem q_rg2 {y z : Int} : K.rg2 (.ok [.int y, .int z] ρ) = if okRg y = true ∧ okRg z = true then .ok (rangeD y (z - y).toNat) ρ else .bad := rfl
@[simp] theorem e_ofp : I.ofp (P.var i) f ρ = (match ρ[i]? with
  | some (some (.nd .lst .b _ xs)) => if allL isC xs = true then .ok xs ρ else .bad
  | _ => I.of f ρ) := by
  unfold I.ofp P.var getR
  cases h : ρ[i]? with
  | none => rfl
  | some o =>
    cases o with
    | none => rfl
    | some x =>
      simp only [h, getT]
      split
      · rename_i h2; cases h2; rfl
      · rename_i h2
        split
        · rename_i h3; cases h3; exact absurd rfl (h2 _ _)
        · rfl
theorem okrg {z : Int} (h0 : -1000 ≤ z) (h1 : z < 1000) : okRg z = true := decide_eq_true ⟨by omega, by omega⟩
/- comprehensions -/
def K.lc (vs : List Nat) (gv : Gv) (t f : Ev) (x : R (List D)) : R D := x.bind fun ds ρ1 => if ds.length ≤ sizeLine then match lcL gv t f (wipeL ρ1 vs) ds with | some ys => .ok (.nd .lst .o () ys) ρ1 | none => .bad else .bad
@[simp] theorem e_lc : E.lc fi vs gv t f ρ = K.lc vs gv t f (fi ρ) := rfl
theorem q_lc {ys : List D} (hl : ds.length ≤ sizeLine) (h : lcL gv t f (wipeL ρ vs) ds = some ys) : K.lc vs gv t f (.ok ds ρ) = .ok (.nd .lst .o () ys) ρ := by
  show (if ds.length ≤ sizeLine then _ else _) = _
  rw [if_pos hl, h]
@[simp] theorem e_wipe0 : wipeL ρ [] = ρ := rfl
@[simp] theorem e_wipe1 : wipeL ρ (j :: vs) = (wipeL ρ vs).set j none := rfl
@[simp] theorem e_yes : E.yes ρ = .ok (.bl true) ρ := rfl
def K.lc2 (vs : List Nat) (gv : Gv) (t : Ev) (i1 : Iv) (vs1 : List Nat) (g1 : Gv) (t1 f : Ev) (x : R (List D)) : R D := x.bind fun ds ρ1 => match lc2L gv t i1 vs1 g1 t1 f (wipeL ρ1 vs) ds with | some ys => if ys.length ≤ sizeLine then .ok (.nd .lst .o () ys) ρ1 else .bad | none => .bad
@[simp] theorem e_lc2 {i1 : Iv} {vs1 : List Nat} {g1 : Gv} {t1 : Ev} : E.lc2 fi vs gv t i1 vs1 g1 t1 f ρ = K.lc2 vs gv t i1 vs1 g1 t1 f (fi ρ) := rfl
theorem q_lc2 {i1 : Iv} {vs1 : List Nat} {g1 : Gv} {t1 : Ev} {ys : List D} (h : lc2L gv t i1 vs1 g1 t1 f (wipeL ρ vs) ds = some ys) (hl : ys.length ≤ sizeLine) : K.lc2 vs gv t i1 vs1 g1 t1 f (.ok ds ρ) = .ok (.nd .lst .o () ys) ρ := by
  show (match lc2L gv t i1 vs1 g1 t1 f (wipeL ρ vs) ds with | some ys => if ys.length ≤ sizeLine then R.ok (T.nd .lst .o () ys : D) ρ else .bad | none => .bad) = _
  rw [h]; exact if_pos hl
/- a call -/
theorem run_ret {m : Nat} {g : Sv} {as : List D} {ρ' : Vl.Env} (h : g (as.map some ++ List.replicate (m - as.length) none) = .ret d ρ') (hd : T.all notB d = true) : runF [] m g as = .ok d [] := by
  unfold runF
  rw [h]
  show fin [] d ρ' = _
  unfold fin pick
  dsimp only
  rw [if_pos ⟨hd, rfl⟩]
theorem isi_eq {T0 : String} : E.isi T0 f ρ = (f ρ).bind fun d ρ1 => match D.tyn d with | some t => .ok (.bl (isTy T0 t)) ρ1 | none => .bad := rfl
end
/- operations on known shapes -/
section
variable {xs ys : List D} {m m2 : Mk} {u u2 : Unit} {i j : Int} {x y : Str} {b b2 : Bool} {d : D}
@[simp] theorem d_add : D.add (.int i) (.int j) = some (.int (i + j)) := rfl
@[simp] theorem d_sub : D.sub (.int i) (.int j) = some (.int (i - j)) := rfl
@[simp] theorem d_neg : D.neg (.int i) = some (.int (-i)) := rfl
theorem d_mod (h : 0 < j) : D.mod (.int i) (.int j) = some (.int (i % j)) := if_pos h
theorem d_addL (h1 : allL isC xs = true) (h2 : allL isC ys = true) (h3 : xs.length + ys.length ≤ sizeLine) : D.add (.nd .lst m u xs) (.nd .lst m2 u2 ys) = some (.nd .lst .o () (xs ++ ys)) := if_pos ⟨h1, h2, h3⟩
theorem d_addS (h : x.length + y.length ≤ sizeLine) : D.add (.str x) (.str y) = some (.str (x ++ y)) := if_pos h
@[simp] theorem d_cmp {p : Int → Int → Bool} : D.cmp p (.int i) (.int j) = some (.bl (p i j)) := rfl
@[simp] theorem d_eqi : D.eq (.int i) (.int j) = some (.bl (decide (i = j))) := rfl
@[simp] theorem d_nei : D.ne (.int i) (.int j) = some (.bl (!decide (i = j))) := rfl
@[simp] theorem d_eqs : D.eq (.str x) (.str y) = some (.bl (decide (x = y))) := rfl
@[simp] theorem d_eqb : D.eq (.bl b) (.bl b2) = some (.bl (decide (b = b2))) := rfl
@[simp] theorem d_idxL : D.idx (.nd .lst m u xs) (.int i) = atI xs i := rfl
@[simp] theorem d_idxT : D.idx (.nd .tup m u xs) (.int i) = atI xs i := rfl
@[simp] theorem d_idxC : D.idx (.nd .scr m u xs) (.int i) = atI xs i := rfl
@[simp] theorem d_lenL : D.len [.nd .lst m u xs] = some (.int xs.length) := rfl
@[simp] theorem d_lenT : D.len [.nd .tup m u xs] = some (.int xs.length) := rfl
@[simp] theorem d_lenC : D.len [.nd .scr m u xs] = some (.int xs.length) := rfl
@[simp] theorem d_int : D.int_ [.int i] = some (.int i) := rfl
@[simp] theorem d_intb : D.int_ [.bl b] = some (.int (if b then 1 else 0)) := rfl
@[simp] theorem d_listL : D.list_ [.nd .lst m u xs] = if allL isC xs = true then some (.nd .lst .o () xs) else none := rfl
@[simp] theorem d_listT : D.list_ [.nd .tup m u xs] = if allL isC xs = true then some (.nd .lst .o () xs) else none := rfl
@[simp] theorem d_tupL : D.tuple_ [.nd .lst m u xs] = if allL isC xs = true then some (.nd .tup .c () xs) else none := rfl
@[simp] theorem d_tupT : D.tuple_ [.nd .tup .c u xs] = some (.nd .tup .c () xs) := rfl
@[simp] theorem d_mkl : D.mkl xs = if allL notB xs = true ∧ xs.length ≤ sizeLine then some (.nd .lst .o () (mkL calm xs)) else none := rfl
@[simp] theorem d_mkt : D.mkt xs = if allL notB xs = true ∧ xs.length ≤ sizeLine then some (.nd .tup .c () (mkL calm xs)) else none := rfl
@[simp] theorem d_sliceL {lo hi : Option Int} : D.slice (.nd .lst m u xs) lo hi = if allL isC xs = true then some (.nd .lst .o () (cutG xs lo hi)) else none := rfl
@[simp] theorem d_lzipL : D.lzip [.nd .lst m u xs, .nd .lst m2 u2 ys] = if allL isC xs = true ∧ allL isC ys = true ∧ xs.length = ys.length then some (.nd .lst .o () (List.zipWith pr2D xs ys)) else none := rfl
@[simp] theorem d_lzipT : D.lzip [.nd .tup m u xs, .nd .tup m2 u2 ys] = if allL isC xs = true ∧ allL isC ys = true ∧ xs.length = ys.length then some (.nd .lst .o () (List.zipWith pr2D xs ys)) else none := rfl
@[simp] theorem d_its_l : D.its (.nd .lst m u xs) = if m ≠ .b ∧ allL isC xs = true then some xs else none := rfl
@[simp] theorem d_its_t : D.its (.nd .tup .c u xs) = some xs := rfl
@[simp] theorem d_not : D.not (.bl b) = some (.bl (!b)) := rfl
@[simp] theorem d_trub : D.tru (.bl b) = some (.bl b) := rfl
@[simp] theorem d_append : gAppend xs d = if T.all notB d = true ∧ xs.length < sizeLine then some (xs ++ [T.mk calm d]) else none := rfl
@[simp] theorem d_extend : gExtend xs (.nd .lst m u ys) = if allL isC ys = true ∧ xs.length + ys.length ≤ sizeLine then some (xs ++ ys) else none := rfl
@[simp] theorem d_isN1 : D.isN .non .non = some (.bl true) := rfl
@[simp] theorem d_isN2 : D.isN (.int i) .non = some (.bl false) := rfl
@[simp] theorem d_isN3 : D.isN (.str x) .non = some (.bl false) := rfl
@[simp] theorem d_isN4 : D.isN (.bl b) .non = some (.bl false) := rfl
@[simp] theorem d_isN5 {k : Kd} : D.isN (.nd k m u xs) .non = some (.bl false) := rfl
@[simp] theorem y_non : D.tyn .non = some "NoneType" := rfl
@[simp] theorem y_bl : D.tyn (.bl b) = some "bool" := rfl
@[simp] theorem y_int : D.tyn (.int i) = some "int" := rfl
@[simp] theorem y_str : D.tyn (.str x) = some "str" := rfl
@[simp] theorem y_lst : D.tyn (.nd .lst m u xs) = some "list" := rfl
@[simp] theorem y_scr : D.tyn (.nd .scr m u xs) = some "list" := rfl
@[simp] theorem y_tup : D.tyn (.nd .tup m u xs) = some "tuple" := rfl
theorem atI_some {α : Type} {zs : List α} {i : Int} {v : α} (h0 : 0 ≤ i) (h : zs[i.toNat]? = some v) : atI zs i = some v := by
  have hl : i.toNat < zs.length := (List.getElem?_eq_some_iff.mp h).1
  unfold atI ixN
  rw [if_pos h0, if_pos (by omega)]; exact h
theorem atI_nat {α : Type} {zs : List α} {k : Nat} {v : α} (h : zs[k]? = some v) : atI zs (k : Int) = some v := atI_some (by omega) (by rw [Int.toNat_natCast]; exact h)
theorem atI_last {α : Type} {zs : List α} {v : α} (h : zs.getLast? = some v) : atI zs (-1) = some v := by
  have hn : zs ≠ [] := fun e => by rw [e] at h; cases h
  have hp : 0 < zs.length := List.length_pos_iff.mpr hn
  unfold atI ixN
  rw [if_neg (by decide), if_pos (by omega)]
  show zs[(-1 + (zs.length : Int)).toNat]? = _
  rw [show (-1 + (zs.length : Int)).toNat = zs.length - 1 by omega, ← List.getLast?_eq_getElem?]; exact h
end
/- comprehensions, by the item -/
theorem lcM {g : Gv} {t f : Ev} {ρw : Vl.Env} {F : D → D} : ∀ {ds : List D}, (∀ d ∈ ds, ∃ ρ1 ρ2 ρ3, g d ρw = some ρ1 ∧ t ρ1 = .ok (.bl true) ρ2 ∧ f ρ1 = .ok (F d) ρ3 ∧ T.all notB (F d) = true) → lcL g t f ρw ds = some (ds.map F)
  | [], _ => rfl
  | d :: ds, h => by
    obtain ⟨ρ1, ρ2, ρ3, h1, h2, h3, h4⟩ := h d List.mem_cons_self
    unfold lcL
    rw [h1]; dsimp only; rw [h2]; dsimp only; rw [h3]; dsimp only
    rw [if_pos h4, lcM fun d hd => h d (List.mem_cons_of_mem _ hd)]; rfl
theorem lcMap {α : Type} {g : Gv} {t f : Ev} {ρw : Vl.Env} {e F : α → D} : ∀ {as : List α}, (∀ a ∈ as, ∃ ρ1 ρ2 ρ3, g (e a) ρw = some ρ1 ∧ t ρ1 = .ok (.bl true) ρ2 ∧ f ρ1 = .ok (F a) ρ3 ∧ T.all notB (F a) = true) → lcL g t f ρw (as.map e) = some (as.map F)
  | [], _ => rfl
  | a :: as, h => by
    obtain ⟨ρ1, ρ2, ρ3, h1, h2, h3, h4⟩ := h a List.mem_cons_self
    rw [List.map_cons]
    unfold lcL
    rw [h1]; dsimp only; rw [h2]; dsimp only; rw [h3]; dsimp only
    rw [if_pos h4, lcMap fun d hd => h d (List.mem_cons_of_mem _ hd)]; rfl
theorem lcFil {α : Type} {g : Gv} {t f : Ev} {ρw : Vl.Env} {e F : α → D} {p : α → Bool} : ∀ {as : List α}, (∀ a ∈ as, ∃ ρ1 ρ2, g (e a) ρw = some ρ1 ∧ t ρ1 = .ok (.bl (p a)) ρ2 ∧ (p a = true → ∃ ρ3, f ρ1 = .ok (F a) ρ3 ∧ T.all notB (F a) = true)) → lcL g t f ρw (as.map e) = some ((as.filter p).map F)
  | [], _ => rfl
  | a :: as, h => by
    obtain ⟨ρ1, ρ2, h1, h2, h3⟩ := h a List.mem_cons_self
    have ih := lcFil fun d hd => h d (List.mem_cons_of_mem _ hd)
    rw [List.map_cons]
    unfold lcL
    rw [h1]; dsimp only; rw [h2]
    cases hp : p a with
    | true =>
      obtain ⟨ρ3, h3, h4⟩ := h3 hp
      dsimp only; rw [h3]; dsimp only
      rw [if_pos h4, ih, List.filter_cons_of_pos hp]; rfl
    | false =>
      dsimp only
      rw [ih, List.filter_cons_of_neg (by rw [hp]; exact Bool.false_ne_true)]
theorem lc2Flat {α : Type} {g : Gv} {t : Ev} {i1 : Iv} {vs1 : List Nat} {g1 : Gv} {t1 f : Ev} {ρw : Vl.Env} {e : α → D} {F : α → List D} : ∀ {as : List α}, (∀ a ∈ as, ∃ ρ1 ρ2 es ρ3, g (e a) ρw = some ρ1 ∧ t ρ1 = .ok (.bl true) ρ2 ∧ i1 ρ1 = .ok es ρ3 ∧ lcL g1 t1 f (wipeL ρ1 vs1) es = some (F a)) → lc2L g t i1 vs1 g1 t1 f ρw (as.map e) = some (as.flatMap F)
  | [], _ => rfl
  | a :: as, h => by
    obtain ⟨ρ1, ρ2, es, ρ3, h1, h2, h3, h4⟩ := h a List.mem_cons_self
    rw [List.map_cons]
    unfold lc2L
    rw [h1]; dsimp only; rw [h2]; dsimp only; rw [h3]; dsimp only; rw [h4]; dsimp only
    rw [lc2Flat fun d hd => h d (List.mem_cons_of_mem _ hd)]; rfl
/- loops -/
theorem forInv {α : Type} {g : Gv} {body : Sv} {e : α → D} (Inv : Nat → Vl.Env → Prop) : ∀ {as : List α} {j : Nat} {ρ : Vl.Env}, Inv j ρ → (∀ i a ρ, as[i]? = some a → Inv (j + i) ρ → ∃ ρ1 ρ2, g (e a) ρ = some ρ1 ∧ (body ρ1 = .nx ρ2 ∨ body ρ1 = .ct ρ2) ∧ Inv (j + i + 1) ρ2) → ∃ ρ', forL g body (as.map e) ρ = .nx ρ' ∧ Inv (j + as.length) ρ'
  | [], j, ρ, h, _ => ⟨ρ, rfl, h⟩
  | a :: as, j, ρ, h, k => by
    obtain ⟨ρ1, ρ2, e1, e2, h2⟩ := k 0 a ρ rfl h
    obtain ⟨ρ', e3, h3⟩ := forInv (e := e) Inv (as := as) (j := j + 1) (ρ := ρ2) h2 fun i d ρ hd hi => by
      have := k (i + 1) d ρ hd (by rw [show j + (i + 1) = j + 1 + i by omega]; exact hi)
      rw [show j + (i + 1) + 1 = j + 1 + i + 1 by omega] at this
      exact this
    refine ⟨ρ', ?_, by rw [List.length_cons, show j + (as.length + 1) = j + 1 + as.length by omega]; exact h3⟩
    rw [List.map_cons]
    unfold forL
    rw [e1]
    dsimp only
    rcases e2 with e2 | e2 <;> (rw [e2]; exact e3)
/-- a loop that looks for the first item that p takes -/
theorem forFind {α : Type} {g : Gv} {body : Sv} {e : α → D} {p : α → Bool} {F : α → D} (Inv : Vl.Env → Prop) : ∀ {as : List α} {ρ : Vl.Env}, Inv ρ → (∀ a ∈ as, ∀ ρ, Inv ρ → ∃ ρ1 ρ2, g (e a) ρ = some ρ1 ∧ (if p a = true then body ρ1 = .ret (F a) ρ2 else (body ρ1 = .nx ρ2 ∧ Inv ρ2))) →
    (∃ a ρ', as.find? p = some a ∧ forL g body (as.map e) ρ = .ret (F a) ρ') ∨ (as.find? p = none ∧ ∃ ρ', forL g body (as.map e) ρ = .nx ρ' ∧ Inv ρ')
  | [], ρ, h, _ => .inr ⟨rfl, ρ, rfl, h⟩
  | a :: as, ρ, h, k => by
    obtain ⟨ρ1, ρ2, e1, e2⟩ := k a List.mem_cons_self ρ h
    rw [List.map_cons]
    unfold forL
    rw [e1]
    dsimp only
    by_cases hp : p a = true
    · rw [if_pos hp] at e2
      exact .inl ⟨a, ρ2, by rw [List.find?_cons_of_pos hp], by rw [e2]⟩
    · rw [if_neg hp] at e2
      rw [e2.1]
      dsimp only
      rw [List.find?_cons_of_neg hp]
      exact forFind Inv e2.2 fun a ha => k a (List.mem_cons_of_mem _ ha)
theorem range0 (n : Nat) : rangeD 0 n = (List.range n).map fun i : Nat => (T.int i : D) := by
  unfold rangeD
  exact List.map_congr_left fun i _ => by rw [Int.zero_add]
/-- the items of a range -/
theorem range_map (lo : Int) (n : Nat) : rangeD lo n = (List.range n).map fun i : Nat => (T.int (lo + i) : D) := rfl
section
variable {α : Type} {xs : List α} {a b : Int}
theorem sIx_pos {n d : Nat} (h : 0 ≤ a) : HT.sIx n d (some a) = min a.toNat n := by
  show (if a < 0 then (a + (n : Int)).toNat else min a.toNat n) = _
  rw [if_neg (by omega)]
theorem cut_to (h : 0 ≤ a) : cutG xs none (some a) = xs.take a.toNat := by
  unfold cutG
  rw [sIx_pos h]
  show (xs.drop 0).take (min a.toNat xs.length - 0) = _
  rw [List.drop_zero, Nat.sub_zero]
  by_cases q : a.toNat ≤ xs.length
  · rw [Nat.min_eq_left q]
  · rw [Nat.min_eq_right (by omega), List.take_length, List.take_of_length_le (by omega)]
theorem cut_from (h : 0 ≤ a) : cutG xs (some a) none = xs.drop a.toNat := by
  unfold cutG
  rw [sIx_pos h]
  show (xs.drop (min a.toNat xs.length)).take (xs.length - min a.toNat xs.length) = _
  rw [List.take_of_length_le (by rw [List.length_drop]; exact Nat.le_refl _)]
  by_cases q : a.toNat ≤ xs.length
  · rw [Nat.min_eq_left q]
  · rw [Nat.min_eq_right (by omega), List.drop_length, List.drop_of_length_le (by omega)]
theorem cut_between (h : 0 ≤ a) (h2 : a ≤ b) : cutG xs (some a) (some b) = (xs.drop a.toNat).take (b.toNat - a.toNat) := by
  unfold cutG
  rw [sIx_pos h, sIx_pos (by omega)]
  by_cases q : a.toNat ≤ xs.length
  · rw [Nat.min_eq_left q]
    by_cases q2 : b.toNat ≤ xs.length
    · rw [Nat.min_eq_left q2]
    · rw [Nat.min_eq_right (by omega), List.take_of_length_le (by rw [List.length_drop]; exact Nat.le_refl _), List.take_of_length_le (by rw [List.length_drop]; omega)]
  · rw [Nat.min_eq_right (show xs.length ≤ a.toNat by omega), List.drop_length, List.drop_of_length_le (by omega)]; simp
theorem cut_last (h : xs ≠ []) : cutG xs none (some (-1)) = xs.dropLast := by
  have hp : 0 < xs.length := List.length_pos_iff.mpr h
  have e : HT.sIx xs.length xs.length (some (-1)) = xs.length - 1 := by
    show (-1 + (xs.length : Int)).toNat = _
    omega
  unfold cutG
  rw [e, show HT.sIx xs.length 0 none = 0 from rfl, List.drop_zero, Nat.sub_zero, List.dropLast_eq_take]
end
end Vl
/-! The value layer, 40: a try with several clauses, each with a name or without one. -/
namespace Vl
open PySem PySem.Spec PyProof.Rows L2

/-- a clause: the class that it names, the slot of its name, what its suite does -/
structure Cls where
  cl : Value
  sl : Option Nat
  act : Addr → Value → Option Addr → TS
/-- the ends of a suite: behind it the slot is empty -/
def endsOf (D : Ends) : Option Nat → Ends
  | none => D
  | some i => { nx := fun σ H => D.nx (σ.set i none) H, rt := D.rt, bk := fun σ H => D.bk (σ.set i none) H, ct := fun σ H => D.ct (σ.set i none) H }
def heldAt (a : Addr) (σ : St) : Option Nat → St
  | none => σ
  | some i => σ.set i (some (.ref a))
def wCls (K : PySem.W.Frag) (Wo : WX) (D : Ends) : List Cls → WX
  | [] => Wo
  | q :: l => fun c d σ H => ∃ b, PySem.W.exmOne K c q.cl = some b ∧ (b = true → ∀ a, H a = none → q.act a c d (endsOf D q.sl) (heldAt a σ q.sl) H) ∧ (b = false → wCls K Wo D l c d σ H)
/-- what a suite must keep -/
def SuiteOk (X : Cx) (bs : List Stmt) (act : Addr → Value → Option Addr → TS) : Prop :=
  ∀ (a : Addr) (o : Obj) (c : Value) (d : Option Addr) (pn : List (Addr × Obj)), Zc c d o → (∃ vs, o.data = .fields vs) → PSs (X.suite a ((a, o) :: pn)) bs (act a c d)
inductive ClsOk (X : Cx) : List ExceptHandler → List Cls → Prop
  | nil : ClsOk X [] []
  | bare {x : Str} {c : Value} {act : Addr → Value → Option Addr → TS} {b : Stmt} {bs : List Stmt} {np p : Pos} {hds : List ExceptHandler} {l : List Cls} (hc : Names X x c) (hb : SuiteOk X (b :: bs) act) (r : ClsOk X hds l) :
      ClsOk X (.ExceptHandler (some (.Name x np)) none (b :: bs) p :: hds) (⟨c, none, act⟩ :: l)
  | named {x n : Str} {i : Nat} {c : Value} {act : Addr → Value → Option Addr → TS} {b : Stmt} {bs : List Stmt} {np p : Pos} {hds : List ExceptHandler} {l : List Cls} (hi : X.N[i]? = some n) (hk : X.env.kindOf n = some .local) (hc : Names X x c) (hb : SuiteOk X (b :: bs) act) (r : ClsOk X hds l) :
      ClsOk X (.ExceptHandler (some (.Name x np)) (some n) (b :: bs) p :: hds) (⟨c, some i, act⟩ :: l)
section
variable {X : Cx} {pins : List (Addr × Obj)} {σ : St} {H : Hp} {s0 s : Shared} {B : Heap} {a : Addr} {c : Value} {d : Option Addr} {D : Ends} {Wo : WX}
/-- an exception that hangs over the frame, seen from the clauses -/
structure Over (X : Cx) (pins : List (Addr × Obj)) (σ : St) (H : Hp) (s0 : Shared) (B : Heap) (a : Addr) (c : Value) (d : Option Addr) (s : Shared) : Prop where
  inv : Inv X pins σ H s0
  low : ∀ b o, s0.heap.get? b = some o → b ∉ frs X.stack → B.get? b = some o
  up : s0.heap.UpToSlots s.heap
  fly : HandSPX.FlyingZ B (X.env :: X.outer) a (Zc c d) s.heap
  new : H a = none
  os : s.os = s0.os
  bare : AllBare s.gens
theorem Over.here (O : Over X pins σ H s0 B a c d s) : Inv X pins σ H s := O.inv.landed O.low O.fly.1 O.up O.os O.bare
theorem Over.step {h' : Heap} (O : Over X pins σ H s0 B a c d s) (f : HandSPX.FlyingZ B (X.env :: X.outer) a (Zc c d) h') (u : s.heap.UpToSlots h') : Over X pins σ H s0 B a c d { s with heap := h' } :=
  ⟨O.inv, O.low, O.up.trans u, f, O.new, O.os, O.bare⟩
/-- into the suite -/
theorem Over.into (hf : X.env.frame = some X.env.locals) (O : Over X pins σ H s0 B a c d s) : ∃ o, s.heap.get? a = some o ∧ Zc c d o ∧ (∃ vs, o.data = .fields vs) ∧ Inv (X.suite a ((a, o) :: (X.pn ++ pins))) [] σ H s := by
  obtain ⟨o, vs, ho, hz, hd⟩ := O.fly.there
  have out : a ∉ frs (X.env :: X.outer) := fun hm => by
    obtain ⟨_, o2, e2, h2⟩ := O.fly.2.2.1.mem hm
    rw [ho] at e2
    cases e2
    exact h2 _ hd
  refine ⟨o, ho, hz, ⟨vs, hd⟩, O.here.suite ho hd O.new (fun z => out ?_) fun hm => out ?_⟩
  · exact List.mem_filterMap.mpr ⟨X.env, List.mem_cons_self, hf.trans (congrArg some z.symm)⟩
  · obtain ⟨e, he, q⟩ := List.mem_filterMap.mp hm
    exact List.mem_filterMap.mpr ⟨e, List.mem_cons_of_mem _ he, q⟩
/-- no clause takes it: it goes on -/
theorem over_on (hs : X.stack = X.env :: X.outer) (hf : X.env.frame = some X.env.locals) (tk : Takes X Wo) (O : Over X pins σ H s0 B a c d s) (w : Wo c d σ H) {Q : Flow → Shared → Prop} : wpAny (model X.prog X.w) X.A (handleBy (.ref a) X.env []) Q X.xe s := by
  refine wpAny_handleBy_nil ?_
  have gone : wpAny (model X.prog X.w) X.A (setFlight (.ref a) X.env.frame) (fun _ t => wpAny (model X.prog X.w) X.A (throw (.ref a) : Sem Flow) Q X.xe t) X.xe s := by
    rw [hf]
    exact HandSPX.setFlight_upZ O.fly fun h4 hh u4 => wpAny_throw (tk _ _ ⟨a, B, s0, pins, σ, H, c, d, rfl, O.inv, O.low, O.up.trans u4, .inr (.inr (by rw [hs]; exact hh)), O.new, O.os, O.bare, w⟩)
  obtain ⟨_, _, _, o, vs, T, _, _, ho, _, hd, h1, _⟩ := id O.fly
  unfold PySem.passOn
  refine wpAny_bind (wpAny_field ho hd h1 ?_)
  rw [if_neg (by simp)]
  first
    | exact wpAny_bind (wpAny_pure (wpAny_bind gone))
    | exact wpAny_bind gone
/-- the clause's class is read and asked -/
theorem over_ask (hf : X.env.frame = some X.env.locals) {x : Str} {np : Pos} {k : Value} {b : Bool} (hc : Names X x k) (O : Over X pins σ H s0 B a c d s) (e : PySem.W.exmOne X.K c k = some b) {E E' : Value → Shared → Prop} {R : Bool → Shared → Prop} (h : R b s) :
    wpAny (model X.prog X.w) (X.A.mark (some (.ref a))) (eval (.Name x np) X.env) (fun v s1 => wpAny (model X.prog X.w) (X.A.mark (some (.ref a))) (excMatches (.ref a) v) R E' s1) E s := by
  obtain ⟨o, ho, hz, _, S⟩ := O.into hf
  have ty : PySem.W.Looks (model X.prog X.w) s.heap (typeOf (.ref a)) c := fun A Q E s' k q => wpAny_typeOf_ref (k _ _ ho) (by rw [hz.1]; exact q)
  have ask := PySem.W.exm_one (M := model X.prog X.w) O.here.kIn ty e
  obtain ⟨hg, hdb, hm | ⟨hm, hv, hn⟩⟩ := hc
  · exact ld_glob (X := X.suite a ((a, o) :: (X.pn ++ pins))) S hg hm (ask.here h) hdb
  · exact ld_blt (X := X.suite a ((a, o) :: (X.pn ++ pins))) S hg hm hv (ask.here h) hn hdb
/-- the clauses, one after the other -/
theorem over_cls (ok : X.Ok) (hs : X.stack = X.env :: X.outer) (hf : X.env.frame = some X.env.locals) (hN : X.N.Nodup) (tk : Takes X Wo) : ∀ {hds : List ExceptHandler} {l : List Cls}, ClsOk X hds l → ∀ {s : Shared}, Over X pins σ H s0 B a c d s → wCls X.K Wo D l c d σ H →
    wpAny (model X.prog X.w) X.A (handleBy (.ref a) X.env hds) (SP X pins D) X.xe s := by
  intro hds l hk
  induction hk with
  | nil => exact fun O w => over_on hs hf tk O w
  | bare hc hb r ih =>
    intro s O ⟨b, e, yes, no⟩
    refine wpAny_handleBy_cons (codeAny_handlers_test (over_ask hf hc O e ?_)) (by intro q; cases q)
    cases b with
    | false => exact ih O (no rfl)
    | true =>
      refine codeAny_handlers_suite (HandSPX.lands_againZ O.fly fun h4 f4 u4 => ?_)
      obtain ⟨o, ho, hz, hd, S⟩ := (O.step f4 u4).into hf
      refine wpAny_mono ((hb a o c d (X.pn ++ pins) hz hd).run [] _ _ H _ S (yes rfl a O.new)) (fun f s6 sp => ?_) (fun _ _ z => z.elim)
      cases f with
      | ret u =>
        obtain ⟨v, σ6, H6, S6, r6, q6⟩ := sp
        exact ⟨v, σ6, H6, S6.unsuite ok, r6, q6⟩
      | next => obtain ⟨σ6, H6, S6, q6⟩ := sp; exact ⟨σ6, H6, S6.unsuite ok, q6⟩
      | brk => obtain ⟨σ6, H6, S6, q6⟩ := sp; exact ⟨σ6, H6, S6.unsuite ok, q6⟩
      | cont => obtain ⟨σ6, H6, S6, q6⟩ := sp; exact ⟨σ6, H6, S6.unsuite ok, q6⟩
  | @named x n i cl act b0 bs np p hds l hi hk hc hb r ih =>
    intro s O ⟨b, e, yes, no⟩
    refine wpAny_handleBy_cons (codeAny_handlers_test (over_ask hf hc O e ?_)) (by intro q; cases q)
    cases b with
    | false => exact ih O (no rfl)
    | true =>
      refine codeAny_handlers_suite_as (HandSPX.lands_againZ O.fly fun h4 f4 u4 => ?_)
      obtain ⟨o, ho, hz, hd, S⟩ := (O.step f4 u4).into hf
      refine store_ok (X := X.suite a ((a, o) :: (X.pn ++ pins))) (v := .ref a) S hN hi (.inl hk) rfl (fun s5 S5 => ?_) (.inr hk)
      refine wpAny_mono ((hb a o c d (X.pn ++ pins) hz hd).run [] s5 _ H _ S5 (yes rfl a O.new)) (fun f s6 sp => ?_) (fun _ _ z => z.elim)
      have off : ∀ {σ6 : St} {H6 : Hp} {Q : Shared → Prop}, Inv (X.suite a ((a, o) :: (X.pn ++ pins))) [] σ6 H6 s6 → (∀ s7, Inv X pins (σ6.set i none) H6 s7 → Q s7) → wpAny (model X.prog X.w) X.A (do bindName X.env n .none; unbindBehindTheSuite X.env n p) (fun _ s7 => Q s7) X.xe s6 :=
        fun S6 hq => gone_ok (S6.unsuite ok) hN hi hk hq
      cases f with
      | ret u =>
        obtain ⟨v, σ6, H6, S6, r6, q6⟩ := sp
        exact off S6 fun s7 J7 => ⟨v, _, H6, J7, r6, q6⟩
      | next => obtain ⟨σ6, H6, S6, q6⟩ := sp; exact off S6 fun s7 J7 => ⟨_, H6, J7, q6⟩
      | brk => obtain ⟨σ6, H6, S6, q6⟩ := sp; exact off S6 fun s7 J7 => ⟨_, H6, J7, q6⟩
      | cont => obtain ⟨σ6, H6, S6, q6⟩ := sp; exact off S6 fun s7 J7 => ⟨_, H6, J7, q6⟩
variable {body : List Stmt} {h0 : ExceptHandler} {hds : List ExceptHandler} {l : List Cls} {pos : Pos} {tb : WX → TS}
/-- try: body / except A as e: .. / except B: .. -/
theorem ps_tryMany (hs : X.stack = X.env :: X.outer) (hf : X.env.frame = some X.env.locals) (hN : X.N.Nodup) (tk : Takes X Wo)
    (hb : ∀ (W : WX) (pn : List (Addr × Obj)) (xe : Value → Shared → Prop), Takes (X.tr pn xe) W → PassesOwn (model X.prog X.w) X.A X.env xe → PSs (X.tr pn xe) body (tb W))
    (hh : ClsOk X (h0 :: hds) l) : PS X (.Try body (h0 :: hds) [] [] pos) (fun D σ H => tb (wCls X.K Wo D l) D σ H) := ⟨fun pins s σ H D I h => by
  have ok := I.ok
  have fr : X.A.frames = some (X.env :: X.outer) := ok.frames.trans (congrArg some hs)
  let xe : Value → Shared → Prop := fun e t => wpAny (model X.prog X.w) X.A (noteFrame e X.env) (fun _ t2 => wpAny (model X.prog X.w) X.A (setFlight e none) (fun _ t3 => wpAny (model X.prog X.w) X.A (handleBy e X.env (h0 :: hds)) (SP X pins D) X.xe t3) X.xe t2) X.xe t
  have take : Takes (X.tr (X.pn ++ pins) xe) (wCls X.K Wo D l) := fun u t xx => by
    obtain ⟨a, B, sI, pn2, σ2, H2, c, d, rfl, J, nb, up, sky, na, os, ag, w⟩ := xx
    have sky2 : Sky B (X.env :: X.outer) a (Zc c d) X.env.locals t.heap := by rw [← hs]; exact sky
    exact Sky.land Zc.steady fr hf sky2 fun h3 f3 u3 => over_cls ok hs hf hN tk hh ⟨J.ofTry ok, nb, up.trans u3, f3, na, os, ag⟩ w
  refine wpAny_Try_except (wpAny_mono ((hb _ (X.pn ++ pins) xe take PassesOwn.looking).run [] s σ H D (I.toTry _) h) (fun f t sp => ?_) fun _ _ he => he)
  cases f with
  | next => obtain ⟨σ2, H2, J, q⟩ := sp; exact wpAny_execs_nil ⟨σ2, H2, J.ofTry ok, q⟩
  | brk => obtain ⟨σ2, H2, J, q⟩ := sp; exact ⟨σ2, H2, J.ofTry ok, q⟩
  | cont => obtain ⟨σ2, H2, J, q⟩ := sp; exact ⟨σ2, H2, J.ofTry ok, q⟩
  | ret u => obtain ⟨v, σ2, H2, J, r, q⟩ := sp; exact ⟨v, σ2, H2, J.ofTry ok, r, q⟩⟩
end
/-- a clause, as a value: does it take a class, the slot of its name, its suite -/
structure Clv where
  mt : Str → Option Bool
  sl : Option Nat
  u : Str → List (Str × D) → Sv
def SR.unx : SR → SR
  | .exc _ _ _ => .bad
  | y => y
def hdl : List Clv → Str → List (Str × D) → Vl.Env → SR
  | [], n, fs, ρ => .exc n fs ρ
  | q :: l, n, fs, ρ => match q.mt n with
    | some true => (match q.sl with
      | some i => if i < ρ.length then (q.u n fs (ρ.set i (some (exnD n)))).unb i else .bad
      | none => (q.u n fs ρ).unx)
    | some false => hdl l n fs ρ
    | none => .bad
def S.tryMany (g : Sv) (l : List Clv) : Sv := fun ρ => match g ρ with
  | .exc n fs ρ1 => hdl l n fs ρ1
  | y => y
def Clv.act (ca : Ca) (C : Cx) (q : Clv) : Addr → Value → Option Addr → TS := match q.sl with
  | some i => fun a c d D σ H => ∃ n fs caX ρ', q.mt n = some true ∧ c = .ref (ca n) ∧ XRel ca caX i a d fs ∧ rdS (cx caX C) W0 (q.u n fs) ρ' D σ H
  | none => fun a c d D σ H => ∃ n fs ρ', q.mt n = some true ∧ c = .ref (ca n) ∧ rdS (cx ca C) W0 (q.u n fs) ρ' D σ H
inductive CvOk (ca : Ca) (C : Cx) : List ExceptHandler → List (Value × Clv) → Prop
  | nil : CvOk ca C [] []
  | bare {x : Str} {c : Value} {mt : Str → Option Bool} {u : Str → List (Str × D) → Sv} {b : Stmt} {bs : List Stmt} {np p : Pos} {hds : List ExceptHandler} {l : List (Value × Clv)} (hc : Names C x c) (hmt : ∀ n b, mt n = some b → PySem.W.exmOne C.K (.ref (ca n)) c = some b)
      (hsu : ∀ (a : Addr) (oe : Obj) (n : Str) (d : Option Addr) (pn : List (Addr × Obj)) (fs : List (Str × D)), mt n = some true → Zc (.ref (ca n)) d oe → (∃ vs, oe.data = .fields vs) → CSs ca (C.suite a ((a, oe) :: pn)) W0 (b :: bs) (u n fs)) (r : CvOk ca C hds l) :
      CvOk ca C (.ExceptHandler (some (.Name x np)) none (b :: bs) p :: hds) ((c, ⟨mt, none, u⟩) :: l)
  | named {x y : Str} {i : Nat} {c : Value} {mt : Str → Option Bool} {u : Str → List (Str × D) → Sv} {b : Stmt} {bs : List Stmt} {np p : Pos} {hds : List ExceptHandler} {l : List (Value × Clv)} (hfi : ∀ p ∈ ca.fix, p.1 ≠ i) (hi : C.N[i]? = some y) (hln : C.env.kindOf y = some .local) (hc : Names C x c)
      (hmt : ∀ n b, mt n = some b → PySem.W.exmOne C.K (.ref (ca n)) c = some b)
      (hsu : ∀ (a : Addr) (oe : Obj) (n : Str) (d : Option Addr) (pn : List (Addr × Obj)) (fs : List (Str × D)) (caX : Ca), mt n = some true → Zc (.ref (ca n)) d oe → (∃ vs, oe.data = .fields vs) → XRel ca caX i a d fs → CSs caX (C.suite a ((a, oe) :: pn)) W0 (b :: bs) (u n fs)) (r : CvOk ca C hds l) :
      CvOk ca C (.ExceptHandler (some (.Name x np)) (some y) (b :: bs) p :: hds) ((c, ⟨mt, some i, u⟩) :: l)
def clsOf (ca : Ca) (C : Cx) (l : List (Value × Clv)) : List Cls := l.map fun p => ⟨p.1, p.2.sl, p.2.act ca C⟩
section
variable {ca : Ca} {C : Cx} {W : WX}
theorem cv_cls {hds : List ExceptHandler} {l : List (Value × Clv)} (h : CvOk ca C hds l) : ClsOk C hds (clsOf ca C l) := by
  induction h with
  | nil => exact .nil
  | bare hc hmt hsu r ih =>
    refine .bare hc (fun a oe cls d pn hz hd => ⟨fun pins s σ H D I ⟨n, fs, ρ', hm, ecls, q⟩ => ?_⟩) ih
    subst ecls
    exact ((hsu a oe n d pn fs hm hz hd).run ρ').run pins s σ H D I q
  | named hfi hi hln hc hmt hsu r ih =>
    refine .named hi hln hc (fun a oe cls d pn hz hd => ⟨fun pins s σ H D I ⟨n, fs, caX, ρ', hm, ecls, hx, q⟩ => ?_⟩) ih
    subst ecls
    exact ((hsu a oe n d pn fs caX hm hz hd hx).run ρ').run pins s σ H D I q
variable {F H F' H' : Hp} {r r' : AR} {σ' : St} {dx : Option Addr} {ρ1 : Vl.Env} {n : Str} {fs : List (Str × D)} {De : Ends}
theorem suite_named {i : Nat} {a : Addr} {mt : Str → Option Bool} {u : Str → List (Str × D) → Sv} (hfi : ∀ p ∈ ca.fix, p.1 ≠ i) (hil' : i < r'.length) (hm : mt n = some true)
    (p : PostS (cx ca C) W F H r ((u n fs (ρ1.set i (some (exnD n)))).unb i) De) (g' : GrowS F H r F' H' r') (s' : Stt (cx ca C) F' H' r' σ') (e' : erR r' = ρ1) (xk : XOk (cx ca C) F' H' dx fs) :
    ∃ n2 fs2 caX ρ', mt n2 = some true ∧ Value.ref (ca n) = Value.ref (ca n2) ∧ XRel ca caX i a dx fs2 ∧ rdS (cx caX C) W0 (u n2 fs2) ρ' (endsOf De (some i)) (σ'.set i (some (.ref a))) H' := by
  -- what the suite knows
  obtain ⟨caX, hx, hkn⟩ : ∃ caX : Ca, XRel ca caX i a dx fs ∧ ((∀ c ∈ caX.cells, F' c.1 = some c.2) ∧ ∀ z ∈ caX.known, z.cold = true ∧ Ok (cx ca C) F' H' z) := by
    cases dx with
    | none => exact ⟨⟨ca.f, (i, .ref a) :: ca.fix, ca.cells, ca.known⟩, ⟨rfl, rfl, .inl ⟨rfl, xk, rfl, rfl⟩⟩, s'.kn⟩
    | some dd =>
      obtain ⟨xs, gs, h1, h2, h3, h4⟩ := xk
      refine ⟨⟨ca.f, (i, .ref a) :: ca.fix, (dd, .xd gs) :: ca.cells, xs.map (·.2) ++ ca.known⟩, ⟨rfl, rfl, .inr ⟨dd, xs, gs, rfl, h1, h4, rfl, rfl⟩⟩, fun c hc => ?_, fun z hz => ?_⟩
      · rcases List.mem_cons.mp hc with rfl | hc
        · exact h3
        · exact s'.kn.1 c hc
      · rcases List.mem_append.mp hz with hz | hz
        · obtain ⟨q, hq, rfl⟩ := List.mem_map.mp hz
          exact h2 q hq
        · exact s'.kn.2 z hz
  have okt : Ok (cx ca C) F' H' (.nd (.exn n []) .c (a, 0) []) := ⟨⟨rfl, .inl rfl, rfl⟩, trivial⟩
  have ct : (T.nd (.exn n []) .c (a, 0) [] : A).cold = true := rfl
  obtain ⟨s2, mo, mb⟩ := s'.setSlot hfi hil' okt (by rw [cold_own ct]; exact List.nodup_nil) (by rw [cold_own ct]; exact fun _ z => (by cases z)) (by rw [cold_own ct]; exact fun _ z => (by cases z)) (by rw [cold_bor ct]; exact fun _ z => (by cases z))
  have ow2 : ∀ q ∈ adrR .o (r'.set i (some (.nd (.exn n []) .c (a, 0) []))), q ∈ adrR .o r' := fun q hq => (mo q hq).elim id fun z => by rw [cold_own ct] at z; cases z
  have er2 : erR (r'.set i (some (.nd (.exn n []) .c (a, 0) []))) = ρ1.set i (some (exnD n)) := by
    unfold erR
    rw [List.map_set]
    show (erR r').set i _ = _
    rw [e']; rfl
  obtain ⟨ef, efx, hrest⟩ := id hx
  have sX : Stt (cx caX C) F' H' (r'.set i (some (.nd (.exn n []) .c (a, 0) []))) (σ'.set i (some (.ref a))) := by
    obtain ⟨cf, cfx, ccs, ckn⟩ := caX
    have ef : cf = ca.f := ef
    subst ef
    refine ⟨s2.val, fun z hz => (s2.ok z hz).ctx, s2.nd, s2.bd, s2.sub, fun q hq => ?_, fun c hc => hkn.1 c hc, fun z hz => ⟨(hkn.2 z hz).1, (hkn.2 z hz).2.ctx⟩⟩
    have hq : q ∈ cfx := hq
    have efx : cfx = (i, .ref a) :: ca.fix := efx
    rw [efx] at hq
    rcases List.mem_cons.mp hq with rfl | hq
    · exact List.getElem?_set_self (by rw [s'.val]; unfold valR; rw [List.length_map]; exact hil')
    · exact s2.fx q hq
  refine ⟨n, fs, caX, ρ1.set i (some (exnD n)), hm, rfl, hx, F', _, sX, er2, ?_⟩
  have gS : GrowS F H r F' H' (r'.set i (some (.nd (.exn n []) .c (a, 0) []))) := ⟨g'.same, g'.fs, g'.fr, fun q hq => g'.ow q (ow2 q hq), fun b hb => g'.bo b (mb b hb), g'.there⟩
  -- behind the suite: e is unbound
  have back : ∀ {F4 H4 : Hp} {r4 : AR} {σ4 : St} {ρ4 : Vl.Env}, GrowS F' H' (r'.set i (some (.nd (.exn n []) .c (a, 0) []))) F4 H4 r4 → Stt (cx caX C) F4 H4 r4 σ4 → erR r4 = ρ4 → ∃ r5, GrowS F H r F4 H4 r5 ∧ Stt (cx ca C) F4 H4 r5 (σ4.set i none) ∧ erR r5 = ρ4.set i none ∧ Stt (cx ca C) F4 H4 r4 σ4 ∧ GrowS F H r F4 H4 r4 := by
    intro F4 H4 r4 σ4 ρ4 g4 s4 e4
    have s5 : Stt (cx ca C) F4 H4 r4 σ4 := by
      obtain ⟨cf, cfx, ccs, ckn⟩ := caX
      have ef : cf = ca.f := ef
      subst ef
      have efx : cfx = (i, .ref a) :: ca.fix := efx
      subst efx
      refine ⟨s4.val, fun z hz => (s4.ok z hz).ctx, s4.nd, s4.bd, s4.sub, fun q hq => s4.fx q (List.mem_cons_of_mem _ hq), ?_, ?_⟩
      · rcases hrest with ⟨_, _, h1, _⟩ | ⟨dd, xs, gs, _, _, _, h1, _⟩
        · have h1 : ccs = ca.cells := h1
          subst h1
          exact s4.kn.1
        · have h1 : ccs = (dd, .xd gs) :: ca.cells := h1
          subst h1
          exact fun c hc => s4.kn.1 c (List.mem_cons_of_mem _ hc)
      · rcases hrest with ⟨_, _, _, h1⟩ | ⟨dd, xs, gs, _, _, _, _, h1⟩
        · have h1 : ckn = ca.known := h1
          subst h1
          exact fun z hz => ⟨(s4.kn.2 z hz).1, (s4.kn.2 z hz).2.ctx⟩
        · have h1 : ckn = xs.map (·.2) ++ ca.known := h1
          subst h1
          exact fun z hz => ⟨(s4.kn.2 z (List.mem_append_right _ hz)).1, (s4.kn.2 z (List.mem_append_right _ hz)).2.ctx⟩
    have s6 := s5.wipe (vs := [i]) (fun q hq h => hfi q hq (by simpa using h))
    have gT := gS.trans g4
    refine ⟨wipeL r4 [i], ⟨gT.same, gT.fs, gT.fr, fun q hq => gT.ow q (adr_wipe q hq), fun b hb => gT.bo b (adr_wipe b hb), gT.there⟩, s6, ?_, s5, gT⟩
    rw [← e4]
    exact wipeL_map er r4 [i]
  cases hu : u n fs (ρ1.set i (some (exnD n))) with
  | bad => rw [hu] at p; exact p
  | exc c2 fs2 ρ2 => rw [hu] at p; exact p.elim
  | nx ρ2 =>
    rw [hu] at p
    intro F4 H4 r4 σ4 g4 s4 e4
    obtain ⟨r5, g5, s5, e5, _⟩ := back g4 s4 e4
    exact p F4 H4 r5 _ g5 s5 e5
  | bk ρ2 =>
    rw [hu] at p
    intro F4 H4 r4 σ4 g4 s4 e4
    obtain ⟨r5, g5, s5, e5, _⟩ := back g4 s4 e4
    exact p F4 H4 r5 _ g5 s5 e5
  | ct ρ2 =>
    rw [hu] at p
    intro F4 H4 r4 σ4 g4 s4 e4
    obtain ⟨r5, g5, s5, e5, _⟩ := back g4 s4 e4
    exact p F4 H4 r5 _ g5 s5 e5
  | ret dv ρ2 =>
    rw [hu] at p
    intro F4 H4 r4 σ4 w g4 s4 e4 v4 o4 ew
    obtain ⟨_, _, _, _, s5, gT⟩ := back g4 s4 e4
    have okw : Ok (cx ca C) F4 H4 w := by
      obtain ⟨cf, cfx, ccs, ckn⟩ := caX
      have ef : cf = ca.f := ef
      subst ef
      exact v4.ok.ctx
    refine p F4 H4 r4 σ4 w gT s5 e4 ⟨okw, v4.nd, v4.out⟩ (fun q hq => ?_) ew
    rcases o4 q hq with z | z
    · refine .inl ?_
      cases e5 : H q with
      | none => rfl
      | some u => exact absurd z (g'.there q (by rw [e5]; exact fun z => by cases z))
    · exact g'.ow q (ow2 q z)
theorem suite_bare {w : SR} (p : PostS (cx ca C) W F H r w.unx De) (g' : GrowS F H r F' H' r') : PostS (cx ca C) W0 F' H' r' w De := by
  cases w with
  | bad => exact p
  | exc n fs ρ => exact p.elim
  | nx ρ => exact fun F4 H4 r4 σ4 g4 s4 e4 => p F4 H4 r4 σ4 (g'.trans g4) s4 e4
  | bk ρ => exact fun F4 H4 r4 σ4 g4 s4 e4 => p F4 H4 r4 σ4 (g'.trans g4) s4 e4
  | ct ρ => exact fun F4 H4 r4 σ4 g4 s4 e4 => p F4 H4 r4 σ4 (g'.trans g4) s4 e4
  | ret d ρ =>
    refine fun F4 H4 r4 σ4 w g4 s4 e4 v4 o4 ew => p F4 H4 r4 σ4 w (g'.trans g4) s4 e4 v4 (fun q hq => ?_) ew
    rcases o4 q hq with z | z
    · refine .inl ?_
      cases e5 : H q with
      | none => rfl
      | some u => exact absurd z (g'.there q (by rw [e5]; exact fun z => by cases z))
    · exact g'.ow q z
theorem exc_cls {hds : List ExceptHandler} {l : List (Value × Clv)} (h : CvOk ca C hds l) (p : PostS (cx ca C) W F H r (hdl (l.map Prod.snd) n fs ρ1) De) (g' : GrowS F H r F' H' r') (s' : Stt (cx ca C) F' H' r' σ') (e' : erR r' = ρ1) (xk : XOk (cx ca C) F' H' dx fs) :
    wCls C.K W De (clsOf ca C l) (.ref (ca n)) dx σ' H' := by
  induction h with
  | nil => exact p F' H' r' σ' dx g' s' e' xk
  | @bare x c mt u b bs np pp hds l hc hmt hsu r ih =>
    have p : PostS (cx ca C) W F H _ (match mt n with | some true => (u n fs ρ1).unx | some false => hdl (l.map Prod.snd) n fs ρ1 | none => .bad) De := p
    cases hm : mt n with
    | none => rw [hm] at p; exact p.elim
    | some bb =>
      rw [hm] at p
      refine ⟨bb, hmt n bb hm, fun hb a hna => ?_, fun hb => ?_⟩
      · subst hb
        exact ⟨n, fs, ρ1, hm, rfl, F', _, s', e', suite_bare p g'⟩
      · subst hb
        exact ih p
  | @named x y i c mt u b bs np pp hds l hfi hi hln hc hmt hsu r ih =>
    have p : PostS (cx ca C) W F H _ (match mt n with | some true => (if i < ρ1.length then (u n fs (ρ1.set i (some (exnD n)))).unb i else .bad) | some false => hdl (l.map Prod.snd) n fs ρ1 | none => .bad) De := p
    cases hm : mt n with
    | none => rw [hm] at p; exact p.elim
    | some bb =>
      rw [hm] at p
      refine ⟨bb, hmt n bb hm, fun hb a hna => ?_, fun hb => ?_⟩
      · subst hb
        dsimp only at p
        split at p
        · rename_i hil
          have hil' : i < r'.length := by rw [← e'] at hil; unfold erR at hil; rw [List.length_map] at hil; exact hil
          exact suite_named hfi hil' hm p g' s' e' xk
        · exact p.elim
      · subst hb
        exact ih p
variable {body : List Stmt} {h0 : ExceptHandler} {hds : List ExceptHandler} {l : List (Value × Clv)} {g : Sv} {pos : Pos}
theorem cs_tryMany (hs : C.stack = C.env :: C.outer) (hf : C.env.frame = some C.env.locals) (hN : C.N.Nodup) (tk : Takes C W)
    (hb : ∀ (W : WX) (pn : List (Addr × Obj)) (xe : Value → Shared → Prop), Takes (C.tr pn xe) W → PassesOwn (model C.prog C.w) C.A C.env xe → CSs ca (C.tr pn xe) W body g)
    (hh : CvOk ca C (h0 :: hds) l) : CS ca C W (.Try body (h0 :: hds) [] [] pos) (S.tryMany g (l.map Prod.snd)) := ⟨fun ρ => by
  refine PS.mono (ps_tryMany (tb := fun W => rdS (cx ca C) W g ρ) hs hf hN tk (fun W pn xe t po => (hb W pn xe t po).run ρ) (cv_cls hh)) fun D0 σ H ⟨F, r, s, e, p⟩ => ⟨F, r, s, e, ?_⟩
  unfold S.tryMany at p
  cases hg : g ρ with
  | bad => rw [hg] at p; exact p
  | nx ρ1 => rw [hg] at p; exact p
  | ret dv ρ1 => rw [hg] at p; exact p
  | bk ρ1 => rw [hg] at p; exact p
  | ct ρ1 => rw [hg] at p; exact p
  | exc n fs ρ1 =>
    rw [hg] at p
    exact fun F' H' r' σ' dx g' s' e' xk => exc_cls hh p g' s' e' xk⟩
end
end Vl
/-! The value layer, 41: isinstance of the caught exception, with fields or without. -/
namespace Vl
open PySem PySem.Spec PyProof.Rows L2

/-- what the class of the exception must say -/
def excB (K : PySem.W.Frag) (D : Addr) : Bool :=
  decide (PySem.W.findIn K (.ref D) "__getattribute__" = some (some (.builtin "BaseException.__getattribute__"))) && decide (PySem.W.findIn K (.ref D) "__getattr__" = some none) && decide (PySem.W.subIn K (.ref D) (.type "BaseException") = some true) &&
    (PySem.W.clsIn K D).isSome && decide (PySem.W.findIn K (.ref D) "__class__" = some (some (.builtin "object.__class__"))) && decide (PySem.W.specialIn K (.builtin "object.__class__") "__get__" = some (some (.builtin "getset_descriptor.__get__"))) &&
    decide (PySem.W.takesIn K (.builtin "object.__class__") = some true) && decide (PySem.W.mroIn K D (.type "object") = some true)
/-- isinstance(e, c), e the exception of the suite, d its dict -/
def rIsD (K : PySem.W.Frag) (D a : Addr) (d : Option Addr) : List V → Hp → VK → Prop := fun xs H Q => ∃ (c : V) (cv : Value) (b : Bool), xs = [.ref a, c] ∧ (∀ u, RelV c u → u = cv) ∧ PySem.W.kitOne K (.ref D) cv = some b ∧ (∀ dd, d = some dd → ∃ gs, H dd = some (.xd gs)) ∧ Q (.bl b) H
section
variable {ca caX : Ca} {C : Cx} {a Da : Addr} {oe : Obj} {pn : List (Addr × Obj)} {d : Option Addr} {W : WX}
theorem call_isD (hB : excB C.K Da = true) (hz : Zc (.ref Da) d oe) (hf : ∃ vs, oe.data = .fields vs) : CallR (C.suite a ((a, oe) :: pn)) (.builtin "isinstance") (rIsD C.K Da a d) := by
  intro pins s σ H xs us Q I r ⟨c, cv, b, exs, hcv, e, hd, q⟩
  subst exs
  unfold excB at hB
  simp only [Bool.and_eq_true, decide_eq_true_eq] at hB
  obtain ⟨⟨⟨⟨⟨⟨⟨h1, h2⟩, h3⟩, h4⟩, h5⟩, h6⟩, h7⟩, h8⟩ := hB
  cases r with
  | cons rx rr =>
    cases rr with
    | cons rt rr =>
      cases rr
      cases rx
      obtain rfl := hcv _ rt
      obtain ⟨here, _⟩ := I.pin (a, oe) (List.mem_append_left _ List.mem_cons_self)
      obtain ⟨vs, hv⟩ := hf
      have nc : PySem.W.notCls oe := by unfold PySem.W.notCls; rw [hv]
      have at_ : ∃ od, PySem.W.InstAt s.heap a oe Da od := by
        cases d with
        | none => exact ⟨none, here, hz.1, nc, by rw [hz.2]; trivial⟩
        | some dd =>
          obtain ⟨gs, hg⟩ := hd dd rfl
          obtain ⟨mA, hn, _⟩ : ObjOk C.prog C.w H s.heap dd (.xd gs) := I.hok dd _ hg
          obtain ⟨od, ho, _⟩ := lookIn_ns hn
          exact ⟨some od, here, hz.1, nc, by rw [hz.2]; exact ho⟩
      obtain ⟨od, J⟩ := at_
      exact PySem.W.kia_one (PySem.W.kitx_exc h4 h1 h2 h3 h5 h6 h7 h8) I.kIn J e (fun z => nomatch z) fun tk => ⟨.bl b, H, I.kept (t' := tk) fun _ _ z => z, rfl, q⟩
variable {fs : List (Str × D)} {i : Nat} {n y x2 : Str} {p p1 p2 pos : Pos} {b : Bool} {v : V} {cv : Value}
theorem ce_xis (h : XRel ca caX i a d fs) (hB : excB C.K (ca n) = true) (hz : Zc (.ref (ca n)) d oe) (hd : ∃ vs, oe.data = .fields vs) (pb : PE (C.suite a ((a, oe) :: pn)) (.Name x2 p2) (tC v)) (hcv : ∀ u, RelV v u → u = cv) (hk : PySem.W.kitOne C.K (.ref (ca n)) cv = some b)
    (hg : Gl C "isinstance") (hm : C.mg "isinstance" = none) (hN : C.N[i]? = some y := by rfl) (hv : Vis C.env.scope y := by first | exact Or.inl rfl | exact Or.inr (Or.inl rfl) | exact Or.inr (Or.inr rfl)) (hdb : (y == ("__debug__" : Str)) = false := by decide) (hcd : (y == ("__classdict__" : Str)) = false := by decide)
    (he : starEach [.Name y p1, .Name x2 p2] C.env = (false, eval (.Name y p1) C.env) :: starEach [.Name x2 p2] C.env := by rfl) (hpl : (backTo pos (starEach [.Name x2 p2] C.env)).any (·.1) = false := by rfl) :
    CE caX (C.suite a ((a, oe) :: pn)) W (.Call (.Name "isinstance" p) [.Name y p1, .Name x2 p2] [] pos) (E.c (.bl b)) := ⟨fun ρ => by
  refine PE.mono (pe_callB (X := C.suite a ((a, oe) :: pn)) (call_isD hB hz hd) hg hm rfl (pa_cons (pe_var (X := C.suite a ((a, oe) :: pn)) hN hv hdb hcd) (pa_cons pb pa_nil) he) (by decide) (by decide) he hpl) fun σ H Q ⟨F, r, s, e, q⟩ => ?_
  obtain ⟨ef, ex, hkk⟩ := h
  have hfx : σ[i]? = some (some (.ref a)) := s.fx (i, .ref a) (by show _ ∈ caX.fix; rw [ex]; exact List.mem_cons_self)
  refine ⟨.ref a, hfx, v, cv, b, rfl, hcv, hk, fun dd ed => ?_, ?_⟩
  · rcases hkk with ⟨e0, _⟩ | ⟨d2, xs, gs, e2, _, _, ec, _⟩
    · rw [ed] at e0; cases e0
    · rw [ed] at e2
      cases e2
      have hF : F dd = some (.xd gs) := s.kn.1 (dd, .xd gs) (by show _ ∈ caX.cells; rw [ec]; exact List.mem_cons_self)
      rcases s.sub dd _ hF with z | ⟨_, _, z, _⟩
      · exact ⟨gs, z⟩
      · cases z
  · exact q F H r (.bl b) .refl s e trivial rfl ⟨List.nodup_nil, fun _ z => (by cases z), fun _ z => (by cases z)⟩⟩
end
end Vl
/-! The value layer, 42: what the head looks at of an error's class. -/
namespace Vl
open PySem PySem.Spec PyProof.Rows L2

def shpB (C : Addr) : Option Obj → Bool
  | some ⟨.type t, _, .cls cd, sl⟩ => (match cd.mro, sl.toList with
    | .ref c :: bm, [_, _, _, _, some (.builtin n), _] => t == "type" && (c == C && (n == "ValueError.__new__" && (!cd.hasDel && (cd.hasDict && PySem.HandSPX.refsVE bm))))
    | _, _ => false)
  | _ => false
def oexB (K : PySem.W.Frag) (C : Addr) : Bool := shpB C (K.lookup C) && (decide (PySem.W.findIn K (.ref C) "__setattr__" = some (some (.builtin "object.__setattr__"))) && (decide (PySem.W.subIn K (.ref C) (.type "BaseException") = some true) && (decide (PySem.W.typeIn K (.ref C) = some (.type "type")) && PySem.W.keepIn K (.ref C))))
theorem oexB_ok {K : PySem.W.Frag} {C : Addr} (h : oexB K C = true) : OexC K C := by
  obtain ⟨h1, h⟩ := Bool.and_eq_true_iff.mp h
  obtain ⟨h2, h⟩ := Bool.and_eq_true_iff.mp h
  obtain ⟨h3, h⟩ := Bool.and_eq_true_iff.mp h
  obtain ⟨h4, h5⟩ := Bool.and_eq_true_iff.mp h
  refine ⟨?_, of_decide_eq_true h2, of_decide_eq_true h3, of_decide_eq_true h4, h5⟩
  cases ho : K.lookup C with
  | none => rw [ho] at h1; cases h1
  | some o =>
    rw [ho] at h1
    unfold shpB at h1
    split at h1
    · rename_i t dd cd sl eo
      split at h1
      · rename_i c bm k0 k1 k2 k3 n k5 em es
        simp only [Bool.and_eq_true, beq_iff_eq, Bool.not_eq_true'] at h1
        obtain ⟨rfl, rfl, rfl, hd, hh, hv⟩ := h1
        obtain ⟨nm, bs, mro, ns, qn, hdct, sn, sub, ab, col, del⟩ := cd
        dsimp only at em hd hh
        subst em hd hh
        obtain ⟨l⟩ := sl
        dsimp only at es
        subst es
        exact ⟨nm, qn, ns, bs, bm, sn, sub, ab, col, dd, k0, k1, k2, k3, k5, eo, hv⟩
      · cases h1
    · cases h1
/-- a class whose __init__ takes the fields fl -/
def rsB (K : PySem.W.Frag) (C : Str) (fl : List Str) : Bool := oexB K (He.ga K C) && (decide (PySem.W.findIn K (.ref (He.ga K C)) "__init__" = some (some (.ref (He.ma K (He.ga K C) "__init__")))) && (decide (PySem.W.typeIn K (.ref (He.ma K (He.ga K C) "__init__")) = some (.type "function")) && (fl.all fun f => decide (PySem.W.findIn K (.ref (He.ga K C)) f = some none))))
/-- a class without one -/
def r0B (K : PySem.W.Frag) (C : Str) : Bool := PySem.W.excIn K (He.ga K C) He.veBase "ValueError.__new__" && (PySem.W.keepIn K (.ref (He.ga K C)) && (decide (PySem.W.subIn K (.ref (He.ga K C)) (.type "BaseException") = some true) && decide (PySem.W.typeIn K (.ref (He.ga K C)) = some (.type "type"))))
/-- what an error is asked -/
def askB (K : PySem.W.Frag) (C : Str) : Bool := excB K (He.ga K C) && xfB K (He.ga K C)
/-- is C an X: as a clause and isinstance see it -/
def exmB (K : PySem.W.Frag) (C X : Str) (b : Bool) : Bool := decide (PySem.W.exmOne K (.ref (He.ga K C)) (.ref (He.ga K X)) = some b)
def isB (K : PySem.W.Frag) (C X : Str) (b : Bool) : Bool := decide (PySem.W.kitOne K (.ref (He.ga K C)) (.ref (He.ga K X)) = some b)
def isBT (K : PySem.W.Frag) (C : Str) (T : String) (b : Bool) : Bool := decide (PySem.W.kitOne K (.ref (He.ga K C)) (.type T) = some b)
/-! ### by names -/
/-- raise x(..): x takes the fields fl -/
structure Rsn (P : Program) (w : World) (K : PySem.W.Frag) (mg : Str → Option Value) (base : Heap) (cf : Str → Addr) (x : Str) (fl : List Str) : Prop where
  oex : OexC K (cf x)
  at_ : mg x = some (.ref (cf x))
  no : ∀ f ∈ fl, PySem.W.findIn K (.ref (cf x)) f = some none
  ini : ∃ (fI : Addr) (fd : FuncData) (ps : List Str), PySem.W.findIn K (.ref (cf x)) "__init__" = some (some (.ref fI)) ∧ PySem.W.typeIn K (.ref fI) = some (.type "function") ∧ FnOk P w K mg base (L2.CX P w) 1 fI fd ps (spI K fl) ∧ Binds K fd ps []
structure R0n (K : PySem.W.Frag) (mg : Str → Option Value) (cf : Str → Addr) (x : Str) : Prop where
  exc : PySem.W.excIn K (cf x) He.veBase "ValueError.__new__" = true
  keep : PySem.W.keepIn K (.ref (cf x)) = true
  sub : PySem.W.subIn K (.ref (cf x)) (.type "BaseException") = some true
  ty : PySem.W.typeIn K (.ref (cf x)) = some (.type "type")
  at_ : mg x = some (.ref (cf x))
theorem r0n_ok {K : PySem.W.Frag} {mg : Str → Option Value} {x : Str} (h : r0B K x = true) (hm : mg x = some (.ref (He.ga K x))) : R0n K mg (He.ga K) x := by
  obtain ⟨h1, h⟩ := Bool.and_eq_true_iff.mp h
  obtain ⟨h2, h⟩ := Bool.and_eq_true_iff.mp h
  obtain ⟨h3, h4⟩ := Bool.and_eq_true_iff.mp h
  exact ⟨h1, h2, of_decide_eq_true h3, of_decide_eq_true h4, hm⟩
theorem rsn_ok {P : Program} {w : World} {K : PySem.W.Frag} {mg : Str → Option Value} {base : Heap} {x : Str} {fl ps : List Str} {fd : FuncData} (h : rsB K x fl = true) (hm : mg x = some (.ref (He.ga K x))) (Fn : FnOk P w K mg base (L2.CX P w) 1 (He.ma K (He.ga K x) "__init__") fd ps (spI K fl)) (hb : Binds K fd ps []) : Rsn P w K mg base (He.ga K) x fl := by
  obtain ⟨h1, h⟩ := Bool.and_eq_true_iff.mp h
  obtain ⟨h2, h⟩ := Bool.and_eq_true_iff.mp h
  obtain ⟨h3, h4⟩ := Bool.and_eq_true_iff.mp h
  exact ⟨oexB_ok h1, hm, fun f hf => of_decide_eq_true (List.all_eq_true.mp h4 f hf), _, fd, ps, of_decide_eq_true h2, of_decide_eq_true h3, Fn, hb⟩
section
variable {ca : Ca} {C : Cx} {W : WX} {e : Expr} {es : List Expr} {fa : Vl.Env → R (List D)} {x : Str} {fl : List Str} {p pos pos2 : Pos} {j : Nat}
theorem cs_raiseN (h : Rsn C.prog C.w C.K C.mg C.base ca.f x fl) (hc : C.calm = true) (hr : Room j C.A) (hj : 2 ≤ j) (tk : Takes C W) (hg : Gl C x) (ha : CA ca C W (e :: es) fa) (hfl : fl.length ≤ 1000 := by decide) (hdb : (x == ("__debug__" : Str)) = false := by decide)
    (he : starEach (e :: es) C.env = (false, eval e C.env) :: starEach es C.env := by rfl) (hpl : (backTo pos (starEach es C.env)).any (·.1) = false := by rfl) : CS ca C W (.Raise (some (.Call (.Name x p) (e :: es) [] pos)) none pos2) (S.raise x fl fa) := by
  obtain ⟨fI, fd, ps, h1, h2, Fn, hb⟩ := h.ini
  exact cs_raise hc tk h.oex h1 h2 h.no hfl Fn (hr.mono hj) hb hg h.at_ ha hdb he hpl
theorem cs_raise0N (h : R0n C.K C.mg ca.f x) (hc : C.calm = true) (tk : Takes C W) (hg : Gl C x) (hdb : (x == ("__debug__" : Str)) = false := by decide) : CS ca C W (.Raise (some (.Call (.Name x p) [] [] pos)) none pos2) (S.raise0 x) :=
  cs_raise0 hc tk PySem.F.excBase_ValueError h.exc h.at_ h.keep (raises_own h.sub h.ty) hg hdb
/-- e as a statement -/
theorem names_at {cl : Value} (hg : Gl C x) (hm : C.mg x = some cl) (hdb : (x == ("__debug__" : Str)) = false := by decide) : Names C x cl := ⟨hg, hdb, .inl hm⟩
end
end Vl
/-! The value layer, 43: raise, try and what a suite asks, by names. -/
namespace Vl
open PySem PySem.Spec PyProof.Rows L2

/-- the errors es, the classes hs that clauses and isinstance name, sub: is it one; ff: the fields that are read -/
structure ErrF (K : PySem.W.Frag) (mg : Str → Option Value) (cf : Str → Addr) (es hs ff : List Str) (sub : Str → Str → Bool) : Prop where
  at_ : ∀ x ∈ hs, mg x = some (.ref (cf x))
  exm : ∀ c ∈ es, ∀ x ∈ hs, PySem.W.exmOne K (.ref (cf c)) (.ref (cf x)) = some (sub c x)
  isi : ∀ c ∈ es, ∀ x ∈ hs, PySem.W.kitOne K (.ref (cf c)) (.ref (cf x)) = some (sub c x)
  isT : ∀ c ∈ es, PySem.W.kitOne K (.ref (cf c)) (.type "ValueError") = some true
  ask : ∀ c ∈ es, excB K (cf c) = true ∧ XfC K (cf c)
  no : ∀ c ∈ es, ∀ f ∈ ff, PySem.W.findIn K (.ref (cf c)) f = some none
/-- what stands in a class -/
def inCls (s : Stmt) : List Stmt := match s with
  | .ClassDef _ _ _ z _ _ _ _ _ _ _ => z
  | _ => []
/-- the same, as a Bool -/
def errB (K : PySem.W.Frag) (es hs ff : List Str) (sub : Str → Str → Bool) : Bool := es.all fun c => (hs.all fun x => exmB K c x (sub c x) && isB K c x (sub c x)) && (isBT K c "ValueError" true && (askB K c && ff.all fun f => decide (PySem.W.findIn K (.ref (He.ga K c)) f = some none)))
theorem errF_ok {K : PySem.W.Frag} {mg : Str → Option Value} {es hs ff : List Str} {sub : Str → Str → Bool} (h : errB K es hs ff sub = true) (hm : ∀ x ∈ hs, mg x = some (.ref (He.ga K x))) : ErrF K mg (He.ga K) es hs ff sub := by
  have h := List.all_eq_true.mp h
  have one : ∀ c ∈ es, (∀ x ∈ hs, exmB K c x (sub c x) = true ∧ isB K c x (sub c x) = true) ∧ isBT K c "ValueError" true = true ∧ askB K c = true ∧ ∀ f ∈ ff, PySem.W.findIn K (.ref (He.ga K c)) f = some none := fun c hc => by
    obtain ⟨h1, h2⟩ := Bool.and_eq_true_iff.mp (h c hc)
    obtain ⟨h3, h4⟩ := Bool.and_eq_true_iff.mp h2
    obtain ⟨h5, h6⟩ := Bool.and_eq_true_iff.mp h4
    exact ⟨fun x hx => Bool.and_eq_true_iff.mp (List.all_eq_true.mp h1 x hx), h3, h5, fun f hf => of_decide_eq_true (List.all_eq_true.mp h6 f hf)⟩
  exact ⟨hm, fun c hc x hx => of_decide_eq_true ((one c hc).1 x hx).1, fun c hc x hx => of_decide_eq_true ((one c hc).1 x hx).2, fun c hc => of_decide_eq_true (one c hc).2.1,
    fun c hc => ⟨(Bool.and_eq_true_iff.mp (one c hc).2.2.1).1, xfB_ok (Bool.and_eq_true_iff.mp (one c hc).2.2.1).2⟩, fun c hc => (one c hc).2.2.2⟩
def mtOf (es : List Str) (sub : Str → Str → Bool) (x : Str) : Str → Option Bool := fun n => if n ∈ es then some (sub n x) else none
theorem mtOf_some {es : List Str} {sub : Str → Str → Bool} {x n : Str} {b : Bool} (h : mtOf es sub x n = some b) : n ∈ es ∧ sub n x = b := by
  unfold mtOf at h
  split at h
  · rename_i hn; exact ⟨hn, Option.some.inj h⟩
  · cases h
section
variable {ca caX : Ca} {C : Cx} {W : WX} {es hs ff : List Str} {sub : Str → Str → Bool} {x y n f : Str} {i : Nat} {u : Str → List (Str × D) → Sv} {b : Stmt} {bs : List Stmt} {np p p1 p2 pos : Pos} {hds : List ExceptHandler} {l : List (Value × Clv)} {a : Addr} {oe : Obj} {d : Option Addr} {pn : List (Addr × Obj)} {fs : List (Str × D)}
/-- what a suite is proved from -/
structure InS (ca caX : Ca) (C : Cx) (es : List Str) (i : Nat) (a : Addr) (oe : Obj) (n : Str) (d : Option Addr) (fs : List (Str × D)) : Prop where
  mem : n ∈ es
  z : Zc (.ref (ca n)) d oe
  dat : ∃ vs, oe.data = .fields vs
  rel : XRel ca caX i a d fs
theorem InS.fix (S : InS ca caX C es i a oe n d fs) {ms : List Bool} {j : Nat} (h : ∀ p ∈ ca.fix, ms[p.1]? = some true) (hj : ms[j]? ≠ some true) (hij : i ≠ j) : ∀ p ∈ caX.fix, p.1 ≠ j := fun q hq => by
  rw [S.rel.2.1] at hq
  rcases List.mem_cons.mp hq with rfl | hq
  · exact hij
  · exact nofix h hj q hq
theorem cvN (Er : ErrF C.K C.mg ca.f es hs ff sub) (hx : x ∈ hs) (hg : Gl C x) (hfi : ∀ p ∈ ca.fix, p.1 ≠ i) (hi : C.N[i]? = some y) (hln : C.env.kindOf y = some .local)
    (hsu : ∀ (a : Addr) (oe : Obj) (n : Str) (d : Option Addr) (pn : List (Addr × Obj)) (fs : List (Str × D)) (caX : Ca), sub n x = true → InS ca caX C es i a oe n d fs → CSs caX (C.suite a ((a, oe) :: pn)) W0 (b :: bs) (u n fs)) (r : CvOk ca C hds l) (hdb : (x == ("__debug__" : Str)) = false := by decide) :
    CvOk ca C (.ExceptHandler (some (.Name x np)) (some y) (b :: bs) p :: hds) ((.ref (ca x), ⟨mtOf es sub x, some i, u⟩) :: l) :=
  .named hfi hi hln (names_at hg (Er.at_ x hx) hdb) (fun n b h => by rw [← (mtOf_some h).2]; exact Er.exm n (mtOf_some h).1 x hx) (fun a oe n d pn fs caX h hz hd hr => hsu a oe n d pn fs caX (mtOf_some h).2 ⟨(mtOf_some h).1, hz, hd, hr⟩) r
theorem cv0 (Er : ErrF C.K C.mg ca.f es hs ff sub) (hx : x ∈ hs) (hg : Gl C x)
    (hsu : ∀ (a : Addr) (oe : Obj) (n : Str) (pn : List (Addr × Obj)) (fs : List (Str × D)), CSs ca (C.suite a ((a, oe) :: pn)) W0 (b :: bs) (u n fs)) (r : CvOk ca C hds l) (hdb : (x == ("__debug__" : Str)) = false := by decide) :
    CvOk ca C (.ExceptHandler (some (.Name x np)) none (b :: bs) p :: hds) ((.ref (ca x), ⟨mtOf es sub x, none, u⟩) :: l) :=
  .bare (names_at hg (Er.at_ x hx) hdb) (fun n b h => by rw [← (mtOf_some h).2]; exact Er.exm n (mtOf_some h).1 x hx) (fun a oe n d pn fs h hz hd => hsu a oe n pn fs) r
theorem ce_xfN (Er : ErrF C.K C.mg ca.f es hs ff sub) (S : InS ca caX C es i a oe n d fs) (hf : f ∈ ff) (hN : C.N[i]? = some y := by rfl) (hv : Vis C.env.scope y := by first | exact Or.inl rfl | exact Or.inr (Or.inl rfl) | exact Or.inr (Or.inr rfl)) (hdb : (y == ("__debug__" : Str)) = false := by decide) (hcd : (y == ("__classdict__" : Str)) = false := by decide)
    (hb : attributeBase (.Name y p) f C.env (eval (.Name y p) C.env) = eval (.Name y p) C.env := by rfl) : CE caX (C.suite a ((a, oe) :: pn)) W (.Attribute (.Name y p) f pos) (E.xf fs f) :=
  ce_xf S.rel (Er.ask n S.mem).2 (Er.no n S.mem f hf) S.z S.dat hN hv hdb hcd hb
theorem ce_xisN (Er : ErrF C.K C.mg ca.f es hs ff sub) (S : InS ca caX C es i a oe n d fs) (hx : x ∈ hs) (hgx : Gl C x) (hg : Gl C "isinstance") (hm : C.mg "isinstance" = none) (hdx : (x == ("__debug__" : Str)) = false := by decide) (hN : C.N[i]? = some y := by rfl) (hv : Vis C.env.scope y := by first | exact Or.inl rfl | exact Or.inr (Or.inl rfl) | exact Or.inr (Or.inr rfl)) (hdb : (y == ("__debug__" : Str)) = false := by decide) (hcd : (y == ("__classdict__" : Str)) = false := by decide)
    (he : starEach [.Name y p1, .Name x p2] C.env = (false, eval (.Name y p1) C.env) :: starEach [.Name x p2] C.env := by rfl) (hpl : (backTo pos (starEach [.Name x p2] C.env)).any (·.1) = false := by rfl) :
    CE caX (C.suite a ((a, oe) :: pn)) W (.Call (.Name "isinstance" p) [.Name y p1, .Name x p2] [] pos) (E.c (.bl (sub n x))) :=
  ce_xis S.rel (Er.ask n S.mem).1 S.z S.dat (pe_glob (X := C.suite a ((a, oe) :: pn)) hgx (Er.at_ x hx) (v := .ref (ca x)) rfl hdx) (fun u h => h) (Er.isi n S.mem x hx) hg hm hN hv hdb hcd he hpl
theorem ce_xisT (Er : ErrF C.K C.mg ca.f es hs ff sub) (S : InS ca caX C es i a oe n d fs) (hgx : Gl C "ValueError") (hmx : C.mg "ValueError" = none) (hg : Gl C "isinstance") (hm : C.mg "isinstance" = none) (hN : C.N[i]? = some y := by rfl) (hv : Vis C.env.scope y := by first | exact Or.inl rfl | exact Or.inr (Or.inl rfl) | exact Or.inr (Or.inr rfl)) (hdb : (y == ("__debug__" : Str)) = false := by decide) (hcd : (y == ("__classdict__" : Str)) = false := by decide)
    (he : starEach [.Name y p1, .Name "ValueError" p2] C.env = (false, eval (.Name y p1) C.env) :: starEach [.Name "ValueError" p2] C.env := by rfl) (hpl : (backTo pos (starEach [.Name "ValueError" p2] C.env)).any (·.1) = false := by rfl) :
    CE caX (C.suite a ((a, oe) :: pn)) W (.Call (.Name "isinstance" p) [.Name y p1, .Name "ValueError" p2] [] pos) (E.c (.bl true)) :=
  ce_xis S.rel (Er.ask n S.mem).1 S.z S.dat (pe_bltn (X := C.suite a ((a, oe) :: pn)) hgx hmx (v := .ty "ValueError") (u := .type "ValueError") (by rfl) rfl) (fun u h => h) (Er.isT n S.mem) hg hm hN hv hdb hcd he hpl
theorem cs_tryN {body : List Stmt} {h0 : ExceptHandler} {g : Sv} {qs : List Clv} (hs : C.stack = C.env :: C.outer) (hf : C.env.frame = some C.env.locals) (hN : C.N.Nodup) (tk : Takes C W)
    (hb : ∀ (W : WX) (pn : List (Addr × Obj)) (xe : Value → Shared → Prop), Takes (C.tr pn xe) W → PassesOwn (model C.prog C.w) C.A C.env xe → CSs ca (C.tr pn xe) W body g)
    (hh : CvOk ca C (h0 :: hds) l) (hq : l.map Prod.snd = qs := by rfl) : CS ca C W (.Try body (h0 :: hds) [] [] pos) (S.tryMany g qs) := hq ▸ cs_tryMany hs hf hN tk hb hh
end
end Vl
namespace K76
open PySem PySem.Spec PyProof.Rows L2 Vl
def top (i : Nat) : Stmt := PySem.Challenge.pw_heldcalls_k76_error_classes.main.body.getD i (.Pass ⟨0, 0, 0, 0⟩)
def frees : List Str := ["ValueError", "abs", "bool", "int", "isinstance", "len", "list", "range", "str", "tuple", "zip"]
def errs : List Str := ["LineError", "BadForm", "Misplaced", "Duplicate", "Unknown", "NotNested", "TooMany", "TooLong", "NoName", "Repeated", "Overfull", "WrongMove", "BadRun", "NoThread", "MustWait", "Refused", "Deadlocked", "NoRequest", "NoContext", "NoRunCycle", "Clash", "NoLockOrder"]
def errH : List Str := ["HeldError", "LineError", "BadForm", "Misplaced", "Duplicate", "Unknown", "NotNested", "TooMany", "TooLong", "NoName", "Repeated", "Overfull", "WrongMove", "BadRun", "NoThread", "MustWait", "Refused", "Deadlocked", "NoRequest", "NoContext", "NoRunCycle", "Clash", "NoLockOrder"]
def errFf : List Str := ["number", "name", "move", "at", "thread", "lock", "blocker", "cycle", "request", "context"]
def sups : List (Str × List Str) := [("LineError", ["LineError", "HeldError"]), ("BadForm", ["BadForm", "LineError", "HeldError"]), ("Misplaced", ["Misplaced", "LineError", "HeldError"]), ("Duplicate", ["Duplicate", "LineError", "HeldError"]), ("Unknown", ["Unknown", "LineError", "HeldError"]), ("NotNested", ["NotNested", "LineError", "HeldError"]), ("TooMany", ["TooMany", "LineError", "HeldError"]), ("TooLong", ["TooLong", "LineError", "HeldError"]), ("NoName", ["NoName", "HeldError"]), ("Repeated", ["Repeated", "HeldError"]), ("Overfull", ["Overfull", "HeldError"]), ("WrongMove", ["WrongMove", "HeldError"]), ("BadRun", ["BadRun", "HeldError"]), ("NoThread", ["NoThread", "HeldError"]), ("MustWait", ["MustWait", "HeldError"]), ("Refused", ["Refused", "HeldError"]), ("Deadlocked", ["Deadlocked", "HeldError"]), ("NoRequest", ["NoRequest", "HeldError"]), ("NoContext", ["NoContext", "HeldError"]), ("NoRunCycle", ["NoRunCycle", "HeldError"]), ("Clash", ["Clash", "HeldError"]), ("NoLockOrder", ["NoLockOrder", "HeldError"])]
def sub (c x : Str) : Bool := ((sups.lookup c).getD []).contains x
section
variable {Pg : Program} {w : World} {K : PySem.W.Frag} {mg : Str → Option Value} {base : Heap} {cf : Str → Addr} {f : Addr} {fd : FuncData}
abbrev st_law_numbers : Stmt := top 25
def N_law_numbers : List Str := ["script", "at", "many", "cell", "skip", "size", "found", "k", "mixed"]
theorem nd_law_numbers : N_law_numbers.Nodup := by decide +kernel
def b_law_numbers_1 : Sv := (S.seq (S.asg (E.bin D.mod (E.args D.int_ (E.cons (E.bin D.mul (E.at (P.var 5)) (E.bin D.add (E.c (.int 48271)) (E.bin D.mul (E.c (.int 69621)) (E.bin D.add (E.at (P.var 7)) (E.at (P.var 4)))))) E.nil)) (E.c (.int 2147483647))) (G.name 8)) (S.seq (S.append (P.var 6) (E.bin D.mod (E.args D.int_ (E.cons (E.bin D.mul (E.bin D.mul (E.at (P.var 8)) (E.at (P.var 8))) (E.c (.int 16807))) E.nil)) (E.c (.int 2147483629)))) S.nil))
def b_law_numbers_2 : Sv := (S.seq (S.append (P.var 6) (E.bin D.mod (E.args D.int_ (E.cons (E.at (P.var 5)) E.nil)) (E.c (.int 100)))) (S.seq (S.asg (E.bin D.fdiv (E.at (P.var 5)) (E.c (.int 100))) (G.name 5)) S.nil))
def g_law_numbers : Sv := (S.seq (S.asg (E.c (.int 0)) (G.name 3)) (S.seq (S.asg (E.c (.int 0)) (G.name 4)) (S.seq (S.ite (E.bin D.lt (E.at (P.var 1)) (E.args D.len (E.cons (E.at (P.var 0)) E.nil))) (S.seq (S.asg (E.bin D.idx (E.at (P.var 0)) (E.at (P.var 1))) (G.name 3)) S.nil) (S.seq (S.ite (E.and (E.bin D.gt (E.args D.len (E.cons (E.at (P.var 0)) E.nil)) (E.c (.int 0))) (E.bin D.lt (E.args D.abs (E.cons (E.bin D.idx (E.at (P.var 0)) (E.bin D.mod (E.args D.int_ (E.cons (E.at (P.var 1)) E.nil)) (E.args D.len (E.cons (E.at (P.var 0)) E.nil)))) E.nil)) (E.bin D.pow (E.c (.int 10)) (E.c (.int 18))))) (S.seq (S.asg (E.bin D.idx (E.at (P.var 0)) (E.bin D.mod (E.args D.int_ (E.cons (E.at (P.var 1)) E.nil)) (E.args D.len (E.cons (E.at (P.var 0)) E.nil)))) (G.name 3)) (S.seq (S.asg (E.bin D.mul (E.c (.int 60)) (E.at (P.var 1))) (G.name 4)) S.nil)) S.nil) S.nil)) (S.seq (S.asg (E.bin D.add (E.args D.abs (E.cons (E.at (P.var 3)) E.nil)) (E.args D.int_ (E.cons (E.bin D.lt (E.at (P.var 3)) (E.c (.int 0))) E.nil))) (G.name 5)) (S.seq (S.asg (E.args D.mkl E.nil) (G.name 6)) (S.seq (S.ite (E.bin D.lt (E.at (P.var 5)) (E.bin D.pow (E.c (.int 10)) (E.c (.int 18)))) (S.seq (S.for_ (I.range1 (E.cons (E.at (P.var 2)) E.nil)) (G.name 7) b_law_numbers_1) (S.seq (S.ret (E.tk (P.var 6))) S.nil)) S.nil) (S.seq (S.for_ (I.range1 (E.cons (E.at (P.var 2)) E.nil)) (G.name 7) b_law_numbers_2) (S.seq (S.ret (E.tk (P.var 6))) S.nil))))))))
def c_law_numbers : Fc := ⟨3, [], runF [] 9 g_law_numbers⟩
theorem sc_law_numbers : FnScope N_law_numbers ["script", "at", "many"] (defScope st_law_numbers) := ⟨rfl, rfl, rfl, nd_law_numbers, rfl, by decide +kernel, by decide +kernel⟩
theorem ok_law_numbers (Fx : FunD K "_law_numbers" "_law_numbers" (defArgs st_law_numbers) (defBody st_law_numbers) (defScope st_law_numbers) [] [] f fd) (gx : mg "_law_numbers" = some (.ref f)) (hB : ∀ x ∈ frees, mg x = none) : Cal Pg w K mg base cf 1 "_law_numbers" c_law_numbers [] := by
  refine ⟨f, fd, ["script", "at", "many"], [], fn_ok (ms := []) Fx sc_law_numbers (by decide) (fun fx cdv A outer s H E hr hfx => ?_), gx, Fx.kp, Fx.bindsN fun _ _ _ _ _ _ us hl => match us, hl with | [_, _, _], _ => rfl, .nil⟩
  have tk := takes_of (X := cxOf (L2.CX Pg w) Pg w K mg base N_law_numbers "_law_numbers" (defScope st_law_numbers) f cdv A outer s H E) rfl rfl rfl rfl
  exact (css_cons (by exact (cs_asg ce_int (cg_name (nofix hfx (by decide)) nd_law_numbers)))
  (css_cons (by exact (cs_asg ce_int (cg_name (nofix hfx (by decide)) nd_law_numbers)))
  (css_cons (by exact (cs_ite (And.right (cb_lt (ce_at cp_var) (ce_callB opn_len rfl (hB "len" (by decide)) boot_len (ca_cons (ce_at cp_var) ca_nil)))) (css_cons (by exact (cs_asg (ce_ix hr.units (ce_at cp_var) (ce_at cp_var)) (cg_name (nofix hfx (by decide)) nd_law_numbers)))
  css_nil) (css_cons (by exact (cs_ite (ct_w (cw_and (And.right (cb_gt (ce_callB opn_len rfl (hB "len" (by decide)) boot_len (ca_cons (ce_at cp_var) ca_nil)) ce_int)) (cw_and1 (And.right (cb_lt (ce_callB opn_abs rfl (hB "abs" (by decide)) boot_abs (ca_cons (ce_ix hr.units (ce_at cp_var) (ce_mod (ce_callTy opn_int rfl (hB "int" (by decide)) boot_int (ca_cons (ce_at cp_var) ca_nil)) (ce_callB opn_len rfl (hB "len" (by decide)) boot_len (ca_cons (ce_at cp_var) ca_nil)))) ca_nil)) (ce_pow ce_int ce_int)))))) (css_cons (by exact (cs_asg (ce_ix hr.units (ce_at cp_var) (ce_mod (ce_callTy opn_int rfl (hB "int" (by decide)) boot_int (ca_cons (ce_at cp_var) ca_nil)) (ce_callB opn_len rfl (hB "len" (by decide)) boot_len (ca_cons (ce_at cp_var) ca_nil)))) (cg_name (nofix hfx (by decide)) nd_law_numbers)))
  (css_cons (by exact (cs_asg (ce_mul ce_int (ce_at cp_var)) (cg_name (nofix hfx (by decide)) nd_law_numbers)))
  css_nil)) css_nil))
  css_nil)))
  (css_cons (by exact (cs_asg (ce_add (ce_callB opn_abs rfl (hB "abs" (by decide)) boot_abs (ca_cons (ce_at cp_var) ca_nil)) (ce_callTy opn_int rfl (hB "int" (by decide)) boot_int (ca_cons (And.left (cb_lt (ce_at cp_var) ce_int)) ca_nil))) (cg_name (nofix hfx (by decide)) nd_law_numbers)))
  (css_cons (by exact (cs_asg (ce_lst ca_nil) (cg_name (nofix hfx (by decide)) nd_law_numbers)))
  (css_cons (by exact (cs_ite (And.right (cb_lt (ce_at cp_var) (ce_pow ce_int ce_int))) (css_cons (by exact (cs_for (passes_of rfl) rfl (ci_range1 rfl (hB "range" (by decide)) (ca_cons (ce_at cp_var) ca_nil)) (cg_name (nofix hfx (by decide)) nd_law_numbers) (css_cons (by exact (cs_asg (ce_mod (ce_callTy opn_int rfl (hB "int" (by decide)) boot_int (ca_cons (ce_mul (ce_at cp_var) (ce_add ce_int (ce_mul ce_int (ce_add (ce_at cp_var) (ce_at cp_var))))) ca_nil)) ce_int) (cg_name (nofix hfx (by decide)) nd_law_numbers)))
  (css_cons (by exact (cs_lm1 PySem.F.slot_list_append PySem.F.type_list_append mt_append lm_append cp_var (ce_mod (ce_callTy opn_int rfl (hB "int" (by decide)) boot_int (ca_cons (ce_mul (ce_mul (ce_at cp_var) (ce_at cp_var)) ce_int) ca_nil)) ce_int)))
  css_nil))))
  (css_cons (by exact (cs_ret (ce_tk cp_var)))
  css_nil)) css_nil))
  (css_cons (by exact (cs_for (passes_of rfl) rfl (ci_range1 rfl (hB "range" (by decide)) (ca_cons (ce_at cp_var) ca_nil)) (cg_name (nofix hfx (by decide)) nd_law_numbers) (css_cons (by exact (cs_lm1 PySem.F.slot_list_append PySem.F.type_list_append mt_append lm_append cp_var (ce_mod (ce_callTy opn_int rfl (hB "int" (by decide)) boot_int (ca_cons (ce_at cp_var) ca_nil)) ce_int)))
  (css_cons (by exact (cs_asg (ce_fdiv (ce_at cp_var) ce_int) (cg_name (nofix hfx (by decide)) nd_law_numbers)))
  css_nil))))
  (css_cons (by exact (cs_ret (ce_tk cp_var)))
  css_nil))))))))
abbrev st_law_names : Stmt := top 26
def N_law_names : List Str := ["start", "step", "words", "k"]
theorem nd_law_names : N_law_names.Nodup := by decide +kernel
def g_law_names : Sv := (S.seq (S.asg (E.args D.mkl (E.cons (E.c (.str "end")) (E.cons (E.c (.str "a")) (E.cons (E.c (.str "invoke")) (E.cons (E.c (.str "start")) (E.cons (E.c (.str "hook")) (E.cons (E.c (.str "release")) (E.cons (E.c (.str "callback")) (E.cons (E.c (.str "call")) (E.cons (E.c (.str "skip")) (E.cons (E.c (.str "baaaaaaa")) (E.cons (E.c (.str "acquire")) (E.cons (E.c (.str "return")) (E.cons (E.c (.str "done")) (E.cons (E.c (.str "entry")) E.nil))))))))))))))) (G.name 2)) (S.seq (S.ret (E.lc (I.range1 (E.cons (E.c (.int 14)) E.nil)) [3] (G.name 3) E.yes (E.bin D.idx (E.at (P.var 2)) (E.bin D.mod (E.args D.int_ (E.cons (E.bin D.add (E.at (P.var 0)) (E.bin D.mul (E.bin D.idx (E.args D.mkl (E.cons (E.c (.int 1)) (E.cons (E.c (.int 3)) (E.cons (E.c (.int 5)) (E.cons (E.c (.int 9)) (E.cons (E.c (.int 11)) (E.cons (E.c (.int 13)) E.nil))))))) (E.bin D.mod (E.args D.int_ (E.cons (E.at (P.var 1)) E.nil)) (E.c (.int 6)))) (E.at (P.var 3)))) E.nil)) (E.c (.int 14)))))) S.nil))
def c_law_names : Fc := ⟨2, [], runF [] 4 g_law_names⟩
theorem sc_law_names : FnScope N_law_names ["start", "step"] (defScope st_law_names) := ⟨rfl, rfl, rfl, nd_law_names, rfl, by decide +kernel, by decide +kernel⟩
theorem ok_law_names (Fx : FunD K "_law_names" "_law_names" (defArgs st_law_names) (defBody st_law_names) (defScope st_law_names) [] [] f fd) (gx : mg "_law_names" = some (.ref f)) (hB : ∀ x ∈ frees, mg x = none) : Cal Pg w K mg base cf 1 "_law_names" c_law_names [] := by
  refine ⟨f, fd, ["start", "step"], [], fn_ok (ms := []) Fx sc_law_names (by decide) (fun fx cdv A outer s H E hr hfx => ?_), gx, Fx.kp, Fx.bindsN fun _ _ _ _ _ _ us hl => match us, hl with | [_, _], _ => rfl, .nil⟩
  have tk := takes_of (X := cxOf (L2.CX Pg w) Pg w K mg base N_law_names "_law_names" (defScope st_law_names) f cdv A outer s H E) rfl rfl rfl rfl
  exact (css_cons (by exact (cs_asg (ce_lst (ca_cons ce_str (ca_cons ce_str (ca_cons ce_str (ca_cons ce_str (ca_cons ce_str (ca_cons ce_str (ca_cons ce_str (ca_cons ce_str (ca_cons ce_str (ca_cons ce_str (ca_cons ce_str (ca_cons ce_str (ca_cons ce_str (ca_cons ce_str ca_nil))))))))))))))) (cg_name (nofix hfx (by decide)) nd_law_names)))
  (css_cons (by exact (cs_ret (ce_lc (own := [("k", 3)]) rfl (nofixL hfx (by decide)) (by decide) rfl nd_law_names (ci_range1 rfl (hB "range" (by decide)) (ca_cons ce_int ca_nil)) (blkOk_by (N := N_law_names) (sc := defScope st_law_names) (by decide +kernel)) (pu_bin (pu_at pu_var) (pu_bin (pu_args (pu_cons (pu_bin (pu_at pu_var) (pu_bin (pu_bin (pu_args (pu_cons pu_c (pu_cons pu_c (pu_cons pu_c (pu_cons pu_c (pu_cons pu_c (pu_cons pu_c pu_nil))))))) (pu_bin (pu_args (pu_cons (pu_at pu_var) pu_nil)) pu_c)) (pu_at pu_var))) pu_nil)) pu_c)) pure_yes (fun _ _ _ _ _ => (cg_name (nofix hfx (by decide)) nd_law_names)) (fun _ _ _ _ _ => cts_nil) (fun _ _ _ _ _ => (ce_ix hr.units (ce_at cp_var) (ce_mod (ce_callTy opn_int rfl (hB "int" (by decide)) boot_int (ca_cons (ce_add (ce_at cp_var) (ce_mul (ce_ix hr.units (ce_lst (ca_cons ce_int (ca_cons ce_int (ca_cons ce_int (ca_cons ce_int (ca_cons ce_int (ca_cons ce_int ca_nil))))))) (ce_mod (ce_callTy opn_int rfl (hB "int" (by decide)) boot_int (ca_cons (ce_at cp_var) ca_nil)) ce_int)) (ce_at cp_var))) ca_nil)) ce_int))))))
  css_nil))
abbrev st_law_leaf : Stmt := top 27
def N_law_leaf : List Str := ["told", "due"]
theorem nd_law_leaf : N_law_leaf.Nodup := by decide +kernel
def g_law_leaf : Sv := (S.seq (S.ite (E.bin D.isN (E.at (P.var 1)) (E.c .non)) (S.seq (S.ret (E.bin D.isN (E.at (P.var 0)) (E.c .non))) S.nil) S.nil) (S.seq (S.ite (E.un D.tru (E.isi "bool" (E.at (P.var 1)))) (S.seq (S.ret (E.and (E.isi "bool" (E.at (P.var 0))) (E.bin D.eq (E.at (P.var 0)) (E.at (P.var 1))))) S.nil) S.nil) (S.seq (S.ite (E.un D.tru (E.isi "int" (E.at (P.var 1)))) (S.seq (S.ret (E.and (E.isi "int" (E.at (P.var 0))) (E.and (E.un D.not (E.isi "bool" (E.at (P.var 0)))) (E.bin D.eq (E.at (P.var 0)) (E.at (P.var 1)))))) S.nil) S.nil) (S.seq (S.ret (E.and (E.isi "str" (E.at (P.var 0))) (E.bin D.eq (E.at (P.var 0)) (E.at (P.var 1))))) S.nil))))
def c_law_leaf : Fc := ⟨2, [], runF [] 2 g_law_leaf⟩
theorem sc_law_leaf : FnScope N_law_leaf ["told", "due"] (defScope st_law_leaf) := ⟨rfl, rfl, rfl, nd_law_leaf, rfl, by decide +kernel, by decide +kernel⟩
theorem ok_law_leaf (Fx : FunD K "_law_leaf" "_law_leaf" (defArgs st_law_leaf) (defBody st_law_leaf) (defScope st_law_leaf) [] [] f fd) (gx : mg "_law_leaf" = some (.ref f)) (hB : ∀ x ∈ frees, mg x = none) : Cal Pg w K mg base cf 1 "_law_leaf" c_law_leaf [] := by
  refine ⟨f, fd, ["told", "due"], [], fn_ok (ms := []) Fx sc_law_leaf (by decide) (fun fx cdv A outer s H E hr hfx => ?_), gx, Fx.kp, Fx.bindsN fun _ _ _ _ _ _ us hl => match us, hl with | [_, _], _ => rfl, .nil⟩
  have tk := takes_of (X := cxOf (L2.CX Pg w) Pg w K mg base N_law_leaf "_law_leaf" (defScope st_law_leaf) f cdv A outer s H E) rfl rfl rfl rfl
  exact (css_cons (by exact (cs_ite (And.right (cb_is (ce_at cp_var) ce_non)) (css_cons (by exact (cs_ret (And.left (cb_is (ce_at cp_var) ce_non))))
  css_nil) css_nil))
  (css_cons (by exact (cs_ite (ct_truth (ce_isi ask_bool (ce_at cp_var) rfl (hB "isinstance" (by decide)) rfl (hB "bool" (by decide)) boot_bool)) (css_cons (by exact (cs_ret (ce_and (ce_isi ask_bool (ce_at cp_var) rfl (hB "isinstance" (by decide)) rfl (hB "bool" (by decide)) boot_bool) (ce_one (And.left (cb_eq hr.units (ce_at cp_var) (ce_at cp_var)))))))
  css_nil) css_nil))
  (css_cons (by exact (cs_ite (ct_truth (ce_isi ask_int (ce_at cp_var) rfl (hB "isinstance" (by decide)) rfl (hB "int" (by decide)) boot_int)) (css_cons (by exact (cs_ret (ce_and (ce_isi ask_int (ce_at cp_var) rfl (hB "isinstance" (by decide)) rfl (hB "int" (by decide)) boot_int) (ce_and (ce_not (ce_isi ask_bool (ce_at cp_var) rfl (hB "isinstance" (by decide)) rfl (hB "bool" (by decide)) boot_bool)) (ce_one (And.left (cb_eq hr.units (ce_at cp_var) (ce_at cp_var))))))))
  css_nil) css_nil))
  (css_cons (by exact (cs_ret (ce_and (ce_isi ask_str (ce_at cp_var) rfl (hB "isinstance" (by decide)) rfl (hB "str" (by decide)) boot_str) (ce_one (And.left (cb_eq hr.units (ce_at cp_var) (ce_at cp_var)))))))
  css_nil))))
abbrev st_law_same : Stmt := top 28
def N_law_same : List Str := ["told", "due", "pairs", "depth", "inner", "one", "two"]
theorem nd_law_same : N_law_same.Nodup := by decide +kernel
def b_law_same_1 : Sv := (S.seq (S.ite (E.or (E.un D.tru (E.isi "tuple" (E.at (P.var 6)))) (E.un D.tru (E.isi "list" (E.at (P.var 6))))) (S.seq (S.ite (E.and (E.un D.tru (E.isi "tuple" (E.at (P.var 6)))) (E.un D.not (E.un D.tru (E.isi "tuple" (E.at (P.var 5)))))) (S.seq (S.ret (E.c (.bl false))) S.nil) S.nil) (S.seq (S.ite (E.and (E.un D.tru (E.isi "list" (E.at (P.var 6)))) (E.un D.not (E.un D.tru (E.isi "list" (E.at (P.var 5)))))) (S.seq (S.ret (E.c (.bl false))) S.nil) S.nil) (S.seq (S.ite (E.bin D.ne (E.args D.len (E.cons (E.at (P.var 5)) E.nil)) (E.args D.len (E.cons (E.at (P.var 6)) E.nil))) (S.seq (S.ret (E.c (.bl false))) S.nil) S.nil) (S.seq (S.extend (P.var 4) (E.args D.lzip (E.cons (E.at (P.var 5)) (E.cons (E.at (P.var 6)) E.nil)))) S.nil)))) (S.seq (S.ite (E.un D.not (E.un D.tru (E.call c_law_leaf [] (E.cons (E.tk (P.var 5)) (E.cons (E.tk (P.var 6)) E.nil))))) (S.seq (S.ret (E.c (.bl false))) S.nil) S.nil) S.nil)) S.nil)
def b_law_same_2 : Sv := (S.seq (S.asg (E.args D.mkl E.nil) (G.name 4)) (S.seq (S.for_ (I.ofp (P.var 2) (E.tk (P.var 2))) (G.tup [(G.name 5), (G.name 6)]) b_law_same_1) (S.seq (S.asg (E.args D.list_ (E.cons (E.at (P.var 4)) E.nil)) (G.name 2)) S.nil)))
def g_law_same : Sv := (S.seq (S.asg (E.args D.mkl (E.cons (E.args D.mkt (E.cons (E.tk (P.var 0)) (E.cons (E.tk (P.var 1)) E.nil))) E.nil)) (G.name 2)) (S.seq (S.for_ (I.range1 (E.cons (E.c (.int 7)) E.nil)) (G.name 3) b_law_same_2) (S.seq (S.ret (E.bin D.eq (E.args D.len (E.cons (E.at (P.var 2)) E.nil)) (E.c (.int 0)))) S.nil)))
def c_law_same : Fc := ⟨2, [], runF [] 7 g_law_same⟩
theorem sc_law_same : FnScope N_law_same ["told", "due"] (defScope st_law_same) := ⟨rfl, rfl, rfl, nd_law_same, rfl, by decide +kernel, by decide +kernel⟩
theorem ok_law_same (Fx : FunD K "_law_same" "_law_same" (defArgs st_law_same) (defBody st_law_same) (defScope st_law_same) [] [] f fd) (gx : mg "_law_same" = some (.ref f)) (hB : ∀ x ∈ frees, mg x = none) (cal__law_leaf : Cal Pg w K mg base cf 1 "_law_leaf" c_law_leaf []) : Cal Pg w K mg base cf 2 "_law_same" c_law_same [] := by
  refine ⟨f, fd, ["told", "due"], [], fn_ok (ms := []) Fx sc_law_same (by decide) (fun fx cdv A outer s H E hr hfx => ?_), gx, Fx.kp, Fx.bindsN fun _ _ _ _ _ _ us hl => match us, hl with | [_, _], _ => rfl, .nil⟩
  have tk := takes_of (X := cxOf (L2.CX Pg w) Pg w K mg base N_law_same "_law_same" (defScope st_law_same) f cdv A outer s H E) rfl rfl rfl rfl
  exact (css_cons (by exact (cs_asg (ce_lst (ca_cons (ce_tup (ca_cons (ce_tk cp_var) (ca_cons (ce_tk cp_var) ca_nil))) ca_nil)) (cg_name (nofix hfx (by decide)) nd_law_same)))
  (css_cons (by exact (cs_for (passes_of rfl) rfl (ci_range1 rfl (hB "range" (by decide)) (ca_cons ce_int ca_nil)) (cg_name (nofix hfx (by decide)) nd_law_same) (css_cons (by exact (cs_asg (ce_lst ca_nil) (cg_name (nofix hfx (by decide)) nd_law_same)))
  (css_cons (by exact (cs_for (passes_of rfl) rfl (ci_ofp cp_var (ce_tk cp_var)) (cg_tup rfl (cgs_cons (cg_name (nofix hfx (by decide)) nd_law_same) (cgs_cons (cg_name (nofix hfx (by decide)) nd_law_same) cgs_nil))) (css_cons (by exact (cs_ite (ct_w (cw_or (ct_truth (ce_isi ask_tuple (ce_at cp_var) rfl (hB "isinstance" (by decide)) rfl (hB "tuple" (by decide)) boot_tuple)) (cw_or1 (ct_truth (ce_isi ask_list (ce_at cp_var) rfl (hB "isinstance" (by decide)) rfl (hB "list" (by decide)) boot_list))))) (css_cons (by exact (cs_ite (ct_w (cw_and (ct_truth (ce_isi ask_tuple (ce_at cp_var) rfl (hB "isinstance" (by decide)) rfl (hB "tuple" (by decide)) boot_tuple)) (cw_and1 (ct_not (ct_truth (ce_isi ask_tuple (ce_at cp_var) rfl (hB "isinstance" (by decide)) rfl (hB "tuple" (by decide)) boot_tuple)))))) (css_cons (by exact (cs_ret ce_bl))
  css_nil) css_nil))
  (css_cons (by exact (cs_ite (ct_w (cw_and (ct_truth (ce_isi ask_list (ce_at cp_var) rfl (hB "isinstance" (by decide)) rfl (hB "list" (by decide)) boot_list)) (cw_and1 (ct_not (ct_truth (ce_isi ask_list (ce_at cp_var) rfl (hB "isinstance" (by decide)) rfl (hB "list" (by decide)) boot_list)))))) (css_cons (by exact (cs_ret ce_bl))
  css_nil) css_nil))
  (css_cons (by exact (cs_ite (And.right (cb_ne hr.units (ce_callB opn_len rfl (hB "len" (by decide)) boot_len (ca_cons (ce_at cp_var) ca_nil)) (ce_callB opn_len rfl (hB "len" (by decide)) boot_len (ca_cons (ce_at cp_var) ca_nil)))) (css_cons (by exact (cs_ret ce_bl))
  css_nil) css_nil))
  (css_cons (by exact (cs_lm1 PySem.F.slot_list_extend PySem.F.type_list_extend mt_extend lm_extend cp_var (ce_lzip rfl rfl (hB "list" (by decide)) rfl (hB "zip" (by decide)) (ca_cons (ce_at cp_var) (ca_cons (ce_at cp_var) ca_nil)))))
  css_nil)))) (css_cons (by exact (cs_ite (ct_not (ct_truth (ce_callN cal__law_leaf hr (by decide) rfl tk (ca_cons (ce_tk cp_var) (ca_cons (ce_tk cp_var) ca_nil))))) (css_cons (by exact (cs_ret ce_bl))
  css_nil) css_nil))
  css_nil)))
  css_nil)))
  (css_cons (by exact (cs_asg (ce_callTy opn_list rfl (hB "list" (by decide)) boot_list (ca_cons (ce_at cp_var) ca_nil)) (cg_name (nofix hfx (by decide)) nd_law_same)))
  css_nil)))))
  (css_cons (by exact (cs_ret (And.left (cb_eq hr.units (ce_callB opn_len rfl (hB "len" (by decide)) boot_len (ca_cons (ce_at cp_var) ca_nil)) ce_int))))
  css_nil)))
abbrev st_law_raise : Stmt := top 29
def N_law_raise : List Str := ["k", "one", "two"]
theorem nd_law_raise : N_law_raise.Nodup := by decide +kernel
def g_law_raise : Sv := (S.seq (S.ite (E.bin D.eq (E.at (P.var 0)) (E.c (.int 0))) (S.seq (S.raise "BadForm" ["number"] (E.cons (E.tk (P.var 1)) E.nil)) S.nil) S.nil) (S.seq (S.ite (E.bin D.eq (E.at (P.var 0)) (E.c (.int 1))) (S.seq (S.raise "Misplaced" ["number"] (E.cons (E.tk (P.var 1)) E.nil)) S.nil) S.nil) (S.seq (S.ite (E.bin D.eq (E.at (P.var 0)) (E.c (.int 2))) (S.seq (S.raise "Duplicate" ["number"] (E.cons (E.tk (P.var 1)) E.nil)) S.nil) S.nil) (S.seq (S.ite (E.bin D.eq (E.at (P.var 0)) (E.c (.int 3))) (S.seq (S.raise "Unknown" ["number"] (E.cons (E.tk (P.var 1)) E.nil)) S.nil) S.nil) (S.seq (S.ite (E.bin D.eq (E.at (P.var 0)) (E.c (.int 4))) (S.seq (S.raise "NotNested" ["number"] (E.cons (E.tk (P.var 1)) E.nil)) S.nil) S.nil) (S.seq (S.ite (E.bin D.eq (E.at (P.var 0)) (E.c (.int 5))) (S.seq (S.raise "TooMany" ["number"] (E.cons (E.tk (P.var 1)) E.nil)) S.nil) S.nil) (S.seq (S.ite (E.bin D.eq (E.at (P.var 0)) (E.c (.int 6))) (S.seq (S.raise "TooLong" ["number"] (E.cons (E.tk (P.var 1)) E.nil)) S.nil) S.nil) (S.seq (S.ite (E.bin D.eq (E.at (P.var 0)) (E.c (.int 7))) (S.seq (S.raise "NoName" ["name"] (E.cons (E.tk (P.var 1)) E.nil)) S.nil) S.nil) (S.seq (S.ite (E.bin D.eq (E.at (P.var 0)) (E.c (.int 8))) (S.seq (S.raise "Repeated" ["name"] (E.cons (E.tk (P.var 1)) E.nil)) S.nil) S.nil) (S.seq (S.ite (E.bin D.eq (E.at (P.var 0)) (E.c (.int 9))) (S.seq (S.raise0 "Overfull") S.nil) S.nil) (S.seq (S.ite (E.bin D.eq (E.at (P.var 0)) (E.c (.int 10))) (S.seq (S.raise "WrongMove" ["move"] (E.cons (E.tk (P.var 1)) E.nil)) S.nil) S.nil) (S.seq (S.ite (E.bin D.eq (E.at (P.var 0)) (E.c (.int 11))) (S.seq (S.raise "BadRun" ["at"] (E.cons (E.tk (P.var 1)) E.nil)) S.nil) S.nil) (S.seq (S.ite (E.bin D.eq (E.at (P.var 0)) (E.c (.int 12))) (S.seq (S.raise "NoThread" ["thread"] (E.cons (E.tk (P.var 1)) E.nil)) S.nil) S.nil) (S.seq (S.ite (E.bin D.eq (E.at (P.var 0)) (E.c (.int 13))) (S.seq (S.raise "MustWait" ["lock", "blocker"] (E.cons (E.tk (P.var 1)) (E.cons (E.tk (P.var 2)) E.nil))) S.nil) S.nil) (S.seq (S.ite (E.bin D.eq (E.at (P.var 0)) (E.c (.int 14))) (S.seq (S.raise "Refused" ["at"] (E.cons (E.tk (P.var 1)) E.nil)) S.nil) S.nil) (S.seq (S.ite (E.bin D.eq (E.at (P.var 0)) (E.c (.int 15))) (S.seq (S.raise "Deadlocked" ["cycle"] (E.cons (E.tk (P.var 1)) E.nil)) S.nil) S.nil) (S.seq (S.ite (E.bin D.eq (E.at (P.var 0)) (E.c (.int 16))) (S.seq (S.raise "NoRequest" ["request"] (E.cons (E.tk (P.var 1)) E.nil)) S.nil) S.nil) (S.seq (S.ite (E.bin D.eq (E.at (P.var 0)) (E.c (.int 17))) (S.seq (S.raise "NoContext" ["context"] (E.cons (E.tk (P.var 1)) E.nil)) S.nil) S.nil) (S.seq (S.ite (E.bin D.eq (E.at (P.var 0)) (E.c (.int 18))) (S.seq (S.raise0 "NoRunCycle") S.nil) S.nil) (S.seq (S.ite (E.bin D.eq (E.at (P.var 0)) (E.c (.int 19))) (S.seq (S.raise "Clash" ["cycle"] (E.cons (E.tk (P.var 1)) E.nil)) S.nil) S.nil) (S.seq (S.ite (E.bin D.eq (E.at (P.var 0)) (E.c (.int 20))) (S.seq (S.raise "NoLockOrder" ["cycle"] (E.cons (E.tk (P.var 1)) E.nil)) S.nil) S.nil) (S.seq (S.raise "LineError" ["number"] (E.cons (E.tk (P.var 1)) E.nil)) S.nil))))))))))))))))))))))
def c_law_raise : Fc := ⟨3, [], runF [] 3 g_law_raise⟩
theorem sc_law_raise : FnScope N_law_raise ["k", "one", "two"] (defScope st_law_raise) := ⟨rfl, rfl, rfl, nd_law_raise, rfl, by decide +kernel, by decide +kernel⟩
theorem ok_law_raise (Fx : FunD K "_law_raise" "_law_raise" (defArgs st_law_raise) (defBody st_law_raise) (defScope st_law_raise) [] [] f fd) (gx : mg "_law_raise" = some (.ref f)) (hB : ∀ x ∈ frees, mg x = none) (rs_BadForm : Rsn Pg w K mg base cf "BadForm" ["number"]) (rs_Misplaced : Rsn Pg w K mg base cf "Misplaced" ["number"]) (rs_Duplicate : Rsn Pg w K mg base cf "Duplicate" ["number"]) (rs_Unknown : Rsn Pg w K mg base cf "Unknown" ["number"]) (rs_NotNested : Rsn Pg w K mg base cf "NotNested" ["number"]) (rs_TooMany : Rsn Pg w K mg base cf "TooMany" ["number"]) (rs_TooLong : Rsn Pg w K mg base cf "TooLong" ["number"]) (rs_NoName : Rsn Pg w K mg base cf "NoName" ["name"]) (rs_Repeated : Rsn Pg w K mg base cf "Repeated" ["name"]) (r0_Overfull : R0n K mg cf "Overfull") (rs_WrongMove : Rsn Pg w K mg base cf "WrongMove" ["move"]) (rs_BadRun : Rsn Pg w K mg base cf "BadRun" ["at"]) (rs_NoThread : Rsn Pg w K mg base cf "NoThread" ["thread"]) (rs_MustWait : Rsn Pg w K mg base cf "MustWait" ["lock", "blocker"]) (rs_Refused : Rsn Pg w K mg base cf "Refused" ["at"]) (rs_Deadlocked : Rsn Pg w K mg base cf "Deadlocked" ["cycle"]) (rs_NoRequest : Rsn Pg w K mg base cf "NoRequest" ["request"]) (rs_NoContext : Rsn Pg w K mg base cf "NoContext" ["context"]) (r0_NoRunCycle : R0n K mg cf "NoRunCycle") (rs_Clash : Rsn Pg w K mg base cf "Clash" ["cycle"]) (rs_NoLockOrder : Rsn Pg w K mg base cf "NoLockOrder" ["cycle"]) (rs_LineError : Rsn Pg w K mg base cf "LineError" ["number"]) : Cal Pg w K mg base cf 3 "_law_raise" c_law_raise [] := by
  refine ⟨f, fd, ["k", "one", "two"], [], fn_ok (ms := []) Fx sc_law_raise (by decide) (fun fx cdv A outer s H E hr hfx => ?_), gx, Fx.kp, Fx.bindsN fun _ _ _ _ _ _ us hl => match us, hl with | [_, _, _], _ => rfl, .nil⟩
  have tk := takes_of (X := cxOf (L2.CX Pg w) Pg w K mg base N_law_raise "_law_raise" (defScope st_law_raise) f cdv A outer s H E) rfl rfl rfl rfl
  exact (css_cons (by exact (cs_ite (And.right (cb_eq hr.units (ce_at cp_var) ce_int)) (css_cons (by exact (cs_raiseN rs_BadForm rfl hr (by decide) tk rfl (ca_cons (ce_tk cp_var) ca_nil)))
  css_nil) css_nil))
  (css_cons (by exact (cs_ite (And.right (cb_eq hr.units (ce_at cp_var) ce_int)) (css_cons (by exact (cs_raiseN rs_Misplaced rfl hr (by decide) tk rfl (ca_cons (ce_tk cp_var) ca_nil)))
  css_nil) css_nil))
  (css_cons (by exact (cs_ite (And.right (cb_eq hr.units (ce_at cp_var) ce_int)) (css_cons (by exact (cs_raiseN rs_Duplicate rfl hr (by decide) tk rfl (ca_cons (ce_tk cp_var) ca_nil)))
  css_nil) css_nil))
  (css_cons (by exact (cs_ite (And.right (cb_eq hr.units (ce_at cp_var) ce_int)) (css_cons (by exact (cs_raiseN rs_Unknown rfl hr (by decide) tk rfl (ca_cons (ce_tk cp_var) ca_nil)))
  css_nil) css_nil))
  (css_cons (by exact (cs_ite (And.right (cb_eq hr.units (ce_at cp_var) ce_int)) (css_cons (by exact (cs_raiseN rs_NotNested rfl hr (by decide) tk rfl (ca_cons (ce_tk cp_var) ca_nil)))
  css_nil) css_nil))
  (css_cons (by exact (cs_ite (And.right (cb_eq hr.units (ce_at cp_var) ce_int)) (css_cons (by exact (cs_raiseN rs_TooMany rfl hr (by decide) tk rfl (ca_cons (ce_tk cp_var) ca_nil)))
  css_nil) css_nil))
  (css_cons (by exact (cs_ite (And.right (cb_eq hr.units (ce_at cp_var) ce_int)) (css_cons (by exact (cs_raiseN rs_TooLong rfl hr (by decide) tk rfl (ca_cons (ce_tk cp_var) ca_nil)))
  css_nil) css_nil))
  (css_cons (by exact (cs_ite (And.right (cb_eq hr.units (ce_at cp_var) ce_int)) (css_cons (by exact (cs_raiseN rs_NoName rfl hr (by decide) tk rfl (ca_cons (ce_tk cp_var) ca_nil)))
  css_nil) css_nil))
  (css_cons (by exact (cs_ite (And.right (cb_eq hr.units (ce_at cp_var) ce_int)) (css_cons (by exact (cs_raiseN rs_Repeated rfl hr (by decide) tk rfl (ca_cons (ce_tk cp_var) ca_nil)))
  css_nil) css_nil))
  (css_cons (by exact (cs_ite (And.right (cb_eq hr.units (ce_at cp_var) ce_int)) (css_cons (by exact (cs_raise0N r0_Overfull rfl tk rfl))
  css_nil) css_nil))
  (css_cons (by exact (cs_ite (And.right (cb_eq hr.units (ce_at cp_var) ce_int)) (css_cons (by exact (cs_raiseN rs_WrongMove rfl hr (by decide) tk rfl (ca_cons (ce_tk cp_var) ca_nil)))
  css_nil) css_nil))
  (css_cons (by exact (cs_ite (And.right (cb_eq hr.units (ce_at cp_var) ce_int)) (css_cons (by exact (cs_raiseN rs_BadRun rfl hr (by decide) tk rfl (ca_cons (ce_tk cp_var) ca_nil)))
  css_nil) css_nil))
  (css_cons (by exact (cs_ite (And.right (cb_eq hr.units (ce_at cp_var) ce_int)) (css_cons (by exact (cs_raiseN rs_NoThread rfl hr (by decide) tk rfl (ca_cons (ce_tk cp_var) ca_nil)))
  css_nil) css_nil))
  (css_cons (by exact (cs_ite (And.right (cb_eq hr.units (ce_at cp_var) ce_int)) (css_cons (by exact (cs_raiseN rs_MustWait rfl hr (by decide) tk rfl (ca_cons (ce_tk cp_var) (ca_cons (ce_tk cp_var) ca_nil))))
  css_nil) css_nil))
  (css_cons (by exact (cs_ite (And.right (cb_eq hr.units (ce_at cp_var) ce_int)) (css_cons (by exact (cs_raiseN rs_Refused rfl hr (by decide) tk rfl (ca_cons (ce_tk cp_var) ca_nil)))
  css_nil) css_nil))
  (css_cons (by exact (cs_ite (And.right (cb_eq hr.units (ce_at cp_var) ce_int)) (css_cons (by exact (cs_raiseN rs_Deadlocked rfl hr (by decide) tk rfl (ca_cons (ce_tk cp_var) ca_nil)))
  css_nil) css_nil))
  (css_cons (by exact (cs_ite (And.right (cb_eq hr.units (ce_at cp_var) ce_int)) (css_cons (by exact (cs_raiseN rs_NoRequest rfl hr (by decide) tk rfl (ca_cons (ce_tk cp_var) ca_nil)))
  css_nil) css_nil))
  (css_cons (by exact (cs_ite (And.right (cb_eq hr.units (ce_at cp_var) ce_int)) (css_cons (by exact (cs_raiseN rs_NoContext rfl hr (by decide) tk rfl (ca_cons (ce_tk cp_var) ca_nil)))
  css_nil) css_nil))
  (css_cons (by exact (cs_ite (And.right (cb_eq hr.units (ce_at cp_var) ce_int)) (css_cons (by exact (cs_raise0N r0_NoRunCycle rfl tk rfl))
  css_nil) css_nil))
  (css_cons (by exact (cs_ite (And.right (cb_eq hr.units (ce_at cp_var) ce_int)) (css_cons (by exact (cs_raiseN rs_Clash rfl hr (by decide) tk rfl (ca_cons (ce_tk cp_var) ca_nil)))
  css_nil) css_nil))
  (css_cons (by exact (cs_ite (And.right (cb_eq hr.units (ce_at cp_var) ce_int)) (css_cons (by exact (cs_raiseN rs_NoLockOrder rfl hr (by decide) tk rfl (ca_cons (ce_tk cp_var) ca_nil)))
  css_nil) css_nil))
  (css_cons (by exact (cs_raiseN rs_LineError rfl hr (by decide) tk rfl (ca_cons (ce_tk cp_var) ca_nil)))
  css_nil))))))))))))))))))))))
abbrev st_law_kinds : Stmt := top 30
def N_law_kinds : List Str := ["k", "one", "two", "kinds", "e"]
theorem nd_law_kinds : N_law_kinds.Nodup := by decide +kernel
def u_law_kinds_1 : Str → List (Str × D) → Sv := fun n fs => (S.seq (S.asg (E.args D.mkl (E.cons (E.c (.bl (sub n "LineError"))) (E.cons (E.c (.bl (sub n "BadForm"))) (E.cons (E.c (.bl (sub n "Misplaced"))) (E.cons (E.c (.bl (sub n "Duplicate"))) (E.cons (E.c (.bl (sub n "Unknown"))) (E.cons (E.c (.bl (sub n "NotNested"))) (E.cons (E.c (.bl (sub n "TooMany"))) (E.cons (E.c (.bl (sub n "TooLong"))) (E.cons (E.c (.bl (sub n "NoName"))) (E.cons (E.c (.bl (sub n "Repeated"))) (E.cons (E.c (.bl (sub n "Overfull"))) (E.cons (E.c (.bl (sub n "WrongMove"))) (E.cons (E.c (.bl (sub n "BadRun"))) (E.cons (E.c (.bl (sub n "NoThread"))) (E.cons (E.c (.bl (sub n "MustWait"))) (E.cons (E.c (.bl (sub n "Refused"))) (E.cons (E.c (.bl (sub n "Deadlocked"))) (E.cons (E.c (.bl (sub n "NoRequest"))) (E.cons (E.c (.bl (sub n "NoContext"))) (E.cons (E.c (.bl (sub n "NoRunCycle"))) (E.cons (E.c (.bl (sub n "Clash"))) (E.cons (E.c (.bl (sub n "NoLockOrder"))) (E.cons (E.c (.bl true)) E.nil)))))))))))))))))))))))) (G.name 3)) S.nil)
def g_law_kinds : Sv := (S.seq (S.asg (E.args D.mkl E.nil) (G.name 3)) (S.seq (S.tryMany (S.seq (S.ex (E.call c_law_raise [] (E.cons (E.tk (P.var 0)) (E.cons (E.tk (P.var 1)) (E.cons (E.tk (P.var 2)) E.nil))))) S.nil) [⟨mtOf errs sub "HeldError", some 4, u_law_kinds_1⟩]) (S.seq (S.ret (E.tk (P.var 3))) S.nil)))
def c_law_kinds : Fc := ⟨3, [], runF [] 5 g_law_kinds⟩
theorem sc_law_kinds : FnScope N_law_kinds ["k", "one", "two"] (defScope st_law_kinds) := ⟨rfl, rfl, rfl, nd_law_kinds, rfl, by decide +kernel, by decide +kernel⟩
theorem ok_law_kinds (Fx : FunD K "_law_kinds" "_law_kinds" (defArgs st_law_kinds) (defBody st_law_kinds) (defScope st_law_kinds) [] [] f fd) (gx : mg "_law_kinds" = some (.ref f)) (hB : ∀ x ∈ frees, mg x = none) (er_ : ErrF K mg cf errs errH errFf sub) (cal__law_raise : Cal Pg w K mg base cf 3 "_law_raise" c_law_raise []) : Cal Pg w K mg base cf 4 "_law_kinds" c_law_kinds [] := by
  refine ⟨f, fd, ["k", "one", "two"], [], fn_ok (ms := []) Fx sc_law_kinds (by decide) (fun fx cdv A outer s H E hr hfx => ?_), gx, Fx.kp, Fx.bindsN fun _ _ _ _ _ _ us hl => match us, hl with | [_, _, _], _ => rfl, .nil⟩
  have tk := takes_of (X := cxOf (L2.CX Pg w) Pg w K mg base N_law_kinds "_law_kinds" (defScope st_law_kinds) f cdv A outer s H E) rfl rfl rfl rfl
  exact (css_cons (by exact (cs_asg (ce_lst ca_nil) (cg_name (nofix hfx (by decide)) nd_law_kinds)))
  (css_cons (by exact (cs_tryN rfl rfl nd_law_kinds tk (fun _ _ _ tk po => (css_cons (by exact (cs_ex (ce_callN cal__law_raise hr (by decide) rfl tk (ca_cons (ce_tk cp_var) (ca_cons (ce_tk cp_var) (ca_cons (ce_tk cp_var) ca_nil))))))
  css_nil)) (cvN (ca := ⟨cf, fx, [], []⟩) (es := errs) (hs := errH) (ff := errFf) (sub := sub) (i := 4) (x := "HeldError") (u := u_law_kinds_1) er_ (by decide +kernel) rfl (nofix hfx (by decide)) rfl rfl (fun a oe n d pn fs caX hsub S => (css_cons (by exact (cs_asg (ce_lst (ca_cons (ce_xisN (ca := ⟨cf, fx, [], []⟩) (es := errs) (hs := errH) (ff := errFf) (sub := sub) (i := 4) (n := n) (fs := fs) (x := "LineError") er_ S (by decide +kernel) rfl rfl (hB "isinstance" (by decide))) (ca_cons (ce_xisN (ca := ⟨cf, fx, [], []⟩) (es := errs) (hs := errH) (ff := errFf) (sub := sub) (i := 4) (n := n) (fs := fs) (x := "BadForm") er_ S (by decide +kernel) rfl rfl (hB "isinstance" (by decide))) (ca_cons (ce_xisN (ca := ⟨cf, fx, [], []⟩) (es := errs) (hs := errH) (ff := errFf) (sub := sub) (i := 4) (n := n) (fs := fs) (x := "Misplaced") er_ S (by decide +kernel) rfl rfl (hB "isinstance" (by decide))) (ca_cons (ce_xisN (ca := ⟨cf, fx, [], []⟩) (es := errs) (hs := errH) (ff := errFf) (sub := sub) (i := 4) (n := n) (fs := fs) (x := "Duplicate") er_ S (by decide +kernel) rfl rfl (hB "isinstance" (by decide))) (ca_cons (ce_xisN (ca := ⟨cf, fx, [], []⟩) (es := errs) (hs := errH) (ff := errFf) (sub := sub) (i := 4) (n := n) (fs := fs) (x := "Unknown") er_ S (by decide +kernel) rfl rfl (hB "isinstance" (by decide))) (ca_cons (ce_xisN (ca := ⟨cf, fx, [], []⟩) (es := errs) (hs := errH) (ff := errFf) (sub := sub) (i := 4) (n := n) (fs := fs) (x := "NotNested") er_ S (by decide +kernel) rfl rfl (hB "isinstance" (by decide))) (ca_cons (ce_xisN (ca := ⟨cf, fx, [], []⟩) (es := errs) (hs := errH) (ff := errFf) (sub := sub) (i := 4) (n := n) (fs := fs) (x := "TooMany") er_ S (by decide +kernel) rfl rfl (hB "isinstance" (by decide))) (ca_cons (ce_xisN (ca := ⟨cf, fx, [], []⟩) (es := errs) (hs := errH) (ff := errFf) (sub := sub) (i := 4) (n := n) (fs := fs) (x := "TooLong") er_ S (by decide +kernel) rfl rfl (hB "isinstance" (by decide))) (ca_cons (ce_xisN (ca := ⟨cf, fx, [], []⟩) (es := errs) (hs := errH) (ff := errFf) (sub := sub) (i := 4) (n := n) (fs := fs) (x := "NoName") er_ S (by decide +kernel) rfl rfl (hB "isinstance" (by decide))) (ca_cons (ce_xisN (ca := ⟨cf, fx, [], []⟩) (es := errs) (hs := errH) (ff := errFf) (sub := sub) (i := 4) (n := n) (fs := fs) (x := "Repeated") er_ S (by decide +kernel) rfl rfl (hB "isinstance" (by decide))) (ca_cons (ce_xisN (ca := ⟨cf, fx, [], []⟩) (es := errs) (hs := errH) (ff := errFf) (sub := sub) (i := 4) (n := n) (fs := fs) (x := "Overfull") er_ S (by decide +kernel) rfl rfl (hB "isinstance" (by decide))) (ca_cons (ce_xisN (ca := ⟨cf, fx, [], []⟩) (es := errs) (hs := errH) (ff := errFf) (sub := sub) (i := 4) (n := n) (fs := fs) (x := "WrongMove") er_ S (by decide +kernel) rfl rfl (hB "isinstance" (by decide))) (ca_cons (ce_xisN (ca := ⟨cf, fx, [], []⟩) (es := errs) (hs := errH) (ff := errFf) (sub := sub) (i := 4) (n := n) (fs := fs) (x := "BadRun") er_ S (by decide +kernel) rfl rfl (hB "isinstance" (by decide))) (ca_cons (ce_xisN (ca := ⟨cf, fx, [], []⟩) (es := errs) (hs := errH) (ff := errFf) (sub := sub) (i := 4) (n := n) (fs := fs) (x := "NoThread") er_ S (by decide +kernel) rfl rfl (hB "isinstance" (by decide))) (ca_cons (ce_xisN (ca := ⟨cf, fx, [], []⟩) (es := errs) (hs := errH) (ff := errFf) (sub := sub) (i := 4) (n := n) (fs := fs) (x := "MustWait") er_ S (by decide +kernel) rfl rfl (hB "isinstance" (by decide))) (ca_cons (ce_xisN (ca := ⟨cf, fx, [], []⟩) (es := errs) (hs := errH) (ff := errFf) (sub := sub) (i := 4) (n := n) (fs := fs) (x := "Refused") er_ S (by decide +kernel) rfl rfl (hB "isinstance" (by decide))) (ca_cons (ce_xisN (ca := ⟨cf, fx, [], []⟩) (es := errs) (hs := errH) (ff := errFf) (sub := sub) (i := 4) (n := n) (fs := fs) (x := "Deadlocked") er_ S (by decide +kernel) rfl rfl (hB "isinstance" (by decide))) (ca_cons (ce_xisN (ca := ⟨cf, fx, [], []⟩) (es := errs) (hs := errH) (ff := errFf) (sub := sub) (i := 4) (n := n) (fs := fs) (x := "NoRequest") er_ S (by decide +kernel) rfl rfl (hB "isinstance" (by decide))) (ca_cons (ce_xisN (ca := ⟨cf, fx, [], []⟩) (es := errs) (hs := errH) (ff := errFf) (sub := sub) (i := 4) (n := n) (fs := fs) (x := "NoContext") er_ S (by decide +kernel) rfl rfl (hB "isinstance" (by decide))) (ca_cons (ce_xisN (ca := ⟨cf, fx, [], []⟩) (es := errs) (hs := errH) (ff := errFf) (sub := sub) (i := 4) (n := n) (fs := fs) (x := "NoRunCycle") er_ S (by decide +kernel) rfl rfl (hB "isinstance" (by decide))) (ca_cons (ce_xisN (ca := ⟨cf, fx, [], []⟩) (es := errs) (hs := errH) (ff := errFf) (sub := sub) (i := 4) (n := n) (fs := fs) (x := "Clash") er_ S (by decide +kernel) rfl rfl (hB "isinstance" (by decide))) (ca_cons (ce_xisN (ca := ⟨cf, fx, [], []⟩) (es := errs) (hs := errH) (ff := errFf) (sub := sub) (i := 4) (n := n) (fs := fs) (x := "NoLockOrder") er_ S (by decide +kernel) rfl rfl (hB "isinstance" (by decide))) (ca_cons (ce_xisT (ca := ⟨cf, fx, [], []⟩) (es := errs) (hs := errH) (ff := errFf) (sub := sub) (i := 4) (n := n) (fs := fs) er_ S rfl (hB "ValueError" (by decide)) rfl (hB "isinstance" (by decide))) ca_nil)))))))))))))))))))))))) (cg_name (S.fix hfx (by decide) (by decide)) nd_law_kinds)))
  css_nil)) .nil)))
  (css_cons (by exact (cs_ret (ce_tk cp_var)))
  css_nil)))
abbrev st_law_line_field : Stmt := top 31
def N_law_line_field : List Str := ["k", "one", "told", "e"]
theorem nd_law_line_field : N_law_line_field.Nodup := by decide +kernel
def u_law_line_field_1 : Str → List (Str × D) → Sv := fun n fs => (S.seq (S.asg (E.args D.mkl (E.cons (E.xf fs "number") E.nil)) (G.name 2)) S.nil)
def g_law_line_field : Sv := (S.seq (S.asg (E.args D.mkl E.nil) (G.name 2)) (S.seq (S.tryMany (S.seq (S.ex (E.call c_law_raise [] (E.cons (E.tk (P.var 0)) (E.cons (E.tk (P.var 1)) (E.cons (E.tk (P.var 1)) E.nil))))) S.nil) [⟨mtOf errs sub "LineError", some 3, u_law_line_field_1⟩]) (S.seq (S.ret (E.tk (P.var 2))) S.nil)))
def c_law_line_field : Fc := ⟨2, [], runF [] 4 g_law_line_field⟩
theorem sc_law_line_field : FnScope N_law_line_field ["k", "one"] (defScope st_law_line_field) := ⟨rfl, rfl, rfl, nd_law_line_field, rfl, by decide +kernel, by decide +kernel⟩
theorem ok_law_line_field (Fx : FunD K "_law_line_field" "_law_line_field" (defArgs st_law_line_field) (defBody st_law_line_field) (defScope st_law_line_field) [] [] f fd) (gx : mg "_law_line_field" = some (.ref f)) (hB : ∀ x ∈ frees, mg x = none) (er_ : ErrF K mg cf errs errH errFf sub) (cal__law_raise : Cal Pg w K mg base cf 3 "_law_raise" c_law_raise []) : Cal Pg w K mg base cf 4 "_law_line_field" c_law_line_field [] := by
  refine ⟨f, fd, ["k", "one"], [], fn_ok (ms := []) Fx sc_law_line_field (by decide) (fun fx cdv A outer s H E hr hfx => ?_), gx, Fx.kp, Fx.bindsN fun _ _ _ _ _ _ us hl => match us, hl with | [_, _], _ => rfl, .nil⟩
  have tk := takes_of (X := cxOf (L2.CX Pg w) Pg w K mg base N_law_line_field "_law_line_field" (defScope st_law_line_field) f cdv A outer s H E) rfl rfl rfl rfl
  exact (css_cons (by exact (cs_asg (ce_lst ca_nil) (cg_name (nofix hfx (by decide)) nd_law_line_field)))
  (css_cons (by exact (cs_tryN rfl rfl nd_law_line_field tk (fun _ _ _ tk po => (css_cons (by exact (cs_ex (ce_callN cal__law_raise hr (by decide) rfl tk (ca_cons (ce_tk cp_var) (ca_cons (ce_tk cp_var) (ca_cons (ce_tk cp_var) ca_nil))))))
  css_nil)) (cvN (ca := ⟨cf, fx, [], []⟩) (es := errs) (hs := errH) (ff := errFf) (sub := sub) (i := 3) (x := "LineError") (u := u_law_line_field_1) er_ (by decide +kernel) rfl (nofix hfx (by decide)) rfl rfl (fun a oe n d pn fs caX hsub S => (css_cons (by exact (cs_asg (ce_lst (ca_cons (ce_xfN (ca := ⟨cf, fx, [], []⟩) (es := errs) (hs := errH) (ff := errFf) (sub := sub) (i := 3) (n := n) (fs := fs) er_ S (by decide +kernel)) ca_nil)) (cg_name (S.fix hfx (by decide) (by decide)) nd_law_line_field)))
  css_nil)) .nil)))
  (css_cons (by exact (cs_ret (ce_tk cp_var)))
  css_nil)))
abbrev st_law_fields : Stmt := top 32
def N_law_fields : List Str := ["k", "one", "two", "told", "e"]
theorem nd_law_fields : N_law_fields.Nodup := by decide +kernel
def u_law_fields_1 : Str → List (Str × D) → Sv := fun n fs => (S.seq (S.asg (E.args D.mkl E.nil) (G.name 3)) S.nil)
def u_law_fields_2 : Str → List (Str × D) → Sv := fun n fs => (S.seq (S.asg (E.args D.mkl (E.cons (E.xf fs "cycle") E.nil)) (G.name 3)) S.nil)
def u_law_fields_3 : Str → List (Str × D) → Sv := fun n fs => (S.seq (S.asg (E.args D.mkl (E.cons (E.xf fs "cycle") E.nil)) (G.name 3)) S.nil)
def u_law_fields_4 : Str → List (Str × D) → Sv := fun n fs => (S.seq (S.asg (E.args D.mkl (E.cons (E.xf fs "context") E.nil)) (G.name 3)) S.nil)
def u_law_fields_5 : Str → List (Str × D) → Sv := fun n fs => (S.seq (S.asg (E.args D.mkl (E.cons (E.xf fs "request") E.nil)) (G.name 3)) S.nil)
def u_law_fields_6 : Str → List (Str × D) → Sv := fun n fs => (S.seq (S.asg (E.args D.mkl (E.cons (E.xf fs "cycle") E.nil)) (G.name 3)) S.nil)
def u_law_fields_7 : Str → List (Str × D) → Sv := fun n fs => (S.seq (S.asg (E.args D.mkl (E.cons (E.xf fs "at") E.nil)) (G.name 3)) S.nil)
def u_law_fields_8 : Str → List (Str × D) → Sv := fun n fs => (S.seq (S.asg (E.args D.mkl (E.cons (E.xf fs "lock") (E.cons (E.xf fs "blocker") E.nil))) (G.name 3)) S.nil)
def u_law_fields_9 : Str → List (Str × D) → Sv := fun n fs => (S.seq (S.asg (E.args D.mkl (E.cons (E.xf fs "thread") E.nil)) (G.name 3)) S.nil)
def u_law_fields_10 : Str → List (Str × D) → Sv := fun n fs => (S.seq (S.asg (E.args D.mkl (E.cons (E.xf fs "at") E.nil)) (G.name 3)) S.nil)
def u_law_fields_11 : Str → List (Str × D) → Sv := fun n fs => (S.seq (S.asg (E.args D.mkl (E.cons (E.xf fs "move") E.nil)) (G.name 3)) S.nil)
def u_law_fields_12 : Str → List (Str × D) → Sv := fun n fs => (S.seq (S.asg (E.args D.mkl (E.cons (E.xf fs "name") E.nil)) (G.name 3)) S.nil)
def u_law_fields_13 : Str → List (Str × D) → Sv := fun n fs => (S.seq (S.asg (E.args D.mkl (E.cons (E.xf fs "name") E.nil)) (G.name 3)) S.nil)
def g_law_fields : Sv := (S.seq (S.asg (E.args D.mkl E.nil) (G.name 3)) (S.seq (S.tryMany (S.seq (S.ex (E.call c_law_raise [] (E.cons (E.tk (P.var 0)) (E.cons (E.tk (P.var 1)) (E.cons (E.tk (P.var 2)) E.nil))))) S.nil) [⟨mtOf errs sub "NoName", some 4, u_law_fields_13⟩, ⟨mtOf errs sub "Repeated", some 4, u_law_fields_12⟩, ⟨mtOf errs sub "WrongMove", some 4, u_law_fields_11⟩, ⟨mtOf errs sub "BadRun", some 4, u_law_fields_10⟩, ⟨mtOf errs sub "NoThread", some 4, u_law_fields_9⟩, ⟨mtOf errs sub "MustWait", some 4, u_law_fields_8⟩, ⟨mtOf errs sub "Refused", some 4, u_law_fields_7⟩, ⟨mtOf errs sub "Deadlocked", some 4, u_law_fields_6⟩, ⟨mtOf errs sub "NoRequest", some 4, u_law_fields_5⟩, ⟨mtOf errs sub "NoContext", some 4, u_law_fields_4⟩, ⟨mtOf errs sub "Clash", some 4, u_law_fields_3⟩, ⟨mtOf errs sub "NoLockOrder", some 4, u_law_fields_2⟩, ⟨mtOf errs sub "HeldError", none, u_law_fields_1⟩]) (S.seq (S.ret (E.tk (P.var 3))) S.nil)))
def c_law_fields : Fc := ⟨3, [], runF [] 5 g_law_fields⟩
theorem sc_law_fields : FnScope N_law_fields ["k", "one", "two"] (defScope st_law_fields) := ⟨rfl, rfl, rfl, nd_law_fields, rfl, by decide +kernel, by decide +kernel⟩
theorem ok_law_fields (Fx : FunD K "_law_fields" "_law_fields" (defArgs st_law_fields) (defBody st_law_fields) (defScope st_law_fields) [] [] f fd) (gx : mg "_law_fields" = some (.ref f)) (hB : ∀ x ∈ frees, mg x = none) (er_ : ErrF K mg cf errs errH errFf sub) (cal__law_raise : Cal Pg w K mg base cf 3 "_law_raise" c_law_raise []) : Cal Pg w K mg base cf 4 "_law_fields" c_law_fields [] := by
  refine ⟨f, fd, ["k", "one", "two"], [], fn_ok (ms := []) Fx sc_law_fields (by decide) (fun fx cdv A outer s H E hr hfx => ?_), gx, Fx.kp, Fx.bindsN fun _ _ _ _ _ _ us hl => match us, hl with | [_, _, _], _ => rfl, .nil⟩
  have tk := takes_of (X := cxOf (L2.CX Pg w) Pg w K mg base N_law_fields "_law_fields" (defScope st_law_fields) f cdv A outer s H E) rfl rfl rfl rfl
  exact (css_cons (by exact (cs_asg (ce_lst ca_nil) (cg_name (nofix hfx (by decide)) nd_law_fields)))
  (css_cons (by exact (cs_tryN rfl rfl nd_law_fields tk (fun _ _ _ tk po => (css_cons (by exact (cs_ex (ce_callN cal__law_raise hr (by decide) rfl tk (ca_cons (ce_tk cp_var) (ca_cons (ce_tk cp_var) (ca_cons (ce_tk cp_var) ca_nil))))))
  css_nil)) (cvN (ca := ⟨cf, fx, [], []⟩) (es := errs) (hs := errH) (ff := errFf) (sub := sub) (i := 4) (x := "NoName") (u := u_law_fields_13) er_ (by decide +kernel) rfl (nofix hfx (by decide)) rfl rfl (fun a oe n d pn fs caX hsub S => (css_cons (by exact (cs_asg (ce_lst (ca_cons (ce_xfN (ca := ⟨cf, fx, [], []⟩) (es := errs) (hs := errH) (ff := errFf) (sub := sub) (i := 4) (n := n) (fs := fs) er_ S (by decide +kernel)) ca_nil)) (cg_name (S.fix hfx (by decide) (by decide)) nd_law_fields)))
  css_nil)) (cvN (ca := ⟨cf, fx, [], []⟩) (es := errs) (hs := errH) (ff := errFf) (sub := sub) (i := 4) (x := "Repeated") (u := u_law_fields_12) er_ (by decide +kernel) rfl (nofix hfx (by decide)) rfl rfl (fun a oe n d pn fs caX hsub S => (css_cons (by exact (cs_asg (ce_lst (ca_cons (ce_xfN (ca := ⟨cf, fx, [], []⟩) (es := errs) (hs := errH) (ff := errFf) (sub := sub) (i := 4) (n := n) (fs := fs) er_ S (by decide +kernel)) ca_nil)) (cg_name (S.fix hfx (by decide) (by decide)) nd_law_fields)))
  css_nil)) (cvN (ca := ⟨cf, fx, [], []⟩) (es := errs) (hs := errH) (ff := errFf) (sub := sub) (i := 4) (x := "WrongMove") (u := u_law_fields_11) er_ (by decide +kernel) rfl (nofix hfx (by decide)) rfl rfl (fun a oe n d pn fs caX hsub S => (css_cons (by exact (cs_asg (ce_lst (ca_cons (ce_xfN (ca := ⟨cf, fx, [], []⟩) (es := errs) (hs := errH) (ff := errFf) (sub := sub) (i := 4) (n := n) (fs := fs) er_ S (by decide +kernel)) ca_nil)) (cg_name (S.fix hfx (by decide) (by decide)) nd_law_fields)))
  css_nil)) (cvN (ca := ⟨cf, fx, [], []⟩) (es := errs) (hs := errH) (ff := errFf) (sub := sub) (i := 4) (x := "BadRun") (u := u_law_fields_10) er_ (by decide +kernel) rfl (nofix hfx (by decide)) rfl rfl (fun a oe n d pn fs caX hsub S => (css_cons (by exact (cs_asg (ce_lst (ca_cons (ce_xfN (ca := ⟨cf, fx, [], []⟩) (es := errs) (hs := errH) (ff := errFf) (sub := sub) (i := 4) (n := n) (fs := fs) er_ S (by decide +kernel)) ca_nil)) (cg_name (S.fix hfx (by decide) (by decide)) nd_law_fields)))
  css_nil)) (cvN (ca := ⟨cf, fx, [], []⟩) (es := errs) (hs := errH) (ff := errFf) (sub := sub) (i := 4) (x := "NoThread") (u := u_law_fields_9) er_ (by decide +kernel) rfl (nofix hfx (by decide)) rfl rfl (fun a oe n d pn fs caX hsub S => (css_cons (by exact (cs_asg (ce_lst (ca_cons (ce_xfN (ca := ⟨cf, fx, [], []⟩) (es := errs) (hs := errH) (ff := errFf) (sub := sub) (i := 4) (n := n) (fs := fs) er_ S (by decide +kernel)) ca_nil)) (cg_name (S.fix hfx (by decide) (by decide)) nd_law_fields)))
  css_nil)) (cvN (ca := ⟨cf, fx, [], []⟩) (es := errs) (hs := errH) (ff := errFf) (sub := sub) (i := 4) (x := "MustWait") (u := u_law_fields_8) er_ (by decide +kernel) rfl (nofix hfx (by decide)) rfl rfl (fun a oe n d pn fs caX hsub S => (css_cons (by exact (cs_asg (ce_lst (ca_cons (ce_xfN (ca := ⟨cf, fx, [], []⟩) (es := errs) (hs := errH) (ff := errFf) (sub := sub) (i := 4) (n := n) (fs := fs) er_ S (by decide +kernel)) (ca_cons (ce_xfN (ca := ⟨cf, fx, [], []⟩) (es := errs) (hs := errH) (ff := errFf) (sub := sub) (i := 4) (n := n) (fs := fs) er_ S (by decide +kernel)) ca_nil))) (cg_name (S.fix hfx (by decide) (by decide)) nd_law_fields)))
  css_nil)) (cvN (ca := ⟨cf, fx, [], []⟩) (es := errs) (hs := errH) (ff := errFf) (sub := sub) (i := 4) (x := "Refused") (u := u_law_fields_7) er_ (by decide +kernel) rfl (nofix hfx (by decide)) rfl rfl (fun a oe n d pn fs caX hsub S => (css_cons (by exact (cs_asg (ce_lst (ca_cons (ce_xfN (ca := ⟨cf, fx, [], []⟩) (es := errs) (hs := errH) (ff := errFf) (sub := sub) (i := 4) (n := n) (fs := fs) er_ S (by decide +kernel)) ca_nil)) (cg_name (S.fix hfx (by decide) (by decide)) nd_law_fields)))
  css_nil)) (cvN (ca := ⟨cf, fx, [], []⟩) (es := errs) (hs := errH) (ff := errFf) (sub := sub) (i := 4) (x := "Deadlocked") (u := u_law_fields_6) er_ (by decide +kernel) rfl (nofix hfx (by decide)) rfl rfl (fun a oe n d pn fs caX hsub S => (css_cons (by exact (cs_asg (ce_lst (ca_cons (ce_xfN (ca := ⟨cf, fx, [], []⟩) (es := errs) (hs := errH) (ff := errFf) (sub := sub) (i := 4) (n := n) (fs := fs) er_ S (by decide +kernel)) ca_nil)) (cg_name (S.fix hfx (by decide) (by decide)) nd_law_fields)))
  css_nil)) (cvN (ca := ⟨cf, fx, [], []⟩) (es := errs) (hs := errH) (ff := errFf) (sub := sub) (i := 4) (x := "NoRequest") (u := u_law_fields_5) er_ (by decide +kernel) rfl (nofix hfx (by decide)) rfl rfl (fun a oe n d pn fs caX hsub S => (css_cons (by exact (cs_asg (ce_lst (ca_cons (ce_xfN (ca := ⟨cf, fx, [], []⟩) (es := errs) (hs := errH) (ff := errFf) (sub := sub) (i := 4) (n := n) (fs := fs) er_ S (by decide +kernel)) ca_nil)) (cg_name (S.fix hfx (by decide) (by decide)) nd_law_fields)))
  css_nil)) (cvN (ca := ⟨cf, fx, [], []⟩) (es := errs) (hs := errH) (ff := errFf) (sub := sub) (i := 4) (x := "NoContext") (u := u_law_fields_4) er_ (by decide +kernel) rfl (nofix hfx (by decide)) rfl rfl (fun a oe n d pn fs caX hsub S => (css_cons (by exact (cs_asg (ce_lst (ca_cons (ce_xfN (ca := ⟨cf, fx, [], []⟩) (es := errs) (hs := errH) (ff := errFf) (sub := sub) (i := 4) (n := n) (fs := fs) er_ S (by decide +kernel)) ca_nil)) (cg_name (S.fix hfx (by decide) (by decide)) nd_law_fields)))
  css_nil)) (cvN (ca := ⟨cf, fx, [], []⟩) (es := errs) (hs := errH) (ff := errFf) (sub := sub) (i := 4) (x := "Clash") (u := u_law_fields_3) er_ (by decide +kernel) rfl (nofix hfx (by decide)) rfl rfl (fun a oe n d pn fs caX hsub S => (css_cons (by exact (cs_asg (ce_lst (ca_cons (ce_xfN (ca := ⟨cf, fx, [], []⟩) (es := errs) (hs := errH) (ff := errFf) (sub := sub) (i := 4) (n := n) (fs := fs) er_ S (by decide +kernel)) ca_nil)) (cg_name (S.fix hfx (by decide) (by decide)) nd_law_fields)))
  css_nil)) (cvN (ca := ⟨cf, fx, [], []⟩) (es := errs) (hs := errH) (ff := errFf) (sub := sub) (i := 4) (x := "NoLockOrder") (u := u_law_fields_2) er_ (by decide +kernel) rfl (nofix hfx (by decide)) rfl rfl (fun a oe n d pn fs caX hsub S => (css_cons (by exact (cs_asg (ce_lst (ca_cons (ce_xfN (ca := ⟨cf, fx, [], []⟩) (es := errs) (hs := errH) (ff := errFf) (sub := sub) (i := 4) (n := n) (fs := fs) er_ S (by decide +kernel)) ca_nil)) (cg_name (S.fix hfx (by decide) (by decide)) nd_law_fields)))
  css_nil)) (cv0 (ca := ⟨cf, fx, [], []⟩) (es := errs) (hs := errH) (ff := errFf) (sub := sub) (x := "HeldError") (u := u_law_fields_1) er_ (by decide +kernel) rfl (fun a oe n pn fs => (css_cons (by exact (cs_asg (ce_lst ca_nil) (cg_name (nofix hfx (by decide)) nd_law_fields)))
  css_nil)) .nil)))))))))))))))
  (css_cons (by exact (cs_ret (ce_tk cp_var)))
  css_nil)))
abbrev st_law : Stmt := top 33
def N_law : List Str := ["script", "draws", "number", "words", "at", "other", "one", "k", "kinds", "due", "j"]
theorem nd_law : N_law.Nodup := by decide +kernel
def b_law_1 : Sv := (S.seq (S.asg (E.bin D.add (E.bin D.add (E.args D.mkl (E.cons (E.or (E.bin D.lt (E.at (P.var 7)) (E.c (.int 7))) (E.bin D.eq (E.at (P.var 7)) (E.c (.int 21)))) E.nil)) (E.lc (I.range1 (E.cons (E.c (.int 21)) E.nil)) [10] (G.name 10) E.yes (E.bin D.eq (E.at (P.var 10)) (E.at (P.var 7))))) (E.args D.mkl (E.cons (E.c (.bl true)) E.nil))) (G.name 8)) (S.seq (S.ite (E.un D.not (E.un D.tru (E.call c_law_same [] (E.cons (E.call c_law_kinds [] (E.cons (E.tk (P.var 7)) (E.cons (E.bin D.idx (E.at (P.var 6)) (E.at (P.var 7))) (E.cons (E.tk (P.var 5)) E.nil)))) (E.cons (E.tk (P.var 8)) E.nil))))) (S.seq (S.ret (E.c (.bl false))) S.nil) S.nil) (S.seq (S.ite (E.or (E.bin D.lt (E.at (P.var 7)) (E.c (.int 7))) (E.bin D.eq (E.at (P.var 7)) (E.c (.int 21)))) (S.seq (S.ite (E.un D.not (E.un D.tru (E.call c_law_same [] (E.cons (E.call c_law_line_field [] (E.cons (E.tk (P.var 7)) (E.cons (E.bin D.idx (E.at (P.var 6)) (E.at (P.var 7))) E.nil))) (E.cons (E.args D.mkl (E.cons (E.bin D.idx (E.at (P.var 6)) (E.at (P.var 7))) E.nil)) E.nil))))) (S.seq (S.ret (E.c (.bl false))) S.nil) S.nil) S.nil) (S.seq (S.asg (E.args D.mkl (E.cons (E.bin D.idx (E.at (P.var 6)) (E.at (P.var 7))) E.nil)) (G.name 9)) (S.seq (S.ite (E.bin D.eq (E.at (P.var 7)) (E.c (.int 13))) (S.seq (S.asg (E.args D.mkl (E.cons (E.bin D.idx (E.at (P.var 6)) (E.at (P.var 7))) (E.cons (E.tk (P.var 5)) E.nil))) (G.name 9)) S.nil) S.nil) (S.seq (S.ite (E.or (E.bin D.eq (E.at (P.var 7)) (E.c (.int 9))) (E.bin D.eq (E.at (P.var 7)) (E.c (.int 18)))) (S.seq (S.asg (E.args D.mkl E.nil) (G.name 9)) S.nil) S.nil) (S.seq (S.ite (E.un D.not (E.un D.tru (E.call c_law_same [] (E.cons (E.call c_law_fields [] (E.cons (E.tk (P.var 7)) (E.cons (E.bin D.idx (E.at (P.var 6)) (E.at (P.var 7))) (E.cons (E.tk (P.var 5)) E.nil)))) (E.cons (E.tk (P.var 9)) E.nil))))) (S.seq (S.ret (E.c (.bl false))) S.nil) S.nil) S.nil))))) S.nil)))
def g_law : Sv := (S.seq (S.asg (E.call c_law_numbers [] (E.cons (E.tk (P.var 0)) (E.cons (E.c (.int 0)) (E.cons (E.c (.int 5)) E.nil)))) (G.name 1)) (S.seq (S.asg (E.bin D.add (E.c (.int 1)) (E.bin D.mod (E.args D.int_ (E.cons (E.bin D.idx (E.at (P.var 1)) (E.c (.int 0))) E.nil)) (E.c (.int 75)))) (G.name 2)) (S.seq (S.asg (E.call c_law_names [] (E.cons (E.bin D.idx (E.at (P.var 1)) (E.c (.int 1))) (E.cons (E.bin D.idx (E.at (P.var 1)) (E.c (.int 2))) E.nil))) (G.name 3)) (S.seq (S.asg (E.bin D.mod (E.args D.int_ (E.cons (E.bin D.idx (E.at (P.var 1)) (E.c (.int 3))) E.nil)) (E.c (.int 40))) (G.name 4)) (S.seq (S.asg (E.bin D.mod (E.args D.int_ (E.cons (E.bin D.idx (E.at (P.var 1)) (E.c (.int 4))) E.nil)) (E.c (.int 60))) (G.name 5)) (S.seq (S.asg (E.args D.mkl (E.cons (E.tk (P.var 2)) (E.cons (E.tk (P.var 2)) (E.cons (E.tk (P.var 2)) (E.cons (E.tk (P.var 2)) (E.cons (E.tk (P.var 2)) (E.cons (E.tk (P.var 2)) (E.cons (E.tk (P.var 2)) (E.cons (E.bin D.idx (E.at (P.var 3)) (E.c (.int 0))) (E.cons (E.bin D.idx (E.at (P.var 3)) (E.c (.int 1))) (E.cons (E.c (.str "")) (E.cons (E.args D.mkt (E.cons (E.c (.str "acquire")) (E.cons (E.bin D.idx (E.at (P.var 3)) (E.c (.int 0))) E.nil))) (E.cons (E.tk (P.var 4)) E.nil))))))))))))) (G.name 6)) (S.seq (S.asg (E.bin D.add (E.at (P.var 6)) (E.args D.mkl (E.cons (E.bin D.sub (E.c (.int 0)) (E.at (P.var 4))) (E.cons (E.bin D.idx (E.at (P.var 3)) (E.c (.int 0))) (E.cons (E.tk (P.var 4)) (E.cons (E.args D.mkt (E.cons (E.tk (P.var 4)) (E.cons (E.bin D.add (E.at (P.var 4)) (E.c (.int 1))) E.nil))) (E.cons (E.args D.mkt (E.cons (E.args D.mkt (E.cons (E.bin D.idx (E.at (P.var 3)) (E.c (.int 0))) (E.cons (E.bin D.idx (E.at (P.var 3)) (E.c (.int 1))) E.nil))) (E.cons (E.bin D.idx (E.at (P.var 3)) (E.c (.int 2))) E.nil))) (E.cons (E.args D.mkt (E.cons (E.bin D.idx (E.at (P.var 3)) (E.c (.int 0))) (E.cons (E.args D.mkt (E.cons (E.bin D.idx (E.at (P.var 3)) (E.c (.int 1))) E.nil)) E.nil))) (E.cons (E.c (.str "")) E.nil))))))))) (G.name 6)) (S.seq (S.asg (E.bin D.add (E.at (P.var 6)) (E.args D.mkl (E.cons (E.args D.mkt (E.cons (E.bin D.idx (E.at (P.var 3)) (E.c (.int 1))) (E.cons (E.bin D.idx (E.at (P.var 3)) (E.c (.int 0))) E.nil))) (E.cons (E.args D.mkt (E.cons (E.bin D.idx (E.at (P.var 3)) (E.c (.int 2))) (E.cons (E.bin D.idx (E.at (P.var 3)) (E.c (.int 1))) E.nil))) (E.cons (E.tk (P.var 2)) E.nil))))) (G.name 6)) (S.seq (S.for_ (I.range1 (E.cons (E.c (.int 22)) E.nil)) (G.name 7) b_law_1) (S.seq (S.ret (E.c (.bl true))) S.nil))))))))))
def c_law : Fc := ⟨1, [], runF [] 11 g_law⟩
theorem sc_law : FnScope N_law ["script"] (defScope st_law) := ⟨rfl, rfl, rfl, nd_law, rfl, by decide +kernel, by decide +kernel⟩
theorem ok_law (Fx : FunD K "law" "law" (defArgs st_law) (defBody st_law) (defScope st_law) [] [] f fd) (hB : ∀ x ∈ frees, mg x = none) (cal__law_numbers : Cal Pg w K mg base cf 1 "_law_numbers" c_law_numbers []) (cal__law_names : Cal Pg w K mg base cf 1 "_law_names" c_law_names []) (cal__law_same : Cal Pg w K mg base cf 2 "_law_same" c_law_same []) (cal__law_kinds : Cal Pg w K mg base cf 4 "_law_kinds" c_law_kinds []) (cal__law_line_field : Cal Pg w K mg base cf 4 "_law_line_field" c_law_line_field []) (cal__law_fields : Cal Pg w K mg base cf 4 "_law_fields" c_law_fields []) : FnOk Pg w K mg base (L2.CX Pg w) 5 f fd ["script"] (spM K cf c_law) := by
  refine fn_ok (ms := []) Fx sc_law (by decide) (fun fx cdv A outer s H E hr hfx => ?_)
  have tk := takes_of (X := cxOf (L2.CX Pg w) Pg w K mg base N_law "law" (defScope st_law) f cdv A outer s H E) rfl rfl rfl rfl
  exact (css_cons (by exact (cs_asg (ce_callN cal__law_numbers hr (by decide) rfl tk (ca_cons (ce_tk cp_var) (ca_cons ce_int (ca_cons ce_int ca_nil)))) (cg_name (nofix hfx (by decide)) nd_law)))
  (css_cons (by exact (cs_asg (ce_add ce_int (ce_mod (ce_callTy opn_int rfl (hB "int" (by decide)) boot_int (ca_cons (ce_ix hr.units (ce_at cp_var) ce_int) ca_nil)) ce_int)) (cg_name (nofix hfx (by decide)) nd_law)))
  (css_cons (by exact (cs_asg (ce_callN cal__law_names hr (by decide) rfl tk (ca_cons (ce_ix hr.units (ce_at cp_var) ce_int) (ca_cons (ce_ix hr.units (ce_at cp_var) ce_int) ca_nil))) (cg_name (nofix hfx (by decide)) nd_law)))
  (css_cons (by exact (cs_asg (ce_mod (ce_callTy opn_int rfl (hB "int" (by decide)) boot_int (ca_cons (ce_ix hr.units (ce_at cp_var) ce_int) ca_nil)) ce_int) (cg_name (nofix hfx (by decide)) nd_law)))
  (css_cons (by exact (cs_asg (ce_mod (ce_callTy opn_int rfl (hB "int" (by decide)) boot_int (ca_cons (ce_ix hr.units (ce_at cp_var) ce_int) ca_nil)) ce_int) (cg_name (nofix hfx (by decide)) nd_law)))
  (css_cons (by exact (cs_asg (ce_lst (ca_cons (ce_tk cp_var) (ca_cons (ce_tk cp_var) (ca_cons (ce_tk cp_var) (ca_cons (ce_tk cp_var) (ca_cons (ce_tk cp_var) (ca_cons (ce_tk cp_var) (ca_cons (ce_tk cp_var) (ca_cons (ce_ix hr.units (ce_at cp_var) ce_int) (ca_cons (ce_ix hr.units (ce_at cp_var) ce_int) (ca_cons ce_str (ca_cons (ce_tup (ca_cons ce_str (ca_cons (ce_ix hr.units (ce_at cp_var) ce_int) ca_nil))) (ca_cons (ce_tk cp_var) ca_nil))))))))))))) (cg_name (nofix hfx (by decide)) nd_law)))
  (css_cons (by exact (cs_asg (ce_add (ce_at cp_var) (ce_lst (ca_cons (ce_sub ce_int (ce_at cp_var)) (ca_cons (ce_ix hr.units (ce_at cp_var) ce_int) (ca_cons (ce_tk cp_var) (ca_cons (ce_tup (ca_cons (ce_tk cp_var) (ca_cons (ce_add (ce_at cp_var) ce_int) ca_nil))) (ca_cons (ce_tup (ca_cons (ce_tup (ca_cons (ce_ix hr.units (ce_at cp_var) ce_int) (ca_cons (ce_ix hr.units (ce_at cp_var) ce_int) ca_nil))) (ca_cons (ce_ix hr.units (ce_at cp_var) ce_int) ca_nil))) (ca_cons (ce_tup (ca_cons (ce_ix hr.units (ce_at cp_var) ce_int) (ca_cons (ce_tup (ca_cons (ce_ix hr.units (ce_at cp_var) ce_int) ca_nil)) ca_nil))) (ca_cons ce_str ca_nil))))))))) (cg_name (nofix hfx (by decide)) nd_law)))
  (css_cons (by exact (cs_asg (ce_add (ce_at cp_var) (ce_lst (ca_cons (ce_tup (ca_cons (ce_ix hr.units (ce_at cp_var) ce_int) (ca_cons (ce_ix hr.units (ce_at cp_var) ce_int) ca_nil))) (ca_cons (ce_tup (ca_cons (ce_ix hr.units (ce_at cp_var) ce_int) (ca_cons (ce_ix hr.units (ce_at cp_var) ce_int) ca_nil))) (ca_cons (ce_tk cp_var) ca_nil))))) (cg_name (nofix hfx (by decide)) nd_law)))
  (css_cons (by exact (cs_for (passes_of rfl) rfl (ci_range1 rfl (hB "range" (by decide)) (ca_cons ce_int ca_nil)) (cg_name (nofix hfx (by decide)) nd_law) (css_cons (by exact (cs_asg (ce_add (ce_add (ce_lst (ca_cons (ce_or (And.left (cb_lt (ce_at cp_var) ce_int)) (ce_one (And.left (cb_eq hr.units (ce_at cp_var) ce_int)))) ca_nil)) (ce_lc (own := [("j", 10)]) rfl (nofixL hfx (by decide)) (by decide) rfl nd_law (ci_range1 rfl (hB "range" (by decide)) (ca_cons ce_int ca_nil)) (blkOk_by (N := N_law) (sc := defScope st_law) (by decide +kernel)) (pu_bin (pu_at pu_var) (pu_at pu_var)) pure_yes (fun _ _ _ _ _ => (cg_name (nofix hfx (by decide)) nd_law)) (fun _ _ _ _ _ => cts_nil) (fun _ _ _ _ _ => (And.left (cb_eq hr.units (ce_at cp_var) (ce_at cp_var)))))) (ce_lst (ca_cons ce_bl ca_nil))) (cg_name (nofix hfx (by decide)) nd_law)))
  (css_cons (by exact (cs_ite (ct_not (ct_truth (ce_callN cal__law_same hr (by decide) rfl tk (ca_cons (ce_callN cal__law_kinds hr (by decide) rfl tk (ca_cons (ce_tk cp_var) (ca_cons (ce_ix hr.units (ce_at cp_var) (ce_at cp_var)) (ca_cons (ce_tk cp_var) ca_nil)))) (ca_cons (ce_tk cp_var) ca_nil))))) (css_cons (by exact (cs_ret ce_bl))
  css_nil) css_nil))
  (css_cons (by exact (cs_ite (ct_w (cw_or (And.right (cb_lt (ce_at cp_var) ce_int)) (cw_or1 (And.right (cb_eq hr.units (ce_at cp_var) ce_int))))) (css_cons (by exact (cs_ite (ct_not (ct_truth (ce_callN cal__law_same hr (by decide) rfl tk (ca_cons (ce_callN cal__law_line_field hr (by decide) rfl tk (ca_cons (ce_tk cp_var) (ca_cons (ce_ix hr.units (ce_at cp_var) (ce_at cp_var)) ca_nil))) (ca_cons (ce_lst (ca_cons (ce_ix hr.units (ce_at cp_var) (ce_at cp_var)) ca_nil)) ca_nil))))) (css_cons (by exact (cs_ret ce_bl))
  css_nil) css_nil))
  css_nil) (css_cons (by exact (cs_asg (ce_lst (ca_cons (ce_ix hr.units (ce_at cp_var) (ce_at cp_var)) ca_nil)) (cg_name (nofix hfx (by decide)) nd_law)))
  (css_cons (by exact (cs_ite (And.right (cb_eq hr.units (ce_at cp_var) ce_int)) (css_cons (by exact (cs_asg (ce_lst (ca_cons (ce_ix hr.units (ce_at cp_var) (ce_at cp_var)) (ca_cons (ce_tk cp_var) ca_nil))) (cg_name (nofix hfx (by decide)) nd_law)))
  css_nil) css_nil))
  (css_cons (by exact (cs_ite (ct_w (cw_or (And.right (cb_eq hr.units (ce_at cp_var) ce_int)) (cw_or1 (And.right (cb_eq hr.units (ce_at cp_var) ce_int))))) (css_cons (by exact (cs_asg (ce_lst ca_nil) (cg_name (nofix hfx (by decide)) nd_law)))
  css_nil) css_nil))
  (css_cons (by exact (cs_ite (ct_not (ct_truth (ce_callN cal__law_same hr (by decide) rfl tk (ca_cons (ce_callN cal__law_fields hr (by decide) rfl tk (ca_cons (ce_tk cp_var) (ca_cons (ce_ix hr.units (ce_at cp_var) (ce_at cp_var)) (ca_cons (ce_tk cp_var) ca_nil)))) (ca_cons (ce_tk cp_var) ca_nil))))) (css_cons (by exact (cs_ret ce_bl))
  css_nil) css_nil))
  css_nil))))))
  css_nil)))))
  (css_cons (by exact (cs_ret ce_bl))
  css_nil))))))))))
end
theorem seq_step {P : SR → Prop} {f g : Sv} {ρ ρ1 : Vl.Env} (h : f ρ = .nx ρ1) (k : P (g ρ1)) : P (S.seq f g ρ) := by unfold S.seq; rw [h]; exact k
theorem okMul_r {i j : Int} (h0 : -1000000 ≤ j) (h1 : j < 1000000) : okMul i j = true := decide_eq_true (.inr ⟨by omega, by omega⟩)
theorem okMul_l {i j : Int} (h0 : 0 ≤ i) (h1 : i < 10 ^ 18) : okMul i j = true := decide_eq_true (.inl ⟨by omega, by omega⟩)
theorem d_mul {i j : Int} (h : okMul i j = true) : D.mul (.int i) (.int j) = some (.int (i * j)) := if_pos h
theorem ints_at {ns : List Int} {a : Int} (h0 : 0 ≤ a) (h : a < ns.length) : ∃ v, v ∈ ns ∧ atI (ns.map T.int) a = some (.int v : D) := by
  have hl : a.toNat < ns.length := by omega
  exact ⟨ns[a.toNat], List.getElem_mem hl, atI_some h0 (by rw [List.getElem?_map, List.getElem?_eq_getElem hl]; rfl)⟩
theorem snoc {α : Type} (f : α → D) (l : List α) (a : α) : l.map f ++ [f a] = (l ++ [a]).map f := by rw [List.map_append]; rfl
theorem numbers_1 (sc at_ mm cell : D) (n : Nat) (hn : n ≤ 64) (skip : Int) (size : Int) (hs : 0 ≤ size) (hs2 : size < 10 ^ 18) :
    ∃ (vs : List Int) (y7 y8 : Option D), vs.length = n ∧ (∀ v ∈ vs, 0 ≤ v) ∧ forL (G.name 7) b_law_numbers_1 ((List.range n).map fun i : Nat => (T.int i : D)) [some sc, some at_, some mm, some cell, some (.int skip), some (.int size), some (.nd .lst .o () []), none, none] = .nx [some sc, some at_, some mm, some cell, some (.int skip), some (.int size), some (.nd .lst .o () (vs.map T.int)), y7, y8] := by
  have hz := sizeLine_eq
  obtain ⟨ρ', e, vs, y7, y8, hl, h0, rfl⟩ := forInv (g := G.name 7) (body := b_law_numbers_1) (e := fun i : Nat => (T.int i : D)) (as := List.range n) (j := 0)
    (fun i ρ => ∃ (vs : List Int) (y7 y8 : Option D), vs.length = i ∧ (∀ v ∈ vs, 0 ≤ v) ∧ ρ = [some sc, some at_, some mm, some cell, some (.int skip), some (.int size), some (.nd .lst .o () (vs.map T.int)), y7, y8])
    ⟨[], none, none, rfl, fun _ h => (by cases h), rfl⟩ fun i k ρ hk ⟨vs, y7, y8, hl, h0, e⟩ => by
      subst e
      have hi : i < n := by simpa using (List.getElem?_eq_some_iff.mp hk).1
      obtain ⟨mx, hm⟩ : ∃ mx : Int, mx = size * (48271 + 69621 * (k + skip)) % 2147483647 := ⟨_, rfl⟩
      have m0 : 0 ≤ mx := by omega
      have m1 : mx < 2147483647 := by omega
      have e1 : D.mul (.int 69621) (.int (k + skip)) = some (.int (69621 * (k + skip))) := d_mul (okMul_l (by omega) (by omega))
      have e2 : D.mul (.int size) (.int (48271 + 69621 * (k + skip))) = some (.int (size * (48271 + 69621 * (k + skip)))) := d_mul (okMul_l hs hs2)
      have e3 : D.mul (.int mx) (.int mx) = some (.int (mx * mx)) := d_mul (okMul_l (by omega) (by omega))
      have e4 : D.mul (.int (mx * mx)) (.int 16807) = some (.int (mx * mx * 16807)) := d_mul (okMul_r (by omega) (by omega))
      have hlt : vs.length < sizeLine := by omega
      refine ⟨_, [some sc, some at_, some mm, some cell, some (.int skip), some (.int size), some (.nd .lst .o () ((vs ++ [mx * mx * 16807 % 2147483629]).map T.int)), some (.int k), some (.int mx)], by simp; rfl, .inl (by unfold b_law_numbers_1; simp [e1, e2, d_mod, ← hm, e3, e4, hlt]), _, _, _, by simp [hl], fun v hv => ?_, rfl⟩
      rcases List.mem_append.mp hv with h | h
      · exact h0 v h
      · have : v = mx * mx * 16807 % 2147483629 := by simpa using h
        omega
  exact ⟨vs, y7, y8, by simpa using hl, h0, e⟩
theorem numbers_2 (sc at_ mm cell skip : D) (n : Nat) (hn : n ≤ 64) (size : Int) (hs : 0 ≤ size) :
    ∃ (vs : List Int) (s2 : Int) (y7 y8 : Option D), vs.length = n ∧ (∀ v ∈ vs, 0 ≤ v) ∧ forL (G.name 7) b_law_numbers_2 ((List.range n).map fun i : Nat => (T.int i : D)) [some sc, some at_, some mm, some cell, some skip, some (.int size), some (.nd .lst .o () []), none, none] = .nx [some sc, some at_, some mm, some cell, some skip, some (.int s2), some (.nd .lst .o () (vs.map T.int)), y7, y8] := by
  have hz := sizeLine_eq
  obtain ⟨ρ', e, vs, s2, y7, y8, hl, h0, hs2, rfl⟩ := forInv (g := G.name 7) (body := b_law_numbers_2) (e := fun i : Nat => (T.int i : D)) (as := List.range n) (j := 0)
    (fun i ρ => ∃ (vs : List Int) (s2 : Int) (y7 y8 : Option D), vs.length = i ∧ (∀ v ∈ vs, 0 ≤ v) ∧ 0 ≤ s2 ∧ ρ = [some sc, some at_, some mm, some cell, some skip, some (.int s2), some (.nd .lst .o () (vs.map T.int)), y7, y8])
    ⟨[], size, none, none, rfl, fun _ h => (by cases h), hs, rfl⟩ fun i k ρ hk ⟨vs, s2, y7, y8, hl, h0, hs2, e⟩ => by
      subst e
      have hi : i < n := by simpa using (List.getElem?_eq_some_iff.mp hk).1
      have hlt : vs.length < sizeLine := by omega
      have e5 : D.fdiv (.int s2) (.int 100) = some (.int (s2 / 100)) := by unfold D.fdiv; simp
      refine ⟨_, [some sc, some at_, some mm, some cell, some skip, some (.int (s2 / 100)), some (.nd .lst .o () ((vs ++ [s2 % 100]).map T.int)), some (.int k), y8], by simp; rfl, .inl (by unfold b_law_numbers_2; simp [d_mod, e5, hlt]), _, _, _, _, by simp [hl], fun v hv => ?_, by omega, rfl⟩
      rcases List.mem_append.mp hv with h | h
      · exact h0 v h
      · have : v = s2 % 100 := by simpa using h
        omega
  exact ⟨vs, s2, y7, y8, by simpa using hl, h0, e⟩
theorem numbers_ok (ns : List Int) (a m : Int) (ha : 0 ≤ a) (hm : 0 ≤ m) (hm2 : m ≤ 64) : ∃ vs : List Int, vs.length = m.toNat ∧ (∀ v ∈ vs, 0 ≤ v) ∧ c_law_numbers.fn [.nd .scr .c () (ns.map T.int), .int a, .int m] = .ok (.nd .lst .c () (vs.map T.int)) [] := by
  suffices go : ∃ vs : List Int, vs.length = m.toNat ∧ (∀ v ∈ vs, 0 ≤ v) ∧ ∃ ρ', g_law_numbers [some (.nd .scr .c () (ns.map T.int)), some (.int a), some (.int m), none, none, none, none, none, none] = .ret (.nd .lst .c () (vs.map T.int)) ρ' by
    obtain ⟨vs, hl, h0, ρ', e⟩ := go
    exact ⟨vs, hl, h0, run_ret e (by simp)⟩
  have hr : okRg m = true := okrg (by omega) (by omega)
  have hz := sizeLine_eq
  have tail : ∀ cell skip : Int, ∃ vs : List Int, vs.length = m.toNat ∧ (∀ v ∈ vs, 0 ≤ v) ∧ ∃ ρ', (S.seq (S.asg (E.bin D.add (E.args D.abs (E.cons (E.at (P.var 3)) E.nil)) (E.args D.int_ (E.cons (E.bin D.lt (E.at (P.var 3)) (E.c (.int 0))) E.nil))) (G.name 5)) (S.seq (S.asg (E.args D.mkl E.nil) (G.name 6)) (S.seq (S.ite (E.bin D.lt (E.at (P.var 5)) (E.bin D.pow (E.c (.int 10)) (E.c (.int 18)))) (S.seq (S.for_ (I.range1 (E.cons (E.at (P.var 2)) E.nil)) (G.name 7) b_law_numbers_1) (S.seq (S.ret (E.tk (P.var 6))) S.nil)) S.nil) (S.seq (S.for_ (I.range1 (E.cons (E.at (P.var 2)) E.nil)) (G.name 7) b_law_numbers_2) (S.seq (S.ret (E.tk (P.var 6))) S.nil))))) [some (.nd .scr .c () (ns.map T.int)), some (.int a), some (.int m), some (.int cell), some (.int skip), none, none, none, none] = .ret (.nd .lst .c () (vs.map T.int)) ρ' := by
    intro cell skip
    obtain ⟨size, hs, es⟩ : ∃ size : Int, 0 ≤ size ∧ (if cell < 0 then -cell else cell) + (if cell < 0 then 1 else 0) = size := ⟨_, by split <;> omega, rfl⟩
    by_cases hb : size < 1000000000000000000
    · obtain ⟨vs, y7, y8, hl, h0, e1⟩ := numbers_1 (.nd .scr .c () (ns.map T.int)) (.int a) (.int m) (.int cell) m.toNat (by omega) skip size hs (by omega)
      refine ⟨vs, hl, h0, ?_⟩
      simp [D.abs, D.pow, es, hb, hr, range0, e1, hz]
    · obtain ⟨vs, s2, y7, y8, hl, h0, e1⟩ := numbers_2 (.nd .scr .c () (ns.map T.int)) (.int a) (.int m) (.int cell) (.int skip) m.toNat (by omega) size hs
      refine ⟨vs, hl, h0, ?_⟩
      simp [D.abs, D.pow, es, hb, hr, range0, e1, hz]
  unfold g_law_numbers
  refine seq_step (P := fun r => ∃ vs : List Int, vs.length = m.toNat ∧ (∀ v ∈ vs, 0 ≤ v) ∧ ∃ ρ', r = .ret (.nd .lst .c () (vs.map T.int)) ρ') (by simp; rfl) ?_
  refine seq_step (P := fun r => ∃ vs : List Int, vs.length = m.toNat ∧ (∀ v ∈ vs, 0 ≤ v) ∧ ∃ ρ', r = .ret (.nd .lst .c () (vs.map T.int)) ρ') (by simp; rfl) ?_
  obtain ⟨cell, skip, e⟩ : ∃ cell skip : Int, (S.ite (E.bin D.lt (E.at (P.var 1)) (E.args D.len (E.cons (E.at (P.var 0)) E.nil))) (S.seq (S.asg (E.bin D.idx (E.at (P.var 0)) (E.at (P.var 1))) (G.name 3)) S.nil) (S.seq (S.ite (E.and (E.bin D.gt (E.args D.len (E.cons (E.at (P.var 0)) E.nil)) (E.c (.int 0))) (E.bin D.lt (E.args D.abs (E.cons (E.bin D.idx (E.at (P.var 0)) (E.bin D.mod (E.args D.int_ (E.cons (E.at (P.var 1)) E.nil)) (E.args D.len (E.cons (E.at (P.var 0)) E.nil)))) E.nil)) (E.bin D.pow (E.c (.int 10)) (E.c (.int 18))))) (S.seq (S.asg (E.bin D.idx (E.at (P.var 0)) (E.bin D.mod (E.args D.int_ (E.cons (E.at (P.var 1)) E.nil)) (E.args D.len (E.cons (E.at (P.var 0)) E.nil)))) (G.name 3)) (S.seq (S.asg (E.bin D.mul (E.c (.int 60)) (E.at (P.var 1))) (G.name 4)) S.nil)) S.nil) S.nil)) [some (.nd .scr .c () (ns.map T.int)), some (.int a), some (.int m), some (.int 0), some (.int 0), none, none, none, none] = .nx [some (.nd .scr .c () (ns.map T.int)), some (.int a), some (.int m), some (.int cell), some (.int skip), none, none, none, none] := by
    by_cases h1 : a < ns.length
    · obtain ⟨v, _, hv⟩ := ints_at ha h1
      exact ⟨v, 0, by simp [h1, hv]⟩
    · by_cases h2 : (0 : Int) < ns.length
      · have h2n : 0 < ns.length := by omega
        obtain ⟨v, _, hv⟩ := ints_at (ns := ns) (a := a % ns.length) (Int.emod_nonneg _ (by omega)) (Int.emod_lt_of_pos _ h2)
        have e60 : D.mul (.int 60) (.int a) = some (.int (60 * a)) := d_mul (okMul_l (by omega) (by omega))
        by_cases h6 : (if v < 0 then -v else v) < 1000000000000000000
        · exact ⟨v, 60 * a, by simp [h1, h2, h2n, hv, d_mod, D.abs, D.pow, h6, e60]⟩
        · exact ⟨0, 0, by simp [h1, h2, h2n, hv, d_mod, D.abs, D.pow, h6]⟩
      · have h2n : ¬ 0 < ns.length := by omega
        exact ⟨0, 0, by simp [h1, h2, h2n]⟩
  exact seq_step (P := fun r => ∃ vs : List Int, vs.length = m.toNat ∧ (∀ v ∈ vs, 0 ≤ v) ∧ ∃ ρ', r = .ret (.nd .lst .c () (vs.map T.int)) ρ') e (tail cell skip)
def wordsS : List Str := ["end", "a", "invoke", "start", "hook", "release", "callback", "call", "skip", "baaaaaaa", "acquire", "return", "done", "entry"]
def wordsC : List (List Nat) := [[101, 110, 100], [97], [105, 110, 118, 111, 107, 101], [115, 116, 97, 114, 116], [104, 111, 111, 107], [114, 101, 108, 101, 97, 115, 101], [99, 97, 108, 108, 98, 97, 99, 107], [99, 97, 108, 108], [115, 107, 105, 112], [98, 97, 97, 97, 97, 97, 97, 97], [97, 99, 113, 117, 105, 114, 101], [114, 101, 116, 117, 114, 110], [100, 111, 110, 101], [101, 110, 116, 114, 121]]
def strC (c : List Nat) : Str := ⟨c.toArray⟩
theorem wordsC_eq : wordsS = wordsC.map strC := by decide +kernel
def wordN (n : Nat) : Str := strC (wordsC.getD n [])
theorem wordC_ne : ∀ i < 14, ∀ j < 14, i ≠ j → wordsC.getD i [] ≠ wordsC.getD j [] := by decide +kernel
theorem strC_inj {c d : List Nat} (h : strC c = strC d) : c = d := by
  have h : (c.toArray).toList = (d.toArray).toList := congrArg (fun s : Str => s.cps.toList) h
  simpa using h
theorem wordN_ne (i : Nat) (hi : i < 14) (j : Nat) (hj : j < 14) (h : i ≠ j) : wordN i ≠ wordN j := fun e => wordC_ne i hi j hj h (strC_inj e)
theorem wordN_at (i : Nat) (h : i < 14) : wordsS[i]? = some (wordN i) := by
  have hl : i < wordsC.length := h
  rw [wordsC_eq, List.getElem?_map, List.getElem?_eq_getElem hl]
  unfold wordN
  simp [List.getD_eq_getElem?_getD, List.getElem?_eq_getElem hl]
theorem wordN_mem (i : Nat) (h : i < 14) : wordN i ∈ wordsS := List.mem_of_getElem? (wordN_at i h)
theorem idx_nd : ∀ a < 14, ∀ w ∈ [1, 3, 5, 9, 11, 13], ((List.range 14).map fun k => (a + w * k) % 14).Nodup := by decide
theorem names_ok (s t : Int) : ∃ ws : List Str, ws.length = 14 ∧ ws.Nodup ∧ (∀ w ∈ ws, w ∈ wordsS) ∧ c_law_names.fn [.int s, .int t] = .ok (.nd .lst .o () (ws.map T.str)) [] := by
  have hz := sizeLine_eq
  obtain ⟨a, ha⟩ : ∃ a : Nat, (a : Int) = s % 14 := ⟨(s % 14).toNat, by omega⟩
  have ha14 : a < 14 := by omega
  obtain ⟨w, hw, hw20, e1⟩ : ∃ w : Nat, w ∈ [1, 3, 5, 9, 11, 13] ∧ w < 20 ∧ atI [T.int 1, T.int 3, T.int 5, T.int 9, T.int 11, T.int 13] (t % 6) = some (T.int (w : Int) : D) := by
    obtain ⟨c, hc⟩ : ∃ c : Nat, (c : Int) = t % 6 := ⟨(t % 6).toNat, by omega⟩
    have hc6 : c < 6 := by omega
    have hs : ∀ c < 6, ∃ w ∈ [1, 3, 5, 9, 11, 13], [1, 3, 5, 9, 11, 13][c]? = some w := by decide
    obtain ⟨w, h1, h2⟩ := hs c hc6
    refine ⟨w, h1, by simp at h1; omega, ?_⟩
    rw [← hc]
    refine atI_nat (zs := [1, 3, 5, 9, 11, 13].map fun n : Nat => T.int (n : Int)) ?_
    rw [List.getElem?_map, h2]; rfl
  obtain ⟨v, hv⟩ : ∃ v : Int, v = (w : Int) := ⟨_, rfl⟩
  rw [← hv] at e1
  obtain ⟨ws, hws⟩ : ∃ ws, ws = (List.range 14).map fun k => wordN ((a + w * k) % 14) := ⟨_, rfl⟩
  refine ⟨ws, by rw [hws]; simp, ?_, fun z hz => ?_, ?_⟩
  · have h := idx_nd a ha14 w hw
    rw [hws, show (fun k => wordN ((a + w * k) % 14)) = wordN ∘ fun k => (a + w * k) % 14 from rfl, ← List.map_map]
    refine List.pairwise_map.mpr (h.imp_of_mem fun {i j} hi hj hij => wordN_ne i ?_ j ?_ hij)
    · obtain ⟨k, _, rfl⟩ := List.mem_map.mp hi; exact Nat.mod_lt _ (by decide)
    · obtain ⟨k, _, rfl⟩ := List.mem_map.mp hj; exact Nat.mod_lt _ (by decide)
  · rw [hws] at hz
    obtain ⟨k, _, rfl⟩ := List.mem_map.mp hz
    exact wordN_mem _ (Nat.mod_lt _ (by decide))
  · have e3 : ∀ k : Nat, k < 14 → atI (wordsS.map T.str) ((s + v * k) % 14) = some (T.str (wordN ((a + w * k) % 14)) : D) := fun k hk => by
      refine atI_some (by omega) ?_
      have : ((s + v * k) % 14).toNat = (a + w * k) % 14 := by
        rw [hv]
        have h2 : ((w : Int) * (k : Int)) = ((w * k : Nat) : Int) := by simp
        rw [h2]
        omega
      rw [List.getElem?_map, this, wordN_at _ (Nat.mod_lt _ (by decide))]; rfl
    refine run_ret (ρ' := [some (.int s), some (.int t), some (.nd .lst .o () (wordsS.map T.str)), none]) ?_ (by simp)
    have ew : ([.str "end", .str "a", .str "invoke", .str "start", .str "hook", .str "release", .str "callback", .str "call", .str "skip", .str "baaaaaaa", .str "acquire", .str "return", .str "done", .str "entry"] : List D) = wordsS.map T.str := rfl
    unfold g_law_names
    refine seq_step (P := fun r => r = _) (ρ1 := [some (.int s), some (.int t), some (.nd .lst .o () (wordsS.map T.str)), none]) (by simp [hz, ← ew]) ?_
    clear ew
    generalize wordsS = W at e3 ⊢
    have lst : ∀ {r : R D} {ρ' : Vl.Env}, r = .ok (.nd .lst .o () (ws.map T.str)) ρ' → K.seq S.nil (K.ret r) = .ret (.nd .lst .o () (ws.map T.str)) ρ' := fun h => by rw [h]; simp
    simp [hz, okrg, range0]
    refine lst (q_lc (by simp [hz]) ?_)
    rw [hws, List.map_map]
    refine lcMap fun k hk => ?_
    have hk : k < 14 := by simpa using hk
    have e2 : D.mul (.int v) (.int (k : Int)) = some (.int (v * k)) := d_mul (okMul_r (by omega) (by omega))
    exact ⟨[some (.int s), some (.int t), some (.nd .lst .o () (W.map T.str)), some (.int k)], _, [some (.int s), some (.int t), some (.nd .lst .o () (W.map T.str)), some (.int k)], by simp, by simp; rfl, by simp [d_mod, e1, e2, e3 k hk, show 6 ≤ sizeLine by omega], rfl⟩
theorem np_leaf : c_law_leaf.np = 2 := rfl
/-- data without dicts and instances, settled, of depth below n -/
def nice : Nat → D → Bool
  | 0, _ => false
  | _ + 1, .non => true
  | _ + 1, .bl _ => true
  | _ + 1, .int _ => true
  | _ + 1, .str _ => true
  | n + 1, .nd .tup .c _ xs => xs.all (nice n)
  | n + 1, .nd .lst .c _ xs => xs.all (nice n)
  | _ + 1, _ => false
def kidsD : D → List D
  | .nd _ _ _ xs => xs
  | _ => []
def nszL (n : Nat) : List D → Nat := fun xs => Nat.rec (fun _ => 0) (fun _ r xs => (xs.map fun x => 1 + r (kidsD x)).sum) n xs
theorem nszL_zero (xs : List D) : nszL 0 xs = 0 := rfl
theorem nszL_succ (n : Nat) (xs : List D) : nszL (n + 1) xs = (xs.map fun x => 1 + nszL n (kidsD x)).sum := rfl
theorem nszL_cons (n : Nat) (x : D) (xs : List D) : nszL (n + 1) (x :: xs) = 1 + nszL n (kidsD x) + nszL (n + 1) xs := by rw [nszL_succ, nszL_succ]; simp
theorem nszL_app : ∀ (n : Nat) (xs ys : List D), nszL n (xs ++ ys) = nszL n xs + nszL n ys
  | 0, _, _ => rfl
  | n + 1, xs, ys => by rw [nszL_succ, nszL_succ, nszL_succ]; simp
theorem nszL_len (n : Nat) : ∀ xs : List D, xs.length ≤ nszL (n + 1) xs
  | [] => Nat.zero_le _
  | x :: xs => by have := nszL_len n xs; rw [nszL_cons, List.length_cons]; omega
theorem nszL_flat (n : Nat) : ∀ xs : List D, nszL n (xs.flatMap kidsD) ≤ nszL (n + 1) xs
  | [] => by
    have : nszL n ([] : List D) = 0 := by cases n <;> rfl
    rw [List.flatMap_nil, this]; exact Nat.zero_le _
  | x :: xs => by have := nszL_flat n xs; rw [List.flatMap_cons, nszL_app, nszL_cons]; omega
theorem nice_cold : ∀ (n : Nat) (d : D), nice n d = true → T.all isC d = true
  | 0, _, h => by cases h
  | n + 1, .non, _ => rfl
  | n + 1, .bl _, _ => rfl
  | n + 1, .int _, _ => rfl
  | n + 1, .str _, _ => rfl
  | n + 1, .nd .tup .c u xs, h => by
    have h : xs.all (nice n) = true := h
    show (isC .c && allL isC xs) = true
    rw [allL_eq, Bool.and_eq_true]
    rw [List.all_eq_true] at h ⊢
    exact ⟨rfl, fun x hx => nice_cold n x (h x hx)⟩
  | n + 1, .nd .lst .c u xs, h => by
    have h : xs.all (nice n) = true := h
    show (isC .c && allL isC xs) = true
    rw [allL_eq, Bool.and_eq_true]
    rw [List.all_eq_true] at h ⊢
    exact ⟨rfl, fun x hx => nice_cold n x (h x hx)⟩
theorem leaf_ok (x : D) (hk : ∀ k m u xs, x ≠ .nd k m u xs) : c_law_leaf.fn [x, x] = .ok (.bl true) [] := by
  show runF [] 2 g_law_leaf _ = _
  cases x with
  | nd k m u xs => exact absurd rfl (hk k m u xs)
  | non => exact run_ret (ρ' := [some .non, some .non]) (by unfold g_law_leaf; simp) rfl
  | bl b => exact run_ret (ρ' := [some (.bl b), some (.bl b)]) (by unfold g_law_leaf; simp [isi_eq, isTy]) rfl
  | int b => exact run_ret (ρ' := [some (.int b), some (.int b)]) (by unfold g_law_leaf; simp [isi_eq, isTy]) rfl
  | str b => exact run_ret (ρ' := [some (.str b), some (.str b)]) (by unfold g_law_leaf; simp [isi_eq, isTy]) rfl
abbrev dup (x : D) : D := .nd .tup .c () [x, x]
theorem zip_self (xs : List D) : List.map (fun a => pr2D a a) xs = xs.map dup := rfl
theorem same_turn (told due pairs depth : Option D) (n : Nat) (x : D) (ys : List D) (o t : Option D) (hx : nice (n + 1) x = true) (hn7 : n ≤ 6) (hl : ys.length + (kidsD x).length ≤ sizeLine) :
    ∃ ρ1, G.tup [G.name 5, G.name 6] (dup x) [told, due, pairs, depth, some (.nd .lst .o () (ys.map dup)), o, t] = some ρ1 ∧ b_law_same_1 ρ1 = .nx [told, due, pairs, depth, some (.nd .lst .o () ((ys ++ kidsD x).map dup)), some x, some x] := by
  refine ⟨[told, due, pairs, depth, some (.nd .lst .o () (ys.map dup)), some x, some x], by simp [dup, G.tup, goG], ?_⟩
  have cx := nice_cold _ _ hx
  have vx : T.mk lend x = x := vw_cold cx
  have fx : T.mk calm x = x := fz_cold' cx
  unfold b_law_same_1
  have leaf : (∀ k m u xs, x ≠ .nd k m u xs) → kidsD x = [] → (∃ s, D.tyn x = some s ∧ isTy "tuple" s = false ∧ isTy "list" s = false) →
      (S.seq (S.ite (E.or (E.un D.tru (E.isi "tuple" (E.at (P.var 6)))) (E.un D.tru (E.isi "list" (E.at (P.var 6))))) (S.seq (S.ite (E.and (E.un D.tru (E.isi "tuple" (E.at (P.var 6)))) (E.un D.not (E.un D.tru (E.isi "tuple" (E.at (P.var 5)))))) (S.seq (S.ret (E.c (.bl false))) S.nil) S.nil) (S.seq (S.ite (E.and (E.un D.tru (E.isi "list" (E.at (P.var 6)))) (E.un D.not (E.un D.tru (E.isi "list" (E.at (P.var 5)))))) (S.seq (S.ret (E.c (.bl false))) S.nil) S.nil) (S.seq (S.ite (E.bin D.ne (E.args D.len (E.cons (E.at (P.var 5)) E.nil)) (E.args D.len (E.cons (E.at (P.var 6)) E.nil))) (S.seq (S.ret (E.c (.bl false))) S.nil) S.nil) (S.seq (S.extend (P.var 4) (E.args D.lzip (E.cons (E.at (P.var 5)) (E.cons (E.at (P.var 6)) E.nil)))) S.nil)))) (S.seq (S.ite (E.un D.not (E.un D.tru (E.call c_law_leaf [] (E.cons (E.tk (P.var 5)) (E.cons (E.tk (P.var 6)) E.nil))))) (S.seq (S.ret (E.c (.bl false))) S.nil) S.nil) S.nil)) S.nil) [told, due, pairs, depth, some (.nd .lst .o () (ys.map dup)), some x, some x] = .nx [told, due, pairs, depth, some (.nd .lst .o () ((ys ++ kidsD x).map dup)), some x, some x] := by
    intro h1 h2 ⟨s, h6, h7, h8⟩
    have e := leaf_ok x h1
    simp [isi_eq, vx, h6, h7, h8, cx, np_leaf, e, h2]
  cases x with
  | non => exact leaf (fun _ _ _ _ z => by cases z) rfl ⟨_, rfl, by decide, by decide⟩
  | bl b => exact leaf (fun _ _ _ _ z => by cases z) rfl ⟨_, rfl, by decide, by decide⟩
  | int b => exact leaf (fun _ _ _ _ z => by cases z) rfl ⟨_, rfl, by decide, by decide⟩
  | str b => exact leaf (fun _ _ _ _ z => by cases z) rfl ⟨_, rfl, by decide, by decide⟩
  | nd k m u xs =>
    have cl : allL isC xs = true := by
      have : (isC m && allL isC xs) = true := cx
      rw [Bool.and_eq_true] at this; exact this.2
    have hl2 : ys.length + xs.length ≤ sizeLine := hl
    have clz : allL isC (xs.map dup) = true := by
      rw [allL_eq, List.all_eq_true] at cl ⊢
      intro z hz
      obtain ⟨x, hx, rfl⟩ := List.mem_map.mp hz
      have := cl x hx
      simp [dup, this]
    cases k with
    | tup =>
      cases m with
      | c =>
        have v2 : mkL lend xs = xs := lend_cold cl
        simp [isi_eq, isTy, v2, cl, clz, zip_self, kidsD, hl2]
      | o => cases cx
      | b => cases cx
    | lst =>
      cases m with
      | c =>
        have v2 : mkL lend xs = xs := lend_cold cl
        simp [isi_eq, isTy, v2, cl, clz, zip_self, kidsD, hl2]
      | o => cases cx
      | b => cases cx
    | _ => cases m <;> cases hx
theorem same_ok (x : D) (hx : nice 7 x = true) (hs : nszL 8 [x] ≤ sizeLine) : c_law_same.fn [x, x] = .ok (.bl true) [] := by
  have hz := sizeLine_eq
  have cx := nice_cold _ _ hx
  show runF [] 7 g_law_same _ = _
  suffices go : ∃ ρ', g_law_same [some x, some x, none, none, none, none, none] = .ret (.bl true) ρ' by
    obtain ⟨ρ', e⟩ := go
    exact run_ret e rfl
  unfold g_law_same
  refine seq_step (P := fun r => ∃ ρ', r = .ret (.bl true) ρ') (ρ1 := [some x, some x, some (.nd .lst .o () ([x].map dup)), none, none, none, none]) (by simp [cx, fz_cold' cx, hz, dup, all_of_cold (p := notB) rfl cx]) ?_
  obtain ⟨ρ', e, y0, y1, xs, m, y3, y4, y5, y6, hm, h1, h2, rfl⟩ := forInv (g := G.name 3) (body := b_law_same_2) (e := fun i : Nat => (T.int i : D)) (as := List.range 7) (j := 0)
    (fun i ρ => ∃ (y0 y1 : Option D) (xs : List D) (m : Mk) (y3 y4 y5 y6 : Option D), m ≠ .b ∧ (∀ x ∈ xs, nice (7 - i) x = true) ∧ nszL (8 - i) xs ≤ sizeLine ∧ ρ = [y0, y1, some (.nd .lst m () (xs.map dup)), y3, y4, y5, y6])
    ⟨some x, some x, [x], .o, none, none, none, none, by decide, by simpa using hx, hs, rfl⟩ fun i k ρ hk ⟨y0, y1, xs, m, y3, y4, y5, y6, hm, h1, h2, e⟩ => by
      subst e
      simp only [Nat.zero_add] at h1 h2
      have hi : i < 7 := by simpa using (List.getElem?_eq_some_iff.mp hk).1
      have cd : ∀ zs : List D, (∀ z ∈ zs, T.all isC z = true) → allL isC (zs.map dup) = true := fun zs h => by
        rw [allL_eq, List.all_eq_true]
        intro z hz
        obtain ⟨x, hx, rfl⟩ := List.mem_map.mp hz
        simp [dup, h x hx]
      have cxs := cd xs fun z hz => nice_cold _ _ (h1 z hz)
      have hfl := nszL_flat (8 - (i + 1)) xs
      rw [show 8 - (i + 1) + 1 = 8 - i by omega] at hfl
      have hn : ∀ z ∈ xs.flatMap kidsD, nice (7 - (i + 1)) z = true := fun z hz => by
        obtain ⟨x, hx, hzx⟩ := List.mem_flatMap.mp hz
        have := h1 x hx
        rw [show 7 - i = (7 - (i + 1)) + 1 by omega] at this
        cases x with
        | nd k m u ws =>
          cases k with
          | tup => cases m with
            | c => exact List.all_eq_true.mp (show ws.all (nice (7 - (i + 1))) = true from this) z hzx
            | o => cases this
            | b => cases this
          | lst => cases m with
            | c => exact List.all_eq_true.mp (show ws.all (nice (7 - (i + 1))) = true from this) z hzx
            | o => cases this
            | b => cases this
          | _ => cases m <;> cases this
        | _ => cases hzx
      obtain ⟨ρ', e, o, t, rfl⟩ := forInv (g := G.tup [G.name 5, G.name 6]) (body := b_law_same_1) (e := dup) (as := xs) (j := 0)
        (fun q ρ => ∃ o t : Option D, ρ = [y0, y1, some (.nd .lst .c () (xs.map dup)), some (.int k), some (.nd .lst .o () (((xs.take q).flatMap kidsD).map dup)), o, t])
        ⟨y5, y6, rfl⟩ fun q z ρ hq ⟨o, t, e⟩ => by
          subst e
          have hql := (List.getElem?_eq_some_iff.mp hq).1
          have hzm := List.mem_of_getElem? hq
          have hz1 := h1 z hzm
          rw [show 7 - i = (7 - (i + 1)) + 1 by omega] at hz1
          have tk : xs.take (q + 1) = xs.take q ++ [z] := by rw [List.take_succ, hq]; rfl
          have hll : ((xs.take q).flatMap kidsD).length + (kidsD z).length ≤ sizeLine := by
            have h3 : ((xs.take (q + 1)).flatMap kidsD).length ≤ (xs.flatMap kidsD).length := by
              conv => rhs; rw [← List.take_append_drop (q + 1) xs, List.flatMap_append, List.length_append]
              exact Nat.le_add_right _ _
            rw [tk, List.flatMap_append, List.length_append] at h3
            have h4 : (List.flatMap kidsD [z]).length = (kidsD z).length := by simp
            by_cases h0 : 8 - (i + 1) = 0
            · omega
            · obtain ⟨n, hn8⟩ : ∃ n, 8 - (i + 1) = n + 1 := ⟨8 - (i + 1) - 1, by omega⟩
              rw [hn8] at hfl
              have := nszL_len n (xs.flatMap kidsD)
              omega
          obtain ⟨ρ1, e1, e2⟩ := same_turn y0 y1 (some (.nd .lst .c () (xs.map dup))) (some (.int k)) (7 - (i + 1)) z ((xs.take q).flatMap kidsD) o t hz1 (by omega) hll
          rw [show 0 + q = q by omega]
          refine ⟨ρ1, _, e1, .inl e2, some z, some z, ?_⟩
          rw [tk, List.flatMap_append]; simp
      refine ⟨[y0, y1, some (.nd .lst m () (xs.map dup)), some (.int k), y4, y5, y6], [y0, y1, some (.nd .lst .o () ((xs.flatMap kidsD).map dup)), some (.int k), some (.nd .lst .o () ((xs.flatMap kidsD).map dup)), o, t], by simp, .inl ?_, y0, y1, xs.flatMap kidsD, .o, _, _, _, _, by decide, by rw [Nat.zero_add]; exact hn, by rw [Nat.zero_add]; omega, rfl⟩
      have cfl := cd (xs.flatMap kidsD) fun z hz => nice_cold _ _ (hn z hz)
      rw [Nat.zero_add, List.take_length] at e
      simp only [List.take_zero, List.flatMap_nil, List.map_nil] at e
      unfold b_law_same_2
      have vx := calm_cold cxs
      have vl := lend_cold cfl
      cases m with
      | b => exact absurd rfl hm
      | c => simp [hz, cxs, e, cfl, vl, allC_notB cfl]
      | o => simp [hz, cxs, vx, e, cfl, vl, allC_notB cxs, allC_notB cfl]
  have hx0 : xs = [] := by
    cases xs with
    | nil => rfl
    | cons z zs => have := h1 z List.mem_cons_self; cases this
  subst hx0
  have e : forL (G.name 3) b_law_same_2 ((List.range 7).map fun i : Nat => (T.int i : D)) [some x, some x, some (T.nd .lst .o () ([x].map dup)), none, none, none, none] = _ := e
  simp only [List.map_cons, List.map_nil] at e
  simp [okrg, range0, e]
theorem run_exc {m : Nat} {g : Sv} {as : List D} {n : Str} {fs : List (Str × D)} {ρ' : Vl.Env} (h : g (as.map some ++ List.replicate (m - as.length) none) = .exc n fs ρ') : runF [] m g as = .exc n fs [] := by
  unfold runF
  rw [h]
  rfl
theorem r_skip {k c : Int} {A B : Option D} {u g : Sv} (h : k ≠ c) : S.seq (S.ite (E.bin D.eq (E.at (P.var 0)) (E.c (.int c))) u S.nil) g [some (.int k), A, B] = g [some (.int k), A, B] := by simp [h]
theorem r_hit {k : Int} {A B : Option D} {u g : Sv} {n : Str} {fs : List (Str × D)} {ρ : Vl.Env} (h : u [some (.int k), A, B] = .exc n fs ρ) : S.seq (S.ite (E.bin D.eq (E.at (P.var 0)) (E.c (.int k))) (S.seq u S.nil) S.nil) g [some (.int k), A, B] = .exc n fs ρ := by simp [h]
theorem r_end {u : Sv} {ρ0 ρ : Vl.Env} {n : Str} {fs : List (Str × D)} (h : u ρ0 = .exc n fs ρ) : S.seq u S.nil ρ0 = .exc n fs ρ := by simp [h]
section
variable {a b : D} (ha : T.all isC a = true) (hb : T.all isC b = true) (na : T.all notB a = true) (nb : T.all notB b = true) (ca : T.mk calm a = a) (cb : T.mk calm b = b)
include ha na ca in
theorem rz1 {n f : Str} {k : Int} : S.raise n [f] (E.cons (E.tk (P.var 1)) E.nil) [some (.int k), some a, some b] = .exc n [(f, a)] [some (.int k), some a, some b] := by simp [S.raise, ha, na, ca, flds]
include ha na ca hb nb cb in
theorem rz2 {n f f2 : Str} {k : Int} : S.raise n [f, f2] (E.cons (E.tk (P.var 1)) (E.cons (E.tk (P.var 2)) E.nil)) [some (.int k), some a, some b] = .exc n [(f2, b), (f, a)] [some (.int k), some a, some b] := by simp [S.raise, ha, na, ca, hb, nb, cb, flds]
include ha hb na nb ca cb in
theorem raise_0 : c_law_raise.fn [.int 0, a, b] = .exc "BadForm" [("number", a)] [] := run_exc (m := 3) (g := g_law_raise) (as := [.int 0, a, b]) (ρ' := [some (.int 0), some a, some b]) (by unfold g_law_raise; exact (r_hit (rz1 ha na ca)))
include ha hb na nb ca cb in
theorem raise_1 : c_law_raise.fn [.int 1, a, b] = .exc "Misplaced" [("number", a)] [] := run_exc (m := 3) (g := g_law_raise) (as := [.int 1, a, b]) (ρ' := [some (.int 1), some a, some b]) (by unfold g_law_raise; exact ((r_skip (by decide)).trans (r_hit (rz1 ha na ca))))
include ha hb na nb ca cb in
theorem raise_2 : c_law_raise.fn [.int 2, a, b] = .exc "Duplicate" [("number", a)] [] := run_exc (m := 3) (g := g_law_raise) (as := [.int 2, a, b]) (ρ' := [some (.int 2), some a, some b]) (by unfold g_law_raise; exact ((r_skip (by decide)).trans ((r_skip (by decide)).trans (r_hit (rz1 ha na ca)))))
include ha hb na nb ca cb in
theorem raise_3 : c_law_raise.fn [.int 3, a, b] = .exc "Unknown" [("number", a)] [] := run_exc (m := 3) (g := g_law_raise) (as := [.int 3, a, b]) (ρ' := [some (.int 3), some a, some b]) (by unfold g_law_raise; exact ((r_skip (by decide)).trans ((r_skip (by decide)).trans ((r_skip (by decide)).trans (r_hit (rz1 ha na ca))))))
include ha hb na nb ca cb in
theorem raise_4 : c_law_raise.fn [.int 4, a, b] = .exc "NotNested" [("number", a)] [] := run_exc (m := 3) (g := g_law_raise) (as := [.int 4, a, b]) (ρ' := [some (.int 4), some a, some b]) (by unfold g_law_raise; exact ((r_skip (by decide)).trans ((r_skip (by decide)).trans ((r_skip (by decide)).trans ((r_skip (by decide)).trans (r_hit (rz1 ha na ca)))))))
include ha hb na nb ca cb in
theorem raise_5 : c_law_raise.fn [.int 5, a, b] = .exc "TooMany" [("number", a)] [] := run_exc (m := 3) (g := g_law_raise) (as := [.int 5, a, b]) (ρ' := [some (.int 5), some a, some b]) (by unfold g_law_raise; exact ((r_skip (by decide)).trans ((r_skip (by decide)).trans ((r_skip (by decide)).trans ((r_skip (by decide)).trans ((r_skip (by decide)).trans (r_hit (rz1 ha na ca))))))))
include ha hb na nb ca cb in
theorem raise_6 : c_law_raise.fn [.int 6, a, b] = .exc "TooLong" [("number", a)] [] := run_exc (m := 3) (g := g_law_raise) (as := [.int 6, a, b]) (ρ' := [some (.int 6), some a, some b]) (by unfold g_law_raise; exact ((r_skip (by decide)).trans ((r_skip (by decide)).trans ((r_skip (by decide)).trans ((r_skip (by decide)).trans ((r_skip (by decide)).trans ((r_skip (by decide)).trans (r_hit (rz1 ha na ca)))))))))
include ha hb na nb ca cb in
theorem raise_7 : c_law_raise.fn [.int 7, a, b] = .exc "NoName" [("name", a)] [] := run_exc (m := 3) (g := g_law_raise) (as := [.int 7, a, b]) (ρ' := [some (.int 7), some a, some b]) (by unfold g_law_raise; exact ((r_skip (by decide)).trans ((r_skip (by decide)).trans ((r_skip (by decide)).trans ((r_skip (by decide)).trans ((r_skip (by decide)).trans ((r_skip (by decide)).trans ((r_skip (by decide)).trans (r_hit (rz1 ha na ca))))))))))
include ha hb na nb ca cb in
theorem raise_8 : c_law_raise.fn [.int 8, a, b] = .exc "Repeated" [("name", a)] [] := run_exc (m := 3) (g := g_law_raise) (as := [.int 8, a, b]) (ρ' := [some (.int 8), some a, some b]) (by unfold g_law_raise; exact ((r_skip (by decide)).trans ((r_skip (by decide)).trans ((r_skip (by decide)).trans ((r_skip (by decide)).trans ((r_skip (by decide)).trans ((r_skip (by decide)).trans ((r_skip (by decide)).trans ((r_skip (by decide)).trans (r_hit (rz1 ha na ca)))))))))))
include ha hb na nb ca cb in
theorem raise_9 : c_law_raise.fn [.int 9, a, b] = .exc "Overfull" [] [] := run_exc (m := 3) (g := g_law_raise) (as := [.int 9, a, b]) (ρ' := [some (.int 9), some a, some b]) (by unfold g_law_raise; exact ((r_skip (by decide)).trans ((r_skip (by decide)).trans ((r_skip (by decide)).trans ((r_skip (by decide)).trans ((r_skip (by decide)).trans ((r_skip (by decide)).trans ((r_skip (by decide)).trans ((r_skip (by decide)).trans ((r_skip (by decide)).trans (r_hit rfl)))))))))))
include ha hb na nb ca cb in
theorem raise_10 : c_law_raise.fn [.int 10, a, b] = .exc "WrongMove" [("move", a)] [] := run_exc (m := 3) (g := g_law_raise) (as := [.int 10, a, b]) (ρ' := [some (.int 10), some a, some b]) (by unfold g_law_raise; exact ((r_skip (by decide)).trans ((r_skip (by decide)).trans ((r_skip (by decide)).trans ((r_skip (by decide)).trans ((r_skip (by decide)).trans ((r_skip (by decide)).trans ((r_skip (by decide)).trans ((r_skip (by decide)).trans ((r_skip (by decide)).trans ((r_skip (by decide)).trans (r_hit (rz1 ha na ca)))))))))))))
include ha hb na nb ca cb in
theorem raise_11 : c_law_raise.fn [.int 11, a, b] = .exc "BadRun" [("at", a)] [] := run_exc (m := 3) (g := g_law_raise) (as := [.int 11, a, b]) (ρ' := [some (.int 11), some a, some b]) (by unfold g_law_raise; exact ((r_skip (by decide)).trans ((r_skip (by decide)).trans ((r_skip (by decide)).trans ((r_skip (by decide)).trans ((r_skip (by decide)).trans ((r_skip (by decide)).trans ((r_skip (by decide)).trans ((r_skip (by decide)).trans ((r_skip (by decide)).trans ((r_skip (by decide)).trans ((r_skip (by decide)).trans (r_hit (rz1 ha na ca))))))))))))))
include ha hb na nb ca cb in
theorem raise_12 : c_law_raise.fn [.int 12, a, b] = .exc "NoThread" [("thread", a)] [] := run_exc (m := 3) (g := g_law_raise) (as := [.int 12, a, b]) (ρ' := [some (.int 12), some a, some b]) (by unfold g_law_raise; exact ((r_skip (by decide)).trans ((r_skip (by decide)).trans ((r_skip (by decide)).trans ((r_skip (by decide)).trans ((r_skip (by decide)).trans ((r_skip (by decide)).trans ((r_skip (by decide)).trans ((r_skip (by decide)).trans ((r_skip (by decide)).trans ((r_skip (by decide)).trans ((r_skip (by decide)).trans ((r_skip (by decide)).trans (r_hit (rz1 ha na ca)))))))))))))))
include ha hb na nb ca cb in
theorem raise_13 : c_law_raise.fn [.int 13, a, b] = .exc "MustWait" [("blocker", b), ("lock", a)] [] := run_exc (m := 3) (g := g_law_raise) (as := [.int 13, a, b]) (ρ' := [some (.int 13), some a, some b]) (by unfold g_law_raise; exact ((r_skip (by decide)).trans ((r_skip (by decide)).trans ((r_skip (by decide)).trans ((r_skip (by decide)).trans ((r_skip (by decide)).trans ((r_skip (by decide)).trans ((r_skip (by decide)).trans ((r_skip (by decide)).trans ((r_skip (by decide)).trans ((r_skip (by decide)).trans ((r_skip (by decide)).trans ((r_skip (by decide)).trans ((r_skip (by decide)).trans (r_hit (rz2 ha hb na nb ca cb))))))))))))))))
include ha hb na nb ca cb in
theorem raise_14 : c_law_raise.fn [.int 14, a, b] = .exc "Refused" [("at", a)] [] := run_exc (m := 3) (g := g_law_raise) (as := [.int 14, a, b]) (ρ' := [some (.int 14), some a, some b]) (by unfold g_law_raise; exact ((r_skip (by decide)).trans ((r_skip (by decide)).trans ((r_skip (by decide)).trans ((r_skip (by decide)).trans ((r_skip (by decide)).trans ((r_skip (by decide)).trans ((r_skip (by decide)).trans ((r_skip (by decide)).trans ((r_skip (by decide)).trans ((r_skip (by decide)).trans ((r_skip (by decide)).trans ((r_skip (by decide)).trans ((r_skip (by decide)).trans ((r_skip (by decide)).trans (r_hit (rz1 ha na ca)))))))))))))))))
include ha hb na nb ca cb in
theorem raise_15 : c_law_raise.fn [.int 15, a, b] = .exc "Deadlocked" [("cycle", a)] [] := run_exc (m := 3) (g := g_law_raise) (as := [.int 15, a, b]) (ρ' := [some (.int 15), some a, some b]) (by unfold g_law_raise; exact ((r_skip (by decide)).trans ((r_skip (by decide)).trans ((r_skip (by decide)).trans ((r_skip (by decide)).trans ((r_skip (by decide)).trans ((r_skip (by decide)).trans ((r_skip (by decide)).trans ((r_skip (by decide)).trans ((r_skip (by decide)).trans ((r_skip (by decide)).trans ((r_skip (by decide)).trans ((r_skip (by decide)).trans ((r_skip (by decide)).trans ((r_skip (by decide)).trans ((r_skip (by decide)).trans (r_hit (rz1 ha na ca))))))))))))))))))
include ha hb na nb ca cb in
theorem raise_16 : c_law_raise.fn [.int 16, a, b] = .exc "NoRequest" [("request", a)] [] := run_exc (m := 3) (g := g_law_raise) (as := [.int 16, a, b]) (ρ' := [some (.int 16), some a, some b]) (by unfold g_law_raise; exact ((r_skip (by decide)).trans ((r_skip (by decide)).trans ((r_skip (by decide)).trans ((r_skip (by decide)).trans ((r_skip (by decide)).trans ((r_skip (by decide)).trans ((r_skip (by decide)).trans ((r_skip (by decide)).trans ((r_skip (by decide)).trans ((r_skip (by decide)).trans ((r_skip (by decide)).trans ((r_skip (by decide)).trans ((r_skip (by decide)).trans ((r_skip (by decide)).trans ((r_skip (by decide)).trans ((r_skip (by decide)).trans (r_hit (rz1 ha na ca)))))))))))))))))))
include ha hb na nb ca cb in
theorem raise_17 : c_law_raise.fn [.int 17, a, b] = .exc "NoContext" [("context", a)] [] := run_exc (m := 3) (g := g_law_raise) (as := [.int 17, a, b]) (ρ' := [some (.int 17), some a, some b]) (by unfold g_law_raise; exact ((r_skip (by decide)).trans ((r_skip (by decide)).trans ((r_skip (by decide)).trans ((r_skip (by decide)).trans ((r_skip (by decide)).trans ((r_skip (by decide)).trans ((r_skip (by decide)).trans ((r_skip (by decide)).trans ((r_skip (by decide)).trans ((r_skip (by decide)).trans ((r_skip (by decide)).trans ((r_skip (by decide)).trans ((r_skip (by decide)).trans ((r_skip (by decide)).trans ((r_skip (by decide)).trans ((r_skip (by decide)).trans ((r_skip (by decide)).trans (r_hit (rz1 ha na ca))))))))))))))))))))
include ha hb na nb ca cb in
theorem raise_18 : c_law_raise.fn [.int 18, a, b] = .exc "NoRunCycle" [] [] := run_exc (m := 3) (g := g_law_raise) (as := [.int 18, a, b]) (ρ' := [some (.int 18), some a, some b]) (by unfold g_law_raise; exact ((r_skip (by decide)).trans ((r_skip (by decide)).trans ((r_skip (by decide)).trans ((r_skip (by decide)).trans ((r_skip (by decide)).trans ((r_skip (by decide)).trans ((r_skip (by decide)).trans ((r_skip (by decide)).trans ((r_skip (by decide)).trans ((r_skip (by decide)).trans ((r_skip (by decide)).trans ((r_skip (by decide)).trans ((r_skip (by decide)).trans ((r_skip (by decide)).trans ((r_skip (by decide)).trans ((r_skip (by decide)).trans ((r_skip (by decide)).trans ((r_skip (by decide)).trans (r_hit rfl))))))))))))))))))))
include ha hb na nb ca cb in
theorem raise_19 : c_law_raise.fn [.int 19, a, b] = .exc "Clash" [("cycle", a)] [] := run_exc (m := 3) (g := g_law_raise) (as := [.int 19, a, b]) (ρ' := [some (.int 19), some a, some b]) (by unfold g_law_raise; exact ((r_skip (by decide)).trans ((r_skip (by decide)).trans ((r_skip (by decide)).trans ((r_skip (by decide)).trans ((r_skip (by decide)).trans ((r_skip (by decide)).trans ((r_skip (by decide)).trans ((r_skip (by decide)).trans ((r_skip (by decide)).trans ((r_skip (by decide)).trans ((r_skip (by decide)).trans ((r_skip (by decide)).trans ((r_skip (by decide)).trans ((r_skip (by decide)).trans ((r_skip (by decide)).trans ((r_skip (by decide)).trans ((r_skip (by decide)).trans ((r_skip (by decide)).trans ((r_skip (by decide)).trans (r_hit (rz1 ha na ca))))))))))))))))))))))
include ha hb na nb ca cb in
theorem raise_20 : c_law_raise.fn [.int 20, a, b] = .exc "NoLockOrder" [("cycle", a)] [] := run_exc (m := 3) (g := g_law_raise) (as := [.int 20, a, b]) (ρ' := [some (.int 20), some a, some b]) (by unfold g_law_raise; exact ((r_skip (by decide)).trans ((r_skip (by decide)).trans ((r_skip (by decide)).trans ((r_skip (by decide)).trans ((r_skip (by decide)).trans ((r_skip (by decide)).trans ((r_skip (by decide)).trans ((r_skip (by decide)).trans ((r_skip (by decide)).trans ((r_skip (by decide)).trans ((r_skip (by decide)).trans ((r_skip (by decide)).trans ((r_skip (by decide)).trans ((r_skip (by decide)).trans ((r_skip (by decide)).trans ((r_skip (by decide)).trans ((r_skip (by decide)).trans ((r_skip (by decide)).trans ((r_skip (by decide)).trans ((r_skip (by decide)).trans (r_hit (rz1 ha na ca)))))))))))))))))))))))
include ha hb na nb ca cb in
theorem raise_21 : c_law_raise.fn [.int 21, a, b] = .exc "LineError" [("number", a)] [] := run_exc (m := 3) (g := g_law_raise) (as := [.int 21, a, b]) (ρ' := [some (.int 21), some a, some b]) (by unfold g_law_raise; exact ((r_skip (by decide)).trans ((r_skip (by decide)).trans ((r_skip (by decide)).trans ((r_skip (by decide)).trans ((r_skip (by decide)).trans ((r_skip (by decide)).trans ((r_skip (by decide)).trans ((r_skip (by decide)).trans ((r_skip (by decide)).trans ((r_skip (by decide)).trans ((r_skip (by decide)).trans ((r_skip (by decide)).trans ((r_skip (by decide)).trans ((r_skip (by decide)).trans ((r_skip (by decide)).trans ((r_skip (by decide)).trans ((r_skip (by decide)).trans ((r_skip (by decide)).trans ((r_skip (by decide)).trans ((r_skip (by decide)).trans ((r_skip (by decide)).trans (r_end (rz1 ha na ca))))))))))))))))))))))))
end
theorem try_exc {g : Sv} {l : List Clv} {ρ ρ1 : Vl.Env} {n : Str} {fs : List (Str × D)} (h : g ρ = .exc n fs ρ1) : S.tryMany g l ρ = hdl l n fs ρ1 := by unfold S.tryMany; rw [h]
theorem hdl_yes {mt : Str → Option Bool} {i : Nat} {u : Str → List (Str × D) → Sv} {l : List Clv} {n : Str} {fs : List (Str × D)} {ρ : Vl.Env} (h : mt n = some true) (hi : i < ρ.length) : hdl (⟨mt, some i, u⟩ :: l) n fs ρ = (u n fs (ρ.set i (some (exnD n)))).unb i := by
  unfold hdl
  dsimp only
  rw [h]
  exact if_pos hi
theorem hdl_no {mt : Str → Option Bool} {s : Option Nat} {u : Str → List (Str × D) → Sv} {l : List Clv} {n : Str} {fs : List (Str × D)} {ρ : Vl.Env} (h : mt n = some false) : hdl (⟨mt, s, u⟩ :: l) n fs ρ = hdl l n fs ρ := by
  rw [hdl]
  dsimp only
  rw [h]
theorem hdl_bare {mt : Str → Option Bool} {u : Str → List (Str × D) → Sv} {l : List Clv} {n : Str} {fs : List (Str × D)} {ρ : Vl.Env} (h : mt n = some true) : hdl (⟨mt, none, u⟩ :: l) n fs ρ = (u n fs ρ).unx := by
  unfold hdl
  dsimp only
  rw [h]
theorem toR_exc {n : Str} {fs : List (Str × D)} {os : List D} {ρ : Vl.Env} : (Out.exc n fs os).toR ρ = .exc n fs ρ := rfl
theorem toS_exc {β : Type} {n : Str} {fs : List (Str × D)} {ρ : Vl.Env} {k : β → Vl.Env → SR} : (R.exc n fs ρ).toS k = .exc n fs ρ := rfl
def kl (n : Str) : List D := [.bl (sub n "LineError"), .bl (sub n "BadForm"), .bl (sub n "Misplaced"), .bl (sub n "Duplicate"), .bl (sub n "Unknown"), .bl (sub n "NotNested"), .bl (sub n "TooMany"), .bl (sub n "TooLong"), .bl (sub n "NoName"), .bl (sub n "Repeated"), .bl (sub n "Overfull"), .bl (sub n "WrongMove"), .bl (sub n "BadRun"), .bl (sub n "NoThread"), .bl (sub n "MustWait"), .bl (sub n "Refused"), .bl (sub n "Deadlocked"), .bl (sub n "NoRequest"), .bl (sub n "NoContext"), .bl (sub n "NoRunCycle"), .bl (sub n "Clash"), .bl (sub n "NoLockOrder"), .bl true]
section
variable {cr : Fc} {a b : D} {k : Int} {n : Str} {fs : List (Str × D)} (hp : cr.np = 3) (R : cr.fn [.int k, a, b] = .exc n fs []) (ha : T.all isC a = true) (hb : T.all isC b = true)
include hp R ha hb in
theorem call3 {A B : Option D} : S.seq (S.ex (E.call cr [] (E.cons (E.tk (P.var 0)) (E.cons (E.tk (P.var 1)) (E.cons (E.tk (P.var 2)) E.nil))))) S.nil [some (.int k), some a, some b, A, B] = .exc n fs [some (.int k), some a, some b, A, B] := by
  simp [S.ex, ha, hb, hp, R, toR_exc, toS_exc]
theorem u_kinds {A B C E0 : Option D} : u_law_kinds_1 n fs [A, B, C, E0, some (exnD n)] = .nx [A, B, C, some (.nd .lst .o () (kl n)), some (exnD n)] := by
  have hz := sizeLine_eq
  obtain ⟨L, hL⟩ : ∃ L, L = kl n := ⟨_, rfl⟩
  have h1 : allL notB L = true ∧ L.length ≤ sizeLine := by rw [hL]; exact ⟨rfl, by rw [hz]; show 23 ≤ _; decide⟩
  have h2 : mkL calm L = L := by rw [hL]; rfl
  unfold u_law_kinds_1
  rw [e_seq, e_asg, e_args]
  change K.seq S.nil (K.asg (G.name 3) (K.args D.mkl (R.ok (kl n) [A, B, C, E0, some (exnD n)]))) = _
  rw [← hL, q_args, d_mkl, if_pos h1, h2]
  clear hL h2
  simp [h1.1]
include hp R ha hb in
theorem kinds_of {g : Sv} (hm : mtOf errs sub "HeldError" n = some true) (hg : g = S.seq (S.asg (E.args D.mkl E.nil) (G.name 3)) (S.seq (S.tryMany (S.seq (S.ex (E.call cr [] (E.cons (E.tk (P.var 0)) (E.cons (E.tk (P.var 1)) (E.cons (E.tk (P.var 2)) E.nil))))) S.nil) [⟨mtOf errs sub "HeldError", some 4, u_law_kinds_1⟩]) (S.seq (S.ret (E.tk (P.var 3))) S.nil))) : runF [] 5 g [.int k, a, b] = .ok (.nd .lst .c () (kl n)) [] := by
  have hk : allL isC (kl n) = true := rfl
  have h2 : mkL calm (kl n) = kl n := rfl
  generalize hL : kl n = L at hk h2 ⊢
  refine run_ret (m := 5) (g := g) (as := [.int k, a, b]) (ρ' := [some (.int k), some a, some b, some (.nd .lst .c () L), none]) ?_ (by simp [allC_notB hk])
  show g [some (.int k), some a, some b, none, none] = _
  subst hg
  have t1 : S.tryMany (S.seq (S.ex (E.call cr [] (E.cons (E.tk (P.var 0)) (E.cons (E.tk (P.var 1)) (E.cons (E.tk (P.var 2)) E.nil))))) S.nil) [⟨mtOf errs sub "HeldError", some 4, u_law_kinds_1⟩] [some (.int k), some a, some b, some (.nd .lst .o () []), none] = .nx [some (.int k), some a, some b, some (.nd .lst .o () L), none] := by
    rw [try_exc (call3 hp R ha hb), hdl_yes hm (by show 4 < 5; decide)]
    show (u_law_kinds_1 n fs [some (.int k), some a, some b, some (.nd .lst .o () []), some (exnD n)]).unb 4 = _
    rw [u_kinds, hL]
    rfl
  rw [e_seq, show S.asg (E.args D.mkl E.nil) (G.name 3) [some (.int k), some a, some b, none, none] = .nx [some (.int k), some a, some b, some (.nd .lst .o () []), none] from by simp, w_nx, e_seq, t1, w_nx]
  simp [allC_notB hk, h2]
end
section
variable {cr : Fc} {a b : D} {k : Int} {n : Str} {fs : List (Str × D)} (hp : cr.np = 3) (ha : T.all isC a = true) (hb : T.all isC b = true) (na : T.all notB a = true) (nb : T.all notB b = true) (ca : T.mk calm a = a) (cb : T.mk calm b = b)
include hp ha na ca in
theorem line_of (R : cr.fn [.int k, a, a] = .exc n [("number", a)] []) {g : Sv} (hm : mtOf errs sub "LineError" n = some true) (hg : g = S.seq (S.asg (E.args D.mkl E.nil) (G.name 2)) (S.seq (S.tryMany (S.seq (S.ex (E.call cr [] (E.cons (E.tk (P.var 0)) (E.cons (E.tk (P.var 1)) (E.cons (E.tk (P.var 1)) E.nil))))) S.nil) [⟨mtOf errs sub "LineError", some 3, u_law_line_field_1⟩]) (S.seq (S.ret (E.tk (P.var 2))) S.nil))) : runF [] 4 g [.int k, a] = .ok (.nd .lst .c () [a]) [] := by
  have hz := sizeLine_eq
  refine run_ret (m := 4) (g := g) (as := [.int k, a]) (ρ' := [some (.int k), some a, some (.nd .lst .c () [a]), none]) ?_ (by simp [na])
  show g [some (.int k), some a, none, none] = _
  subst hg
  have t0 : S.seq (S.ex (E.call cr [] (E.cons (E.tk (P.var 0)) (E.cons (E.tk (P.var 1)) (E.cons (E.tk (P.var 1)) E.nil))))) S.nil [some (.int k), some a, some (.nd .lst .o () []), none] = .exc n [("number", a)] [some (.int k), some a, some (.nd .lst .o () []), none] := by simp [S.ex, ha, hp, R, toR_exc, toS_exc]
  have t1 : u_law_line_field_1 n [("number", a)] [some (.int k), some a, some (.nd .lst .o () []), some (exnD n)] = .nx [some (.int k), some a, some (.nd .lst .o () [a]), some (exnD n)] := by simp [u_law_line_field_1, E.xf, List.lookup, na, ca, hz]
  rw [e_seq, show S.asg (E.args D.mkl E.nil) (G.name 2) [some (.int k), some a, none, none] = .nx [some (.int k), some a, some (.nd .lst .o () []), none] from by simp, w_nx, e_seq, try_exc t0, hdl_yes hm (by show 3 < 4; decide)]
  show K.seq _ ((u_law_line_field_1 n [("number", a)] [some (.int k), some a, some (.nd .lst .o () []), some (exnD n)]).unb 3) = _
  rw [t1]
  show K.seq _ (.nx [some (.int k), some a, some (.nd .lst .o () [a]), none]) = _
  simp [ha, na, ca]
include hp ha hb in
theorem fields_of (R : cr.fn [.int k, a, b] = .exc n fs []) {g : Sv} {l : List Clv} {L : List D} (hL : allL isC L = true) (hu : hdl l n fs [some (.int k), some a, some b, some (.nd .lst .o () []), none] = .nx [some (.int k), some a, some b, some (.nd .lst .o () L), none])
    (hg : g = S.seq (S.asg (E.args D.mkl E.nil) (G.name 3)) (S.seq (S.tryMany (S.seq (S.ex (E.call cr [] (E.cons (E.tk (P.var 0)) (E.cons (E.tk (P.var 1)) (E.cons (E.tk (P.var 2)) E.nil))))) S.nil) l) (S.seq (S.ret (E.tk (P.var 3))) S.nil))) : runF [] 5 g [.int k, a, b] = .ok (.nd .lst .c () L) [] := by
  refine run_ret (m := 5) (g := g) (as := [.int k, a, b]) (ρ' := [some (.int k), some a, some b, some (.nd .lst .c () L), none]) ?_ (by simp [allC_notB hL])
  show g [some (.int k), some a, some b, none, none] = _
  subst hg
  rw [e_seq, show S.asg (E.args D.mkl E.nil) (G.name 3) [some (.int k), some a, some b, none, none] = .nx [some (.int k), some a, some b, some (.nd .lst .o () []), none] from by simp, w_nx, e_seq, try_exc (call3 hp R ha hb), hu, w_nx]
  simp [allC_notB hL, calm_cold hL]
theorem np_raise : c_law_raise.np = 3 := rfl
include ha hb na nb ca cb in
theorem kinds_0 : c_law_kinds.fn [.int 0, a, b] = .ok (.nd .lst .c () (kl "BadForm")) [] := kinds_of np_raise (raise_0 ha hb na nb ca cb) ha hb (by decide +kernel) rfl
include ha na ca in
theorem line_0 : c_law_line_field.fn [.int 0, a] = .ok (.nd .lst .c () [a]) [] := line_of np_raise ha na ca (raise_0 ha ha na na ca ca) (by decide +kernel) rfl
include ha hb na nb ca cb in
theorem kinds_1 : c_law_kinds.fn [.int 1, a, b] = .ok (.nd .lst .c () (kl "Misplaced")) [] := kinds_of np_raise (raise_1 ha hb na nb ca cb) ha hb (by decide +kernel) rfl
include ha na ca in
theorem line_1 : c_law_line_field.fn [.int 1, a] = .ok (.nd .lst .c () [a]) [] := line_of np_raise ha na ca (raise_1 ha ha na na ca ca) (by decide +kernel) rfl
include ha hb na nb ca cb in
theorem kinds_2 : c_law_kinds.fn [.int 2, a, b] = .ok (.nd .lst .c () (kl "Duplicate")) [] := kinds_of np_raise (raise_2 ha hb na nb ca cb) ha hb (by decide +kernel) rfl
include ha na ca in
theorem line_2 : c_law_line_field.fn [.int 2, a] = .ok (.nd .lst .c () [a]) [] := line_of np_raise ha na ca (raise_2 ha ha na na ca ca) (by decide +kernel) rfl
include ha hb na nb ca cb in
theorem kinds_3 : c_law_kinds.fn [.int 3, a, b] = .ok (.nd .lst .c () (kl "Unknown")) [] := kinds_of np_raise (raise_3 ha hb na nb ca cb) ha hb (by decide +kernel) rfl
include ha na ca in
theorem line_3 : c_law_line_field.fn [.int 3, a] = .ok (.nd .lst .c () [a]) [] := line_of np_raise ha na ca (raise_3 ha ha na na ca ca) (by decide +kernel) rfl
include ha hb na nb ca cb in
theorem kinds_4 : c_law_kinds.fn [.int 4, a, b] = .ok (.nd .lst .c () (kl "NotNested")) [] := kinds_of np_raise (raise_4 ha hb na nb ca cb) ha hb (by decide +kernel) rfl
include ha na ca in
theorem line_4 : c_law_line_field.fn [.int 4, a] = .ok (.nd .lst .c () [a]) [] := line_of np_raise ha na ca (raise_4 ha ha na na ca ca) (by decide +kernel) rfl
include ha hb na nb ca cb in
theorem kinds_5 : c_law_kinds.fn [.int 5, a, b] = .ok (.nd .lst .c () (kl "TooMany")) [] := kinds_of np_raise (raise_5 ha hb na nb ca cb) ha hb (by decide +kernel) rfl
include ha na ca in
theorem line_5 : c_law_line_field.fn [.int 5, a] = .ok (.nd .lst .c () [a]) [] := line_of np_raise ha na ca (raise_5 ha ha na na ca ca) (by decide +kernel) rfl
include ha hb na nb ca cb in
theorem kinds_6 : c_law_kinds.fn [.int 6, a, b] = .ok (.nd .lst .c () (kl "TooLong")) [] := kinds_of np_raise (raise_6 ha hb na nb ca cb) ha hb (by decide +kernel) rfl
include ha na ca in
theorem line_6 : c_law_line_field.fn [.int 6, a] = .ok (.nd .lst .c () [a]) [] := line_of np_raise ha na ca (raise_6 ha ha na na ca ca) (by decide +kernel) rfl
include ha hb na nb ca cb in
theorem kinds_7 : c_law_kinds.fn [.int 7, a, b] = .ok (.nd .lst .c () (kl "NoName")) [] := kinds_of np_raise (raise_7 ha hb na nb ca cb) ha hb (by decide +kernel) rfl
include ha hb na nb ca cb in
theorem fields_7 : c_law_fields.fn [.int 7, a, b] = .ok (.nd .lst .c () [a]) [] := fields_of np_raise ha hb (raise_7 ha hb na nb ca cb) (by simp [ha, hb]) ((hdl_yes (by decide +kernel) (by show 4 < 5; decide)).trans (by simp [u_law_fields_13, E.xf, List.lookup, na, nb, ca, cb, sizeLine_eq, SR.unb])) rfl
include ha hb na nb ca cb in
theorem kinds_8 : c_law_kinds.fn [.int 8, a, b] = .ok (.nd .lst .c () (kl "Repeated")) [] := kinds_of np_raise (raise_8 ha hb na nb ca cb) ha hb (by decide +kernel) rfl
include ha hb na nb ca cb in
theorem fields_8 : c_law_fields.fn [.int 8, a, b] = .ok (.nd .lst .c () [a]) [] := fields_of np_raise ha hb (raise_8 ha hb na nb ca cb) (by simp [ha, hb]) ((hdl_no (by decide +kernel)).trans ((hdl_yes (by decide +kernel) (by show 4 < 5; decide)).trans (by simp [u_law_fields_12, E.xf, List.lookup, na, nb, ca, cb, sizeLine_eq, SR.unb]))) rfl
include ha hb na nb ca cb in
theorem kinds_9 : c_law_kinds.fn [.int 9, a, b] = .ok (.nd .lst .c () (kl "Overfull")) [] := kinds_of np_raise (raise_9 ha hb na nb ca cb) ha hb (by decide +kernel) rfl
include ha hb na nb ca cb in
theorem fields_9 : c_law_fields.fn [.int 9, a, b] = .ok (.nd .lst .c () []) [] := fields_of np_raise ha hb (raise_9 ha hb na nb ca cb) (by simp [ha, hb]) ((hdl_no (by decide +kernel)).trans ((hdl_no (by decide +kernel)).trans ((hdl_no (by decide +kernel)).trans ((hdl_no (by decide +kernel)).trans ((hdl_no (by decide +kernel)).trans ((hdl_no (by decide +kernel)).trans ((hdl_no (by decide +kernel)).trans ((hdl_no (by decide +kernel)).trans ((hdl_no (by decide +kernel)).trans ((hdl_no (by decide +kernel)).trans ((hdl_no (by decide +kernel)).trans ((hdl_no (by decide +kernel)).trans ((hdl_bare (by decide +kernel)).trans (by simp [u_law_fields_1, SR.unx])))))))))))))) rfl
include ha hb na nb ca cb in
theorem kinds_10 : c_law_kinds.fn [.int 10, a, b] = .ok (.nd .lst .c () (kl "WrongMove")) [] := kinds_of np_raise (raise_10 ha hb na nb ca cb) ha hb (by decide +kernel) rfl
include ha hb na nb ca cb in
theorem fields_10 : c_law_fields.fn [.int 10, a, b] = .ok (.nd .lst .c () [a]) [] := fields_of np_raise ha hb (raise_10 ha hb na nb ca cb) (by simp [ha, hb]) ((hdl_no (by decide +kernel)).trans ((hdl_no (by decide +kernel)).trans ((hdl_yes (by decide +kernel) (by show 4 < 5; decide)).trans (by simp [u_law_fields_11, E.xf, List.lookup, na, nb, ca, cb, sizeLine_eq, SR.unb])))) rfl
include ha hb na nb ca cb in
theorem kinds_11 : c_law_kinds.fn [.int 11, a, b] = .ok (.nd .lst .c () (kl "BadRun")) [] := kinds_of np_raise (raise_11 ha hb na nb ca cb) ha hb (by decide +kernel) rfl
include ha hb na nb ca cb in
theorem fields_11 : c_law_fields.fn [.int 11, a, b] = .ok (.nd .lst .c () [a]) [] := fields_of np_raise ha hb (raise_11 ha hb na nb ca cb) (by simp [ha, hb]) ((hdl_no (by decide +kernel)).trans ((hdl_no (by decide +kernel)).trans ((hdl_no (by decide +kernel)).trans ((hdl_yes (by decide +kernel) (by show 4 < 5; decide)).trans (by simp [u_law_fields_10, E.xf, List.lookup, na, nb, ca, cb, sizeLine_eq, SR.unb]))))) rfl
include ha hb na nb ca cb in
theorem kinds_12 : c_law_kinds.fn [.int 12, a, b] = .ok (.nd .lst .c () (kl "NoThread")) [] := kinds_of np_raise (raise_12 ha hb na nb ca cb) ha hb (by decide +kernel) rfl
include ha hb na nb ca cb in
theorem fields_12 : c_law_fields.fn [.int 12, a, b] = .ok (.nd .lst .c () [a]) [] := fields_of np_raise ha hb (raise_12 ha hb na nb ca cb) (by simp [ha, hb]) ((hdl_no (by decide +kernel)).trans ((hdl_no (by decide +kernel)).trans ((hdl_no (by decide +kernel)).trans ((hdl_no (by decide +kernel)).trans ((hdl_yes (by decide +kernel) (by show 4 < 5; decide)).trans (by simp [u_law_fields_9, E.xf, List.lookup, na, nb, ca, cb, sizeLine_eq, SR.unb])))))) rfl
include ha hb na nb ca cb in
theorem kinds_13 : c_law_kinds.fn [.int 13, a, b] = .ok (.nd .lst .c () (kl "MustWait")) [] := kinds_of np_raise (raise_13 ha hb na nb ca cb) ha hb (by decide +kernel) rfl
include ha hb na nb ca cb in
theorem fields_13 : c_law_fields.fn [.int 13, a, b] = .ok (.nd .lst .c () [a, b]) [] := fields_of np_raise ha hb (raise_13 ha hb na nb ca cb) (by simp [ha, hb]) ((hdl_no (by decide +kernel)).trans ((hdl_no (by decide +kernel)).trans ((hdl_no (by decide +kernel)).trans ((hdl_no (by decide +kernel)).trans ((hdl_no (by decide +kernel)).trans ((hdl_yes (by decide +kernel) (by show 4 < 5; decide)).trans (by have l1 : List.lookup ("lock" : Str) [("blocker", b), ("lock", a)] = some a := rfl; have l2 : List.lookup ("blocker" : Str) [("blocker", b), ("lock", a)] = some b := rfl; simp [u_law_fields_8, E.xf, l1, l2, na, nb, ca, cb, sizeLine_eq, SR.unb]))))))) rfl
include ha hb na nb ca cb in
theorem kinds_14 : c_law_kinds.fn [.int 14, a, b] = .ok (.nd .lst .c () (kl "Refused")) [] := kinds_of np_raise (raise_14 ha hb na nb ca cb) ha hb (by decide +kernel) rfl
include ha hb na nb ca cb in
theorem fields_14 : c_law_fields.fn [.int 14, a, b] = .ok (.nd .lst .c () [a]) [] := fields_of np_raise ha hb (raise_14 ha hb na nb ca cb) (by simp [ha, hb]) ((hdl_no (by decide +kernel)).trans ((hdl_no (by decide +kernel)).trans ((hdl_no (by decide +kernel)).trans ((hdl_no (by decide +kernel)).trans ((hdl_no (by decide +kernel)).trans ((hdl_no (by decide +kernel)).trans ((hdl_yes (by decide +kernel) (by show 4 < 5; decide)).trans (by simp [u_law_fields_7, E.xf, List.lookup, na, nb, ca, cb, sizeLine_eq, SR.unb])))))))) rfl
include ha hb na nb ca cb in
theorem kinds_15 : c_law_kinds.fn [.int 15, a, b] = .ok (.nd .lst .c () (kl "Deadlocked")) [] := kinds_of np_raise (raise_15 ha hb na nb ca cb) ha hb (by decide +kernel) rfl
include ha hb na nb ca cb in
theorem fields_15 : c_law_fields.fn [.int 15, a, b] = .ok (.nd .lst .c () [a]) [] := fields_of np_raise ha hb (raise_15 ha hb na nb ca cb) (by simp [ha, hb]) ((hdl_no (by decide +kernel)).trans ((hdl_no (by decide +kernel)).trans ((hdl_no (by decide +kernel)).trans ((hdl_no (by decide +kernel)).trans ((hdl_no (by decide +kernel)).trans ((hdl_no (by decide +kernel)).trans ((hdl_no (by decide +kernel)).trans ((hdl_yes (by decide +kernel) (by show 4 < 5; decide)).trans (by simp [u_law_fields_6, E.xf, List.lookup, na, nb, ca, cb, sizeLine_eq, SR.unb]))))))))) rfl
include ha hb na nb ca cb in
theorem kinds_16 : c_law_kinds.fn [.int 16, a, b] = .ok (.nd .lst .c () (kl "NoRequest")) [] := kinds_of np_raise (raise_16 ha hb na nb ca cb) ha hb (by decide +kernel) rfl
include ha hb na nb ca cb in
theorem fields_16 : c_law_fields.fn [.int 16, a, b] = .ok (.nd .lst .c () [a]) [] := fields_of np_raise ha hb (raise_16 ha hb na nb ca cb) (by simp [ha, hb]) ((hdl_no (by decide +kernel)).trans ((hdl_no (by decide +kernel)).trans ((hdl_no (by decide +kernel)).trans ((hdl_no (by decide +kernel)).trans ((hdl_no (by decide +kernel)).trans ((hdl_no (by decide +kernel)).trans ((hdl_no (by decide +kernel)).trans ((hdl_no (by decide +kernel)).trans ((hdl_yes (by decide +kernel) (by show 4 < 5; decide)).trans (by simp [u_law_fields_5, E.xf, List.lookup, na, nb, ca, cb, sizeLine_eq, SR.unb])))))))))) rfl
include ha hb na nb ca cb in
theorem kinds_17 : c_law_kinds.fn [.int 17, a, b] = .ok (.nd .lst .c () (kl "NoContext")) [] := kinds_of np_raise (raise_17 ha hb na nb ca cb) ha hb (by decide +kernel) rfl
include ha hb na nb ca cb in
theorem fields_17 : c_law_fields.fn [.int 17, a, b] = .ok (.nd .lst .c () [a]) [] := fields_of np_raise ha hb (raise_17 ha hb na nb ca cb) (by simp [ha, hb]) ((hdl_no (by decide +kernel)).trans ((hdl_no (by decide +kernel)).trans ((hdl_no (by decide +kernel)).trans ((hdl_no (by decide +kernel)).trans ((hdl_no (by decide +kernel)).trans ((hdl_no (by decide +kernel)).trans ((hdl_no (by decide +kernel)).trans ((hdl_no (by decide +kernel)).trans ((hdl_no (by decide +kernel)).trans ((hdl_yes (by decide +kernel) (by show 4 < 5; decide)).trans (by simp [u_law_fields_4, E.xf, List.lookup, na, nb, ca, cb, sizeLine_eq, SR.unb]))))))))))) rfl
include ha hb na nb ca cb in
theorem kinds_18 : c_law_kinds.fn [.int 18, a, b] = .ok (.nd .lst .c () (kl "NoRunCycle")) [] := kinds_of np_raise (raise_18 ha hb na nb ca cb) ha hb (by decide +kernel) rfl
include ha hb na nb ca cb in
theorem fields_18 : c_law_fields.fn [.int 18, a, b] = .ok (.nd .lst .c () []) [] := fields_of np_raise ha hb (raise_18 ha hb na nb ca cb) (by simp [ha, hb]) ((hdl_no (by decide +kernel)).trans ((hdl_no (by decide +kernel)).trans ((hdl_no (by decide +kernel)).trans ((hdl_no (by decide +kernel)).trans ((hdl_no (by decide +kernel)).trans ((hdl_no (by decide +kernel)).trans ((hdl_no (by decide +kernel)).trans ((hdl_no (by decide +kernel)).trans ((hdl_no (by decide +kernel)).trans ((hdl_no (by decide +kernel)).trans ((hdl_no (by decide +kernel)).trans ((hdl_no (by decide +kernel)).trans ((hdl_bare (by decide +kernel)).trans (by simp [u_law_fields_1, SR.unx])))))))))))))) rfl
include ha hb na nb ca cb in
theorem kinds_19 : c_law_kinds.fn [.int 19, a, b] = .ok (.nd .lst .c () (kl "Clash")) [] := kinds_of np_raise (raise_19 ha hb na nb ca cb) ha hb (by decide +kernel) rfl
include ha hb na nb ca cb in
theorem fields_19 : c_law_fields.fn [.int 19, a, b] = .ok (.nd .lst .c () [a]) [] := fields_of np_raise ha hb (raise_19 ha hb na nb ca cb) (by simp [ha, hb]) ((hdl_no (by decide +kernel)).trans ((hdl_no (by decide +kernel)).trans ((hdl_no (by decide +kernel)).trans ((hdl_no (by decide +kernel)).trans ((hdl_no (by decide +kernel)).trans ((hdl_no (by decide +kernel)).trans ((hdl_no (by decide +kernel)).trans ((hdl_no (by decide +kernel)).trans ((hdl_no (by decide +kernel)).trans ((hdl_no (by decide +kernel)).trans ((hdl_yes (by decide +kernel) (by show 4 < 5; decide)).trans (by simp [u_law_fields_3, E.xf, List.lookup, na, nb, ca, cb, sizeLine_eq, SR.unb])))))))))))) rfl
include ha hb na nb ca cb in
theorem kinds_20 : c_law_kinds.fn [.int 20, a, b] = .ok (.nd .lst .c () (kl "NoLockOrder")) [] := kinds_of np_raise (raise_20 ha hb na nb ca cb) ha hb (by decide +kernel) rfl
include ha hb na nb ca cb in
theorem fields_20 : c_law_fields.fn [.int 20, a, b] = .ok (.nd .lst .c () [a]) [] := fields_of np_raise ha hb (raise_20 ha hb na nb ca cb) (by simp [ha, hb]) ((hdl_no (by decide +kernel)).trans ((hdl_no (by decide +kernel)).trans ((hdl_no (by decide +kernel)).trans ((hdl_no (by decide +kernel)).trans ((hdl_no (by decide +kernel)).trans ((hdl_no (by decide +kernel)).trans ((hdl_no (by decide +kernel)).trans ((hdl_no (by decide +kernel)).trans ((hdl_no (by decide +kernel)).trans ((hdl_no (by decide +kernel)).trans ((hdl_no (by decide +kernel)).trans ((hdl_yes (by decide +kernel) (by show 4 < 5; decide)).trans (by simp [u_law_fields_2, E.xf, List.lookup, na, nb, ca, cb, sizeLine_eq, SR.unb]))))))))))))) rfl
include ha hb na nb ca cb in
theorem kinds_21 : c_law_kinds.fn [.int 21, a, b] = .ok (.nd .lst .c () (kl "LineError")) [] := kinds_of np_raise (raise_21 ha hb na nb ca cb) ha hb (by decide +kernel) rfl
include ha na ca in
theorem line_21 : c_law_line_field.fn [.int 21, a] = .ok (.nd .lst .c () [a]) [] := line_of np_raise ha na ca (raise_21 ha ha na na ca ca) (by decide +kernel) rfl
end
def dueE : Sv := S.asg (E.bin D.add (E.bin D.add (E.args D.mkl (E.cons (E.or (E.bin D.lt (E.at (P.var 7)) (E.c (.int 7))) (E.bin D.eq (E.at (P.var 7)) (E.c (.int 21)))) E.nil)) (E.lc (I.range1 (E.cons (E.c (.int 21)) E.nil)) [10] (G.name 10) E.yes (E.bin D.eq (E.at (P.var 10)) (E.at (P.var 7))))) (E.args D.mkl (E.cons (E.c (.bl true)) E.nil))) (G.name 8)
theorem due_0 (y0 y1 y2 y3 y4 y5 y6 y8 y9 : Option D) : dueE [y0, y1, y2, y3, y4, y5, y6, some (.int 0), y8, y9, none] = .nx [y0, y1, y2, y3, y4, y5, y6, some (.int 0), some (.nd .lst .o () (kl "BadForm")), y9, none] := by kernel_rfl
theorem due_1 (y0 y1 y2 y3 y4 y5 y6 y8 y9 : Option D) : dueE [y0, y1, y2, y3, y4, y5, y6, some (.int 1), y8, y9, none] = .nx [y0, y1, y2, y3, y4, y5, y6, some (.int 1), some (.nd .lst .o () (kl "Misplaced")), y9, none] := by kernel_rfl
theorem due_2 (y0 y1 y2 y3 y4 y5 y6 y8 y9 : Option D) : dueE [y0, y1, y2, y3, y4, y5, y6, some (.int 2), y8, y9, none] = .nx [y0, y1, y2, y3, y4, y5, y6, some (.int 2), some (.nd .lst .o () (kl "Duplicate")), y9, none] := by kernel_rfl
theorem due_3 (y0 y1 y2 y3 y4 y5 y6 y8 y9 : Option D) : dueE [y0, y1, y2, y3, y4, y5, y6, some (.int 3), y8, y9, none] = .nx [y0, y1, y2, y3, y4, y5, y6, some (.int 3), some (.nd .lst .o () (kl "Unknown")), y9, none] := by kernel_rfl
theorem due_4 (y0 y1 y2 y3 y4 y5 y6 y8 y9 : Option D) : dueE [y0, y1, y2, y3, y4, y5, y6, some (.int 4), y8, y9, none] = .nx [y0, y1, y2, y3, y4, y5, y6, some (.int 4), some (.nd .lst .o () (kl "NotNested")), y9, none] := by kernel_rfl
theorem due_5 (y0 y1 y2 y3 y4 y5 y6 y8 y9 : Option D) : dueE [y0, y1, y2, y3, y4, y5, y6, some (.int 5), y8, y9, none] = .nx [y0, y1, y2, y3, y4, y5, y6, some (.int 5), some (.nd .lst .o () (kl "TooMany")), y9, none] := by kernel_rfl
theorem due_6 (y0 y1 y2 y3 y4 y5 y6 y8 y9 : Option D) : dueE [y0, y1, y2, y3, y4, y5, y6, some (.int 6), y8, y9, none] = .nx [y0, y1, y2, y3, y4, y5, y6, some (.int 6), some (.nd .lst .o () (kl "TooLong")), y9, none] := by kernel_rfl
theorem due_7 (y0 y1 y2 y3 y4 y5 y6 y8 y9 : Option D) : dueE [y0, y1, y2, y3, y4, y5, y6, some (.int 7), y8, y9, none] = .nx [y0, y1, y2, y3, y4, y5, y6, some (.int 7), some (.nd .lst .o () (kl "NoName")), y9, none] := by kernel_rfl
theorem due_8 (y0 y1 y2 y3 y4 y5 y6 y8 y9 : Option D) : dueE [y0, y1, y2, y3, y4, y5, y6, some (.int 8), y8, y9, none] = .nx [y0, y1, y2, y3, y4, y5, y6, some (.int 8), some (.nd .lst .o () (kl "Repeated")), y9, none] := by kernel_rfl
theorem due_9 (y0 y1 y2 y3 y4 y5 y6 y8 y9 : Option D) : dueE [y0, y1, y2, y3, y4, y5, y6, some (.int 9), y8, y9, none] = .nx [y0, y1, y2, y3, y4, y5, y6, some (.int 9), some (.nd .lst .o () (kl "Overfull")), y9, none] := by kernel_rfl
theorem due_10 (y0 y1 y2 y3 y4 y5 y6 y8 y9 : Option D) : dueE [y0, y1, y2, y3, y4, y5, y6, some (.int 10), y8, y9, none] = .nx [y0, y1, y2, y3, y4, y5, y6, some (.int 10), some (.nd .lst .o () (kl "WrongMove")), y9, none] := by kernel_rfl
theorem due_11 (y0 y1 y2 y3 y4 y5 y6 y8 y9 : Option D) : dueE [y0, y1, y2, y3, y4, y5, y6, some (.int 11), y8, y9, none] = .nx [y0, y1, y2, y3, y4, y5, y6, some (.int 11), some (.nd .lst .o () (kl "BadRun")), y9, none] := by kernel_rfl
theorem due_12 (y0 y1 y2 y3 y4 y5 y6 y8 y9 : Option D) : dueE [y0, y1, y2, y3, y4, y5, y6, some (.int 12), y8, y9, none] = .nx [y0, y1, y2, y3, y4, y5, y6, some (.int 12), some (.nd .lst .o () (kl "NoThread")), y9, none] := by kernel_rfl
theorem due_13 (y0 y1 y2 y3 y4 y5 y6 y8 y9 : Option D) : dueE [y0, y1, y2, y3, y4, y5, y6, some (.int 13), y8, y9, none] = .nx [y0, y1, y2, y3, y4, y5, y6, some (.int 13), some (.nd .lst .o () (kl "MustWait")), y9, none] := by kernel_rfl
theorem due_14 (y0 y1 y2 y3 y4 y5 y6 y8 y9 : Option D) : dueE [y0, y1, y2, y3, y4, y5, y6, some (.int 14), y8, y9, none] = .nx [y0, y1, y2, y3, y4, y5, y6, some (.int 14), some (.nd .lst .o () (kl "Refused")), y9, none] := by kernel_rfl
theorem due_15 (y0 y1 y2 y3 y4 y5 y6 y8 y9 : Option D) : dueE [y0, y1, y2, y3, y4, y5, y6, some (.int 15), y8, y9, none] = .nx [y0, y1, y2, y3, y4, y5, y6, some (.int 15), some (.nd .lst .o () (kl "Deadlocked")), y9, none] := by kernel_rfl
theorem due_16 (y0 y1 y2 y3 y4 y5 y6 y8 y9 : Option D) : dueE [y0, y1, y2, y3, y4, y5, y6, some (.int 16), y8, y9, none] = .nx [y0, y1, y2, y3, y4, y5, y6, some (.int 16), some (.nd .lst .o () (kl "NoRequest")), y9, none] := by kernel_rfl
theorem due_17 (y0 y1 y2 y3 y4 y5 y6 y8 y9 : Option D) : dueE [y0, y1, y2, y3, y4, y5, y6, some (.int 17), y8, y9, none] = .nx [y0, y1, y2, y3, y4, y5, y6, some (.int 17), some (.nd .lst .o () (kl "NoContext")), y9, none] := by kernel_rfl
theorem due_18 (y0 y1 y2 y3 y4 y5 y6 y8 y9 : Option D) : dueE [y0, y1, y2, y3, y4, y5, y6, some (.int 18), y8, y9, none] = .nx [y0, y1, y2, y3, y4, y5, y6, some (.int 18), some (.nd .lst .o () (kl "NoRunCycle")), y9, none] := by kernel_rfl
theorem due_19 (y0 y1 y2 y3 y4 y5 y6 y8 y9 : Option D) : dueE [y0, y1, y2, y3, y4, y5, y6, some (.int 19), y8, y9, none] = .nx [y0, y1, y2, y3, y4, y5, y6, some (.int 19), some (.nd .lst .o () (kl "Clash")), y9, none] := by kernel_rfl
theorem due_20 (y0 y1 y2 y3 y4 y5 y6 y8 y9 : Option D) : dueE [y0, y1, y2, y3, y4, y5, y6, some (.int 20), y8, y9, none] = .nx [y0, y1, y2, y3, y4, y5, y6, some (.int 20), some (.nd .lst .o () (kl "NoLockOrder")), y9, none] := by kernel_rfl
theorem due_21 (y0 y1 y2 y3 y4 y5 y6 y8 y9 : Option D) : dueE [y0, y1, y2, y3, y4, y5, y6, some (.int 21), y8, y9, none] = .nx [y0, y1, y2, y3, y4, y5, y6, some (.int 21), some (.nd .lst .o () (kl "LineError")), y9, none] := by kernel_rfl
theorem same_open (x y : D) (hx : T.all isC x = true) (hy : T.all isC y = false) (hn : T.all notB y = true) (hc : T.mk calm y = x) : c_law_same.fn [x, y] = c_law_same.fn [x, x] := by
  have hz := sizeLine_eq
  have nx := all_of_cold (p := notB) rfl hx
  have cx : T.mk calm x = x := fz_cold' hx
  have e1 : g_law_same [some x, some y, none, none, none, none, none] = g_law_same [some x, some x, none, none, none, none, none] := by
    unfold g_law_same
    rw [e_seq, e_seq]
    congr 1
    simp [hx, hy, hn, hc, nx, cx, hz]
  show runF [] 7 g_law_same [x, y] = runF [] 7 g_law_same [x, x]
  unfold runF
  rw [show ([x, y] : List D).map some ++ List.replicate (7 - [x, y].length) none = [some x, some y, none, none, none, none, none] from rfl, e1]
  rfl
theorem np_kinds : c_law_kinds.np = 3 := rfl
theorem np_line : c_law_line_field.np = 2 := rfl
theorem np_fields : c_law_fields.np = 3 := rfl
theorem np_same : c_law_same.np = 2 := rfl
section
variable {k o : Int} {v : D} {c : Str} {xs : List D} {y0 y1 y2 y3 y4 y8 y9 : Option D}
theorem body_l (hk : k < 7 ∨ k = 21) (hdue : ∀ y0 y1 y2 y3 y4 y5 y6 y8 y9 : Option D, dueE [y0, y1, y2, y3, y4, y5, y6, some (.int k), y8, y9, none] = .nx [y0, y1, y2, y3, y4, y5, y6, some (.int k), some (.nd .lst .o () (kl c)), y9, none])
    (hx : allL isC xs = true) (hv : atI xs k = some v) (va : T.all isC v = true) (vn : T.all notB v = true) (vc : T.mk calm v = v) (K1 : c_law_kinds.fn [.int k, v, .int o] = .ok (.nd .lst .c () (kl c)) []) (S1 : c_law_same.fn [.nd .lst .c () (kl c), .nd .lst .c () (kl c)] = .ok (.bl true) [])
    (L1 : c_law_line_field.fn [.int k, v] = .ok (.nd .lst .c () [v]) []) (S2 : c_law_same.fn [.nd .lst .c () [v], .nd .lst .o () [v]] = .ok (.bl true) []) :
    b_law_1 [y0, y1, y2, y3, y4, some (.int o), some (.nd .lst .o () xs), some (.int k), y8, y9, none] = .nx [y0, y1, y2, y3, y4, some (.int o), some (.nd .lst .o () xs), some (.int k), some (.nd .lst .c () (kl c)), y9, none] := by
  have hz := sizeLine_eq
  have kc : allL isC (kl c) = true := rfl
  have lx : mkL lend xs = xs := mkL_cold rfl hx
  have n1 := np_kinds
  have n2 := np_line
  have n4 := np_same
  unfold b_law_1
  rw [e_seq]
  change K.seq _ (dueE _) = _
  rw [hdue, w_nx]
  clear hdue
  generalize kl c = KL at kc K1 S1 ⊢
  generalize c_law_kinds = ck at n1 K1 ⊢
  generalize c_law_line_field = cl at n2 L1 ⊢
  generalize c_law_same = ce at n4 S1 S2 ⊢
  generalize c_law_fields = cf
  have t1 : S.ite (E.un D.not (E.un D.tru (E.call ce [] (E.cons (E.call ck [] (E.cons (E.tk (P.var 7)) (E.cons (E.bin D.idx (E.at (P.var 6)) (E.at (P.var 7))) (E.cons (E.tk (P.var 5)) E.nil)))) (E.cons (E.tk (P.var 8)) E.nil))))) (S.seq (S.ret (E.c (.bl false))) S.nil) S.nil [y0, y1, y2, y3, y4, some (.int o), some (.nd .lst .o () xs), some (.int k), some (.nd .lst .o () KL), y9, none] = .nx [y0, y1, y2, y3, y4, some (.int o), some (.nd .lst .o () xs), some (.int k), some (.nd .lst .c () KL), y9, none] := by
    simp [lx, hv, n1, n4, K1, S1, kc, allC_notB kc, calm_cold kc]
  rw [e_seq, t1, w_nx]
  have t2 : E.or (E.bin D.lt (E.at (P.var 7)) (E.c (.int 7))) (E.bin D.eq (E.at (P.var 7)) (E.c (.int 21))) [y0, y1, y2, y3, y4, some (.int o), some (.nd .lst .o () xs), some (.int k), some (.nd .lst .c () KL), y9, none] = .ok (.bl true) [y0, y1, y2, y3, y4, some (.int o), some (.nd .lst .o () xs), some (.int k), some (.nd .lst .c () KL), y9, none] := by
    by_cases h7 : k < 7
    · simp [h7]
    · simp [h7, hk.resolve_left h7]
  rw [e_seq, e_sif, t2, q_sif1]
  simp [lx, hv, n2, n4, L1, S2, va, vn, vc, hz]
theorem body_f {L : List D} (h7 : ¬ k < 7) (h21 : k ≠ 21) (hdue : ∀ y0 y1 y2 y3 y4 y5 y6 y8 y9 : Option D, dueE [y0, y1, y2, y3, y4, y5, y6, some (.int k), y8, y9, none] = .nx [y0, y1, y2, y3, y4, y5, y6, some (.int k), some (.nd .lst .o () (kl c)), y9, none])
    (hx : allL isC xs = true) (hv : atI xs k = some v) (va : T.all isC v = true) (vn : T.all notB v = true) (vc : T.mk calm v = v) (K1 : c_law_kinds.fn [.int k, v, .int o] = .ok (.nd .lst .c () (kl c)) []) (S1 : c_law_same.fn [.nd .lst .c () (kl c), .nd .lst .c () (kl c)] = .ok (.bl true) [])
    (hL : L = if k = 9 ∨ k = 18 then [] else if k = 13 then [v, .int o] else [v]) (F1 : c_law_fields.fn [.int k, v, .int o] = .ok (.nd .lst .c () L) []) (S2 : c_law_same.fn [.nd .lst .c () L, .nd .lst .c () L] = .ok (.bl true) []) :
    b_law_1 [y0, y1, y2, y3, y4, some (.int o), some (.nd .lst .o () xs), some (.int k), y8, y9, none] = .nx [y0, y1, y2, y3, y4, some (.int o), some (.nd .lst .o () xs), some (.int k), some (.nd .lst .c () (kl c)), some (.nd .lst .c () L), none] := by
  have hz := sizeLine_eq
  have kc : allL isC (kl c) = true := rfl
  have lx : mkL lend xs = xs := mkL_cold rfl hx
  have n1 := np_kinds
  have n3 := np_fields
  have n4 := np_same
  unfold b_law_1
  rw [e_seq]
  change K.seq _ (dueE _) = _
  rw [hdue, w_nx]
  clear hdue
  generalize kl c = KL at kc K1 S1 ⊢
  generalize c_law_kinds = ck at n1 K1 ⊢
  generalize c_law_fields = cf at n3 F1 ⊢
  generalize c_law_same = ce at n4 S1 S2 ⊢
  generalize c_law_line_field = cl
  have t1 : S.ite (E.un D.not (E.un D.tru (E.call ce [] (E.cons (E.call ck [] (E.cons (E.tk (P.var 7)) (E.cons (E.bin D.idx (E.at (P.var 6)) (E.at (P.var 7))) (E.cons (E.tk (P.var 5)) E.nil)))) (E.cons (E.tk (P.var 8)) E.nil))))) (S.seq (S.ret (E.c (.bl false))) S.nil) S.nil [y0, y1, y2, y3, y4, some (.int o), some (.nd .lst .o () xs), some (.int k), some (.nd .lst .o () KL), y9, none] = .nx [y0, y1, y2, y3, y4, some (.int o), some (.nd .lst .o () xs), some (.int k), some (.nd .lst .c () KL), y9, none] := by
    simp [lx, hv, n1, n4, K1, S1, kc, allC_notB kc, calm_cold kc]
  rw [e_seq, t1, w_nx]
  have t2 : E.or (E.bin D.lt (E.at (P.var 7)) (E.c (.int 7))) (E.bin D.eq (E.at (P.var 7)) (E.c (.int 21))) [y0, y1, y2, y3, y4, some (.int o), some (.nd .lst .o () xs), some (.int k), some (.nd .lst .c () KL), y9, none] = .ok (.bl false) [y0, y1, y2, y3, y4, some (.int o), some (.nd .lst .o () xs), some (.int k), some (.nd .lst .c () KL), y9, none] := by
    simp [h7, h21]
  rw [e_seq, e_sif, t2, q_sif0]
  clear t1 t2
  by_cases h9 : k = 9 ∨ k = 18
  · rw [if_pos h9] at hL
    subst hL
    rcases h9 with rfl | rfl <;> simp [lx, hv, n3, n4, F1, S2, va, vn, vc, hz]
  · rw [if_neg h9] at hL
    obtain ⟨a9, a18⟩ := not_or.mp h9
    by_cases h13 : k = 13
    · rw [if_pos h13] at hL
      subst hL h13
      simp [lx, hv, n3, n4, F1, S2, va, vn, vc, hz]
    · rw [if_neg h13] at hL
      subst hL
      simp [lx, hv, n3, n4, F1, S2, va, vn, vc, hz, a9, a18, h13]
end
theorem asg_call {c : Fc} {fa : Vl.Env → R (List D)} {i : Nat} {ds : List D} {d : D} {ρ : Vl.Env} (h : fa ρ = .ok ds ρ) (hn : ds.length = c.np) (hf : c.fn ds = .ok d []) (hd : T.all notB d = true) (hi : i < ρ.length) : S.asg (E.call c [] fa) (G.name i) ρ = .nx (ρ.set i (some d)) := by
  simp [h, hn, hf, hd, hi]
theorem same_kl (c : Str) : c_law_same.fn [.nd .lst .c () (kl c), .nd .lst .c () (kl c)] = .ok (.bl true) [] := same_ok _ (by kernel_rfl) (by rw [sizeLine_eq]; exact Nat.le_of_ble_eq_true (by kernel_rfl))
theorem same_o (v : D) (h : c_law_same.fn [.nd .lst .c () [v], .nd .lst .c () [v]] = .ok (.bl true) []) (va : T.all isC v = true) (vn : T.all notB v = true) (vc : T.mk calm v = v) : c_law_same.fn [.nd .lst .c () [v], .nd .lst .o () [v]] = .ok (.bl true) [] := by
  rw [same_open (.nd .lst .c () [v]) (.nd .lst .o () [v]) (by simp [va]) rfl (by simp [vn]) (by simp [vc])]
  exact h
def ones (n t : Int) (w0 w1 w2 : Str) : List D := [.int n, .int n, .int n, .int n, .int n, .int n, .int n, .str w0, .str w1, .str "", .nd .tup .c () [.str "acquire", .str w0], .int t, .int (0 - t), .str w0, .int t, .nd .tup .c () [.int t, .int (t + 1)], .nd .tup .c () [.nd .tup .c () [.str w0, .str w1], .str w2], .nd .tup .c () [.str w0, .nd .tup .c () [.str w1]], .str "", .nd .tup .c () [.str w1, .str w0], .nd .tup .c () [.str w2, .str w1], .int n]
section
variable {n t o : Int} {w0 w1 w2 : Str} {y0 y1 y2 y3 y4 y8 y9 : Option D}
theorem at_0 : ∃ z8 z9, b_law_1 [y0, y1, y2, y3, y4, some (.int o), some (.nd .lst .o () (ones n t w0 w1 w2)), some (.int 0), y8, y9, none] = .nx [y0, y1, y2, y3, y4, some (.int o), some (.nd .lst .o () (ones n t w0 w1 w2)), some (.int 0), z8, z9, none] := ⟨_, _, body_l (k := 0) (c := "BadForm") (by decide) due_0 rfl rfl rfl rfl rfl (kinds_0 rfl rfl rfl rfl rfl rfl) (same_kl _) (line_0 rfl rfl rfl) (same_o _ (same_ok _ (by kernel_rfl) (by rw [sizeLine_eq]; exact Nat.le_of_ble_eq_true (by kernel_rfl))) rfl rfl rfl)⟩
theorem at_1 : ∃ z8 z9, b_law_1 [y0, y1, y2, y3, y4, some (.int o), some (.nd .lst .o () (ones n t w0 w1 w2)), some (.int 1), y8, y9, none] = .nx [y0, y1, y2, y3, y4, some (.int o), some (.nd .lst .o () (ones n t w0 w1 w2)), some (.int 1), z8, z9, none] := ⟨_, _, body_l (k := 1) (c := "Misplaced") (by decide) due_1 rfl rfl rfl rfl rfl (kinds_1 rfl rfl rfl rfl rfl rfl) (same_kl _) (line_1 rfl rfl rfl) (same_o _ (same_ok _ (by kernel_rfl) (by rw [sizeLine_eq]; exact Nat.le_of_ble_eq_true (by kernel_rfl))) rfl rfl rfl)⟩
theorem at_2 : ∃ z8 z9, b_law_1 [y0, y1, y2, y3, y4, some (.int o), some (.nd .lst .o () (ones n t w0 w1 w2)), some (.int 2), y8, y9, none] = .nx [y0, y1, y2, y3, y4, some (.int o), some (.nd .lst .o () (ones n t w0 w1 w2)), some (.int 2), z8, z9, none] := ⟨_, _, body_l (k := 2) (c := "Duplicate") (by decide) due_2 rfl rfl rfl rfl rfl (kinds_2 rfl rfl rfl rfl rfl rfl) (same_kl _) (line_2 rfl rfl rfl) (same_o _ (same_ok _ (by kernel_rfl) (by rw [sizeLine_eq]; exact Nat.le_of_ble_eq_true (by kernel_rfl))) rfl rfl rfl)⟩
theorem at_3 : ∃ z8 z9, b_law_1 [y0, y1, y2, y3, y4, some (.int o), some (.nd .lst .o () (ones n t w0 w1 w2)), some (.int 3), y8, y9, none] = .nx [y0, y1, y2, y3, y4, some (.int o), some (.nd .lst .o () (ones n t w0 w1 w2)), some (.int 3), z8, z9, none] := ⟨_, _, body_l (k := 3) (c := "Unknown") (by decide) due_3 rfl rfl rfl rfl rfl (kinds_3 rfl rfl rfl rfl rfl rfl) (same_kl _) (line_3 rfl rfl rfl) (same_o _ (same_ok _ (by kernel_rfl) (by rw [sizeLine_eq]; exact Nat.le_of_ble_eq_true (by kernel_rfl))) rfl rfl rfl)⟩
theorem at_4 : ∃ z8 z9, b_law_1 [y0, y1, y2, y3, y4, some (.int o), some (.nd .lst .o () (ones n t w0 w1 w2)), some (.int 4), y8, y9, none] = .nx [y0, y1, y2, y3, y4, some (.int o), some (.nd .lst .o () (ones n t w0 w1 w2)), some (.int 4), z8, z9, none] := ⟨_, _, body_l (k := 4) (c := "NotNested") (by decide) due_4 rfl rfl rfl rfl rfl (kinds_4 rfl rfl rfl rfl rfl rfl) (same_kl _) (line_4 rfl rfl rfl) (same_o _ (same_ok _ (by kernel_rfl) (by rw [sizeLine_eq]; exact Nat.le_of_ble_eq_true (by kernel_rfl))) rfl rfl rfl)⟩
theorem at_5 : ∃ z8 z9, b_law_1 [y0, y1, y2, y3, y4, some (.int o), some (.nd .lst .o () (ones n t w0 w1 w2)), some (.int 5), y8, y9, none] = .nx [y0, y1, y2, y3, y4, some (.int o), some (.nd .lst .o () (ones n t w0 w1 w2)), some (.int 5), z8, z9, none] := ⟨_, _, body_l (k := 5) (c := "TooMany") (by decide) due_5 rfl rfl rfl rfl rfl (kinds_5 rfl rfl rfl rfl rfl rfl) (same_kl _) (line_5 rfl rfl rfl) (same_o _ (same_ok _ (by kernel_rfl) (by rw [sizeLine_eq]; exact Nat.le_of_ble_eq_true (by kernel_rfl))) rfl rfl rfl)⟩
theorem at_6 : ∃ z8 z9, b_law_1 [y0, y1, y2, y3, y4, some (.int o), some (.nd .lst .o () (ones n t w0 w1 w2)), some (.int 6), y8, y9, none] = .nx [y0, y1, y2, y3, y4, some (.int o), some (.nd .lst .o () (ones n t w0 w1 w2)), some (.int 6), z8, z9, none] := ⟨_, _, body_l (k := 6) (c := "TooLong") (by decide) due_6 rfl rfl rfl rfl rfl (kinds_6 rfl rfl rfl rfl rfl rfl) (same_kl _) (line_6 rfl rfl rfl) (same_o _ (same_ok _ (by kernel_rfl) (by rw [sizeLine_eq]; exact Nat.le_of_ble_eq_true (by kernel_rfl))) rfl rfl rfl)⟩
theorem at_7 : ∃ z8 z9, b_law_1 [y0, y1, y2, y3, y4, some (.int o), some (.nd .lst .o () (ones n t w0 w1 w2)), some (.int 7), y8, y9, none] = .nx [y0, y1, y2, y3, y4, some (.int o), some (.nd .lst .o () (ones n t w0 w1 w2)), some (.int 7), z8, z9, none] := ⟨_, _, body_f (k := 7) (c := "NoName") (by decide) (by decide) due_7 rfl rfl rfl rfl rfl (kinds_7 rfl rfl rfl rfl rfl rfl) (same_kl _) rfl (fields_7 rfl rfl rfl rfl rfl rfl) (same_ok _ (by kernel_rfl) (by rw [sizeLine_eq]; exact Nat.le_of_ble_eq_true (by kernel_rfl)))⟩
theorem at_8 : ∃ z8 z9, b_law_1 [y0, y1, y2, y3, y4, some (.int o), some (.nd .lst .o () (ones n t w0 w1 w2)), some (.int 8), y8, y9, none] = .nx [y0, y1, y2, y3, y4, some (.int o), some (.nd .lst .o () (ones n t w0 w1 w2)), some (.int 8), z8, z9, none] := ⟨_, _, body_f (k := 8) (c := "Repeated") (by decide) (by decide) due_8 rfl rfl rfl rfl rfl (kinds_8 rfl rfl rfl rfl rfl rfl) (same_kl _) rfl (fields_8 rfl rfl rfl rfl rfl rfl) (same_ok _ (by kernel_rfl) (by rw [sizeLine_eq]; exact Nat.le_of_ble_eq_true (by kernel_rfl)))⟩
theorem at_9 : ∃ z8 z9, b_law_1 [y0, y1, y2, y3, y4, some (.int o), some (.nd .lst .o () (ones n t w0 w1 w2)), some (.int 9), y8, y9, none] = .nx [y0, y1, y2, y3, y4, some (.int o), some (.nd .lst .o () (ones n t w0 w1 w2)), some (.int 9), z8, z9, none] := ⟨_, _, body_f (k := 9) (c := "Overfull") (by decide) (by decide) due_9 rfl rfl rfl rfl rfl (kinds_9 rfl rfl rfl rfl rfl rfl) (same_kl _) rfl (fields_9 rfl rfl rfl rfl rfl rfl) (same_ok _ (by kernel_rfl) (by rw [sizeLine_eq]; exact Nat.le_of_ble_eq_true (by kernel_rfl)))⟩
theorem at_10 : ∃ z8 z9, b_law_1 [y0, y1, y2, y3, y4, some (.int o), some (.nd .lst .o () (ones n t w0 w1 w2)), some (.int 10), y8, y9, none] = .nx [y0, y1, y2, y3, y4, some (.int o), some (.nd .lst .o () (ones n t w0 w1 w2)), some (.int 10), z8, z9, none] := ⟨_, _, body_f (k := 10) (c := "WrongMove") (by decide) (by decide) due_10 rfl rfl rfl rfl rfl (kinds_10 rfl rfl rfl rfl rfl rfl) (same_kl _) rfl (fields_10 rfl rfl rfl rfl rfl rfl) (same_ok _ (by kernel_rfl) (by rw [sizeLine_eq]; exact Nat.le_of_ble_eq_true (by kernel_rfl)))⟩
theorem at_11 : ∃ z8 z9, b_law_1 [y0, y1, y2, y3, y4, some (.int o), some (.nd .lst .o () (ones n t w0 w1 w2)), some (.int 11), y8, y9, none] = .nx [y0, y1, y2, y3, y4, some (.int o), some (.nd .lst .o () (ones n t w0 w1 w2)), some (.int 11), z8, z9, none] := ⟨_, _, body_f (k := 11) (c := "BadRun") (by decide) (by decide) due_11 rfl rfl rfl rfl rfl (kinds_11 rfl rfl rfl rfl rfl rfl) (same_kl _) rfl (fields_11 rfl rfl rfl rfl rfl rfl) (same_ok _ (by kernel_rfl) (by rw [sizeLine_eq]; exact Nat.le_of_ble_eq_true (by kernel_rfl)))⟩
theorem at_12 : ∃ z8 z9, b_law_1 [y0, y1, y2, y3, y4, some (.int o), some (.nd .lst .o () (ones n t w0 w1 w2)), some (.int 12), y8, y9, none] = .nx [y0, y1, y2, y3, y4, some (.int o), some (.nd .lst .o () (ones n t w0 w1 w2)), some (.int 12), z8, z9, none] := ⟨_, _, body_f (k := 12) (c := "NoThread") (by decide) (by decide) due_12 rfl rfl rfl rfl rfl (kinds_12 rfl rfl rfl rfl rfl rfl) (same_kl _) rfl (fields_12 rfl rfl rfl rfl rfl rfl) (same_ok _ (by kernel_rfl) (by rw [sizeLine_eq]; exact Nat.le_of_ble_eq_true (by kernel_rfl)))⟩
theorem at_13 : ∃ z8 z9, b_law_1 [y0, y1, y2, y3, y4, some (.int o), some (.nd .lst .o () (ones n t w0 w1 w2)), some (.int 13), y8, y9, none] = .nx [y0, y1, y2, y3, y4, some (.int o), some (.nd .lst .o () (ones n t w0 w1 w2)), some (.int 13), z8, z9, none] := ⟨_, _, body_f (k := 13) (c := "MustWait") (by decide) (by decide) due_13 rfl rfl rfl rfl rfl (kinds_13 rfl rfl rfl rfl rfl rfl) (same_kl _) rfl (fields_13 rfl rfl rfl rfl rfl rfl) (same_ok _ (by kernel_rfl) (by rw [sizeLine_eq]; exact Nat.le_of_ble_eq_true (by kernel_rfl)))⟩
theorem at_14 : ∃ z8 z9, b_law_1 [y0, y1, y2, y3, y4, some (.int o), some (.nd .lst .o () (ones n t w0 w1 w2)), some (.int 14), y8, y9, none] = .nx [y0, y1, y2, y3, y4, some (.int o), some (.nd .lst .o () (ones n t w0 w1 w2)), some (.int 14), z8, z9, none] := ⟨_, _, body_f (k := 14) (c := "Refused") (by decide) (by decide) due_14 rfl rfl rfl rfl rfl (kinds_14 rfl rfl rfl rfl rfl rfl) (same_kl _) rfl (fields_14 rfl rfl rfl rfl rfl rfl) (same_ok _ (by kernel_rfl) (by rw [sizeLine_eq]; exact Nat.le_of_ble_eq_true (by kernel_rfl)))⟩
theorem at_15 : ∃ z8 z9, b_law_1 [y0, y1, y2, y3, y4, some (.int o), some (.nd .lst .o () (ones n t w0 w1 w2)), some (.int 15), y8, y9, none] = .nx [y0, y1, y2, y3, y4, some (.int o), some (.nd .lst .o () (ones n t w0 w1 w2)), some (.int 15), z8, z9, none] := ⟨_, _, body_f (k := 15) (c := "Deadlocked") (by decide) (by decide) due_15 rfl rfl rfl rfl rfl (kinds_15 rfl rfl rfl rfl rfl rfl) (same_kl _) rfl (fields_15 rfl rfl rfl rfl rfl rfl) (same_ok _ (by kernel_rfl) (by rw [sizeLine_eq]; exact Nat.le_of_ble_eq_true (by kernel_rfl)))⟩
theorem at_16 : ∃ z8 z9, b_law_1 [y0, y1, y2, y3, y4, some (.int o), some (.nd .lst .o () (ones n t w0 w1 w2)), some (.int 16), y8, y9, none] = .nx [y0, y1, y2, y3, y4, some (.int o), some (.nd .lst .o () (ones n t w0 w1 w2)), some (.int 16), z8, z9, none] := ⟨_, _, body_f (k := 16) (c := "NoRequest") (by decide) (by decide) due_16 rfl rfl rfl rfl rfl (kinds_16 rfl rfl rfl rfl rfl rfl) (same_kl _) rfl (fields_16 rfl rfl rfl rfl rfl rfl) (same_ok _ (by kernel_rfl) (by rw [sizeLine_eq]; exact Nat.le_of_ble_eq_true (by kernel_rfl)))⟩
theorem at_17 : ∃ z8 z9, b_law_1 [y0, y1, y2, y3, y4, some (.int o), some (.nd .lst .o () (ones n t w0 w1 w2)), some (.int 17), y8, y9, none] = .nx [y0, y1, y2, y3, y4, some (.int o), some (.nd .lst .o () (ones n t w0 w1 w2)), some (.int 17), z8, z9, none] := ⟨_, _, body_f (k := 17) (c := "NoContext") (by decide) (by decide) due_17 rfl rfl rfl rfl rfl (kinds_17 rfl rfl rfl rfl rfl rfl) (same_kl _) rfl (fields_17 rfl rfl rfl rfl rfl rfl) (same_ok _ (by kernel_rfl) (by rw [sizeLine_eq]; exact Nat.le_of_ble_eq_true (by kernel_rfl)))⟩
theorem at_18 : ∃ z8 z9, b_law_1 [y0, y1, y2, y3, y4, some (.int o), some (.nd .lst .o () (ones n t w0 w1 w2)), some (.int 18), y8, y9, none] = .nx [y0, y1, y2, y3, y4, some (.int o), some (.nd .lst .o () (ones n t w0 w1 w2)), some (.int 18), z8, z9, none] := ⟨_, _, body_f (k := 18) (c := "NoRunCycle") (by decide) (by decide) due_18 rfl rfl rfl rfl rfl (kinds_18 rfl rfl rfl rfl rfl rfl) (same_kl _) rfl (fields_18 rfl rfl rfl rfl rfl rfl) (same_ok _ (by kernel_rfl) (by rw [sizeLine_eq]; exact Nat.le_of_ble_eq_true (by kernel_rfl)))⟩
theorem at_19 : ∃ z8 z9, b_law_1 [y0, y1, y2, y3, y4, some (.int o), some (.nd .lst .o () (ones n t w0 w1 w2)), some (.int 19), y8, y9, none] = .nx [y0, y1, y2, y3, y4, some (.int o), some (.nd .lst .o () (ones n t w0 w1 w2)), some (.int 19), z8, z9, none] := ⟨_, _, body_f (k := 19) (c := "Clash") (by decide) (by decide) due_19 rfl rfl rfl rfl rfl (kinds_19 rfl rfl rfl rfl rfl rfl) (same_kl _) rfl (fields_19 rfl rfl rfl rfl rfl rfl) (same_ok _ (by kernel_rfl) (by rw [sizeLine_eq]; exact Nat.le_of_ble_eq_true (by kernel_rfl)))⟩
theorem at_20 : ∃ z8 z9, b_law_1 [y0, y1, y2, y3, y4, some (.int o), some (.nd .lst .o () (ones n t w0 w1 w2)), some (.int 20), y8, y9, none] = .nx [y0, y1, y2, y3, y4, some (.int o), some (.nd .lst .o () (ones n t w0 w1 w2)), some (.int 20), z8, z9, none] := ⟨_, _, body_f (k := 20) (c := "NoLockOrder") (by decide) (by decide) due_20 rfl rfl rfl rfl rfl (kinds_20 rfl rfl rfl rfl rfl rfl) (same_kl _) rfl (fields_20 rfl rfl rfl rfl rfl rfl) (same_ok _ (by kernel_rfl) (by rw [sizeLine_eq]; exact Nat.le_of_ble_eq_true (by kernel_rfl)))⟩
theorem at_21 : ∃ z8 z9, b_law_1 [y0, y1, y2, y3, y4, some (.int o), some (.nd .lst .o () (ones n t w0 w1 w2)), some (.int 21), y8, y9, none] = .nx [y0, y1, y2, y3, y4, some (.int o), some (.nd .lst .o () (ones n t w0 w1 w2)), some (.int 21), z8, z9, none] := ⟨_, _, body_l (k := 21) (c := "LineError") (by decide) due_21 rfl rfl rfl rfl rfl (kinds_21 rfl rfl rfl rfl rfl rfl) (same_kl _) (line_21 rfl rfl rfl) (same_o _ (same_ok _ (by kernel_rfl) (by rw [sizeLine_eq]; exact Nat.le_of_ble_eq_true (by kernel_rfl))) rfl rfl rfl)⟩
end
theorem loop_ok {n t o : Int} {w0 w1 w2 : Str} {y0 y1 y2 y3 y4 : Option D} : ∀ (ds : List D), (∀ d ∈ ds, ∀ y8 y9 : Option D, ∃ z8 z9, b_law_1 [y0, y1, y2, y3, y4, some (.int o), some (.nd .lst .o () (ones n t w0 w1 w2)), some d, y8, y9, none] = .nx [y0, y1, y2, y3, y4, some (.int o), some (.nd .lst .o () (ones n t w0 w1 w2)), some d, z8, z9, none]) →
    ∀ y7 y8 y9 : Option D, ∃ ρ', forL (G.name 7) b_law_1 ds [y0, y1, y2, y3, y4, some (.int o), some (.nd .lst .o () (ones n t w0 w1 w2)), y7, y8, y9, none] = .nx ρ'
  | [], _, y7, y8, y9 => ⟨_, rfl⟩
  | d :: ds, h, y7, y8, y9 => by
    obtain ⟨z8, z9, e⟩ := h d List.mem_cons_self y8 y9
    obtain ⟨ρ', e2⟩ := loop_ok ds (fun d hd => h d (List.mem_cons_of_mem _ hd)) (some d) z8 z9
    refine ⟨ρ', ?_⟩
    unfold forL
    have g1 : G.name 7 d [y0, y1, y2, y3, y4, some (.int o), some (.nd .lst .o () (ones n t w0 w1 w2)), y7, y8, y9, none] = some [y0, y1, y2, y3, y4, some (.int o), some (.nd .lst .o () (ones n t w0 w1 w2)), some d, y8, y9, none] := rfl
    rw [g1]
    dsimp only
    rw [e]
    exact e2
theorem all_at {n t o : Int} {w0 w1 w2 : Str} {y0 y1 y2 y3 y4 : Option D} : ∀ d ∈ (rangeD 0 22 : List D), ∀ y8 y9 : Option D, ∃ z8 z9, b_law_1 [y0, y1, y2, y3, y4, some (.int o), some (.nd .lst .o () (ones n t w0 w1 w2)), some d, y8, y9, none] = .nx [y0, y1, y2, y3, y4, some (.int o), some (.nd .lst .o () (ones n t w0 w1 w2)), some d, z8, z9, none] := by
  intro d hd y8 y9
  have e : (rangeD 0 22 : List D) = [.int 0, .int 1, .int 2, .int 3, .int 4, .int 5, .int 6, .int 7, .int 8, .int 9, .int 10, .int 11, .int 12, .int 13, .int 14, .int 15, .int 16, .int 17, .int 18, .int 19, .int 20, .int 21] := by kernel_rfl
  rw [e] at hd
  simp only [List.mem_cons, List.not_mem_nil, or_false] at hd
  rcases hd with rfl | rfl | rfl | rfl | rfl | rfl | rfl | rfl | rfl | rfl | rfl | rfl | rfl | rfl | rfl | rfl | rfl | rfl | rfl | rfl | rfl | rfl
  · exact at_0
  · exact at_1
  · exact at_2
  · exact at_3
  · exact at_4
  · exact at_5
  · exact at_6
  · exact at_7
  · exact at_8
  · exact at_9
  · exact at_10
  · exact at_11
  · exact at_12
  · exact at_13
  · exact at_14
  · exact at_15
  · exact at_16
  · exact at_17
  · exact at_18
  · exact at_19
  · exact at_20
  · exact at_21
section
variable {S0 : Option D} {vs ws : List D} {v0 v1 v2 v3 v4 n t o : Int} {w0 w1 w2 : Str} {y3 y4 y5 y6 y7 y8 y9 : Option D}
theorem stp_2 (hl : mkL lend vs = vs) (h : atI vs 0 = some (.int v0)) : S.asg (E.bin D.add (E.c (.int 1)) (E.bin D.mod (E.args D.int_ (E.cons (E.bin D.idx (E.at (P.var 1)) (E.c (.int 0))) E.nil)) (E.c (.int 75)))) (G.name 2) [S0, some (.nd .lst .c () vs), none, none, none, none, none, none, none, none, none] = .nx [S0, some (.nd .lst .c () vs), some (.int (1 + v0 % 75)), none, none, none, none, none, none, none, none] := by
  simp [hl, h, d_mod]
theorem stp_4 (hl : mkL lend vs = vs) (h : atI vs 3 = some (.int v3)) : S.asg (E.bin D.mod (E.args D.int_ (E.cons (E.bin D.idx (E.at (P.var 1)) (E.c (.int 3))) E.nil)) (E.c (.int 40))) (G.name 4) [S0, some (.nd .lst .c () vs), some (.int n), y3, none, none, none, none, none, none, none] = .nx [S0, some (.nd .lst .c () vs), some (.int n), y3, some (.int (v3 % 40)), none, none, none, none, none, none] := by
  simp [hl, h, d_mod]
theorem stp_5 (hl : mkL lend vs = vs) (h : atI vs 4 = some (.int v4)) : S.asg (E.bin D.mod (E.args D.int_ (E.cons (E.bin D.idx (E.at (P.var 1)) (E.c (.int 4))) E.nil)) (E.c (.int 60))) (G.name 5) [S0, some (.nd .lst .c () vs), some (.int n), y3, y4, none, none, none, none, none, none] = .nx [S0, some (.nd .lst .c () vs), some (.int n), y3, y4, some (.int (v4 % 60)), none, none, none, none, none] := by
  simp [hl, h, d_mod]
def o6 (n t : Int) (w0 w1 : Str) : List D := [.int n, .int n, .int n, .int n, .int n, .int n, .int n, .str w0, .str w1, .str "", .nd .tup .c () [.str "acquire", .str w0], .int t]
def o7 (n t : Int) (w0 w1 w2 : Str) : List D := [.int (0 - t), .str w0, .int t, .nd .tup .c () [.int t, .int (t + 1)], .nd .tup .c () [.nd .tup .c () [.str w0, .str w1], .str w2], .nd .tup .c () [.str w0, .nd .tup .c () [.str w1]], .str ""]
def o8 (n : Int) (w0 w1 w2 : Str) : List D := [.nd .tup .c () [.str w1, .str w0], .nd .tup .c () [.str w2, .str w1], .int n]
theorem stp_6 {vv : Option D} (hl : mkL lend ws = ws) (h0 : atI ws 0 = some (.str w0)) (h1 : atI ws 1 = some (.str w1)) : S.asg (E.args D.mkl (E.cons (E.tk (P.var 2)) (E.cons (E.tk (P.var 2)) (E.cons (E.tk (P.var 2)) (E.cons (E.tk (P.var 2)) (E.cons (E.tk (P.var 2)) (E.cons (E.tk (P.var 2)) (E.cons (E.tk (P.var 2)) (E.cons (E.bin D.idx (E.at (P.var 3)) (E.c (.int 0))) (E.cons (E.bin D.idx (E.at (P.var 3)) (E.c (.int 1))) (E.cons (E.c (.str "")) (E.cons (E.args D.mkt (E.cons (E.c (.str "acquire")) (E.cons (E.bin D.idx (E.at (P.var 3)) (E.c (.int 0))) E.nil))) (E.cons (E.tk (P.var 4)) E.nil))))))))))))) (G.name 6) [S0, vv, some (.int n), some (.nd .lst .o () ws), some (.int t), y5, none, none, none, none, none] = .nx [S0, vv, some (.int n), some (.nd .lst .o () ws), some (.int t), y5, some (.nd .lst .o () (o6 n t w0 w1)), none, none, none, none] := by
  have hz := sizeLine_eq
  simp [hl, h0, h1, hz, o6]
theorem stp_7 {vv : Option D} {l6 : List D} (hc : allL isC l6 = true) (h6 : l6.length = 12) (hl : mkL lend ws = ws) (h0 : atI ws 0 = some (.str w0)) (h1 : atI ws 1 = some (.str w1)) (h2 : atI ws 2 = some (.str w2)) : S.asg (E.bin D.add (E.at (P.var 6)) (E.args D.mkl (E.cons (E.bin D.sub (E.c (.int 0)) (E.at (P.var 4))) (E.cons (E.bin D.idx (E.at (P.var 3)) (E.c (.int 0))) (E.cons (E.tk (P.var 4)) (E.cons (E.args D.mkt (E.cons (E.tk (P.var 4)) (E.cons (E.bin D.add (E.at (P.var 4)) (E.c (.int 1))) E.nil))) (E.cons (E.args D.mkt (E.cons (E.args D.mkt (E.cons (E.bin D.idx (E.at (P.var 3)) (E.c (.int 0))) (E.cons (E.bin D.idx (E.at (P.var 3)) (E.c (.int 1))) E.nil))) (E.cons (E.bin D.idx (E.at (P.var 3)) (E.c (.int 2))) E.nil))) (E.cons (E.args D.mkt (E.cons (E.bin D.idx (E.at (P.var 3)) (E.c (.int 0))) (E.cons (E.args D.mkt (E.cons (E.bin D.idx (E.at (P.var 3)) (E.c (.int 1))) E.nil)) E.nil))) (E.cons (E.c (.str "")) E.nil))))))))) (G.name 6) [S0, vv, some (.int n), some (.nd .lst .o () ws), some (.int t), y5, some (.nd .lst .o () l6), none, none, none, none] = .nx [S0, vv, some (.int n), some (.nd .lst .o () ws), some (.int t), y5, some (.nd .lst .o () (l6 ++ o7 n t w0 w1 w2)), none, none, none, none] := by
  have hz := sizeLine_eq
  simp [hl, h0, h1, h2, hz, o7, hc, h6, lend_cold hc, allC_notB hc, d_addL]
theorem stp_8 {vv : Option D} {l6 : List D} (hc : allL isC l6 = true) (h6 : l6.length = 19) (hl : mkL lend ws = ws) (h0 : atI ws 0 = some (.str w0)) (h1 : atI ws 1 = some (.str w1)) (h2 : atI ws 2 = some (.str w2)) : S.asg (E.bin D.add (E.at (P.var 6)) (E.args D.mkl (E.cons (E.args D.mkt (E.cons (E.bin D.idx (E.at (P.var 3)) (E.c (.int 1))) (E.cons (E.bin D.idx (E.at (P.var 3)) (E.c (.int 0))) E.nil))) (E.cons (E.args D.mkt (E.cons (E.bin D.idx (E.at (P.var 3)) (E.c (.int 2))) (E.cons (E.bin D.idx (E.at (P.var 3)) (E.c (.int 1))) E.nil))) (E.cons (E.tk (P.var 2)) E.nil))))) (G.name 6) [S0, vv, some (.int n), some (.nd .lst .o () ws), some (.int t), y5, some (.nd .lst .o () l6), none, none, none, none] = .nx [S0, vv, some (.int n), some (.nd .lst .o () ws), some (.int t), y5, some (.nd .lst .o () (l6 ++ o8 n w0 w1 w2)), none, none, none, none] := by
  have hz := sizeLine_eq
  simp [hl, h0, h1, h2, hz, o8, hc, h6, lend_cold hc, allC_notB hc, d_addL]
theorem stp_1 {cd : Fc} {sc : D} {l : List D} (hn : cd.np = 3) (hs : T.all isC sc = true) (hl : allL isC l = true) (en : cd.fn [sc, .int 0, .int 5] = .ok (.nd .lst .c () l) []) : S.asg (E.call cd [] (E.cons (E.tk (P.var 0)) (E.cons (E.c (.int 0)) (E.cons (E.c (.int 5)) E.nil)))) (G.name 1) [some sc, none, none, none, none, none, none, none, none, none, none] = .nx [some sc, some (.nd .lst .c () l), none, none, none, none, none, none, none, none, none] := by
  simp [hn, hs, en, allC_notB hl]
theorem stp_3 {cd : Fc} {l : List D} (hn : cd.np = 2) (hl : allL isC l = true) (hv : mkL lend vs = vs) (h1 : atI vs 1 = some (.int v1)) (h2 : atI vs 2 = some (.int v2)) (en : cd.fn [.int v1, .int v2] = .ok (.nd .lst .o () l) []) : S.asg (E.call cd [] (E.cons (E.bin D.idx (E.at (P.var 1)) (E.c (.int 1))) (E.cons (E.bin D.idx (E.at (P.var 1)) (E.c (.int 2))) E.nil))) (G.name 3) [S0, some (.nd .lst .c () vs), some (.int n), none, none, none, none, none, none, none, none] = .nx [S0, some (.nd .lst .c () vs), some (.int n), some (.nd .lst .o () l), none, none, none, none, none, none, none] := by
  simp [hn, hv, h1, h2, en, allC_notB hl]
end
theorem ones_eq (n t : Int) (w0 w1 w2 : Str) : (o6 n t w0 w1 ++ o7 n t w0 w1 w2) ++ o8 n w0 w1 w2 = ones n t w0 w1 w2 := rfl
theorem c6 (n t : Int) (w0 w1 : Str) : allL isC (o6 n t w0 w1) = true := rfl
theorem c7 (n t : Int) (w0 w1 w2 : Str) : allL isC (o6 n t w0 w1 ++ o7 n t w0 w1 w2) = true := rfl
theorem np_num : c_law_numbers.np = 3 := rfl
theorem np_nam : c_law_names.np = 2 := rfl
theorem rng22 (ρ : Vl.Env) : I.range1 (E.cons (E.c (.int 22)) E.nil) ρ = .ok (rangeD 0 22) ρ := by kernel_rfl
theorem for22 (ρ ρ' : Vl.Env) (h : forL (G.name 7) b_law_1 (rangeD 0 22) ρ = .nx ρ') : S.for_ (I.range1 (E.cons (E.c (.int 22)) E.nil)) (G.name 7) b_law_1 ρ = .nx ρ' := by
  rw [e_for, rng22, q_for]; exact h
theorem stp_9 {S0 y1 y2 y3 y4 : Option D} {n t o : Int} {w0 w1 w2 : Str} : ∃ ρ', S.for_ (I.range1 (E.cons (E.c (.int 22)) E.nil)) (G.name 7) b_law_1 [S0, y1, y2, y3, y4, some (.int o), some (.nd .lst .o () (ones n t w0 w1 w2)), none, none, none, none] = .nx ρ' := by
  obtain ⟨ρ', el⟩ := loop_ok (n := n) (t := t) (o := o) (w0 := w0) (w1 := w1) (w2 := w2) (y0 := S0) (y1 := y1) (y2 := y2) (y3 := y3) (y4 := y4) (rangeD 0 22) all_at none none none
  exact ⟨ρ', for22 _ _ el⟩
theorem math (ns : List Int) (hl : ns.length ≤ 63) : ∃ os, c_law.fn [.nd .scr .c () (ns.map T.int)] = .ok (.bl true) os := by
  suffices go : ∃ ρ', g_law [some (.nd .scr .c () (ns.map T.int)), none, none, none, none, none, none, none, none, none, none] = .ret (.bl true) ρ' by
    obtain ⟨ρ', e⟩ := go
    refine ⟨[], ?_⟩
    unfold c_law
    exact run_ret (m := 11) (g := g_law) (as := [.nd .scr .c () (ns.map T.int)]) e rfl
  obtain ⟨vs, hv, hv0, en⟩ := numbers_ok ns 0 5 (by omega) (by omega) (by omega)
  obtain ⟨v0, v1, v2, v3, v4, rfl⟩ : ∃ v0 v1 v2 v3 v4, vs = [v0, v1, v2, v3, v4] := by
    match vs, hv with
    | [v0, v1, v2, v3, v4], _ => exact ⟨v0, v1, v2, v3, v4, rfl⟩
  obtain ⟨ws, hw, _, _, ew⟩ := names_ok v1 v2
  obtain ⟨w0, w1, w2, wr, rfl⟩ : ∃ w0 w1 w2 wr, ws = w0 :: w1 :: w2 :: wr := by
    match ws, hw with
    | w0 :: w1 :: w2 :: wr, _ => exact ⟨w0, w1, w2, wr, rfl⟩
  have a0 : atI (List.map (T.int : Int → D) [v0, v1, v2, v3, v4]) 0 = some (.int v0) := rfl
  have a1 : atI (List.map (T.int : Int → D) [v0, v1, v2, v3, v4]) 1 = some (.int v1) := rfl
  have a2 : atI (List.map (T.int : Int → D) [v0, v1, v2, v3, v4]) 2 = some (.int v2) := rfl
  have a3 : atI (List.map (T.int : Int → D) [v0, v1, v2, v3, v4]) 3 = some (.int v3) := rfl
  have a4 : atI (List.map (T.int : Int → D) [v0, v1, v2, v3, v4]) 4 = some (.int v4) := rfl
  have b0 : atI (List.map (T.str : Str → D) (w0 :: w1 :: w2 :: wr)) 0 = some (.str w0) := atI_some (by decide) rfl
  have b1 : atI (List.map (T.str : Str → D) (w0 :: w1 :: w2 :: wr)) 1 = some (.str w1) := atI_some (by decide) rfl
  have b2 : atI (List.map (T.str : Str → D) (w0 :: w1 :: w2 :: wr)) 2 = some (.str w2) := atI_some (by decide) rfl
  have lv : mkL lend (List.map (T.int : Int → D) [v0, v1, v2, v3, v4]) = List.map T.int [v0, v1, v2, v3, v4] := lendL
  have lw : mkL lend (List.map (T.str : Str → D) (w0 :: w1 :: w2 :: wr)) = List.map T.str (w0 :: w1 :: w2 :: wr) := lendL
  have cv : allL isC (List.map (T.int : Int → D) [v0, v1, v2, v3, v4]) = true := coldL
  have cw : allL isC (List.map (T.str : Str → D) (w0 :: w1 :: w2 :: wr)) = true := coldL
  have cs : T.all isC (.nd .scr .c () (ns.map T.int) : D) = true := by simp
  generalize List.map (T.int : Int → D) [v0, v1, v2, v3, v4] = V at a0 a1 a2 a3 a4 lv cv en
  generalize List.map (T.str : Str → D) (w0 :: w1 :: w2 :: wr) = Ws at b0 b1 b2 lw cw ew
  generalize (.nd .scr .c () (ns.map T.int) : D) = sc at cs en ⊢
  have nn := np_num
  have nw := np_nam
  unfold g_law
  generalize c_law_numbers = cn at nn en ⊢
  generalize c_law_names = cm at nw ew ⊢
  let P0 : SR → Prop := fun r => ∃ ρ', r = .ret (.bl true) ρ'
  refine seq_step (P := P0) (stp_1 nn cs cv en) ?_
  refine seq_step (P := P0) (stp_2 lv a0) ?_
  refine seq_step (P := P0) (stp_3 nw cw lv a1 a2 ew) ?_
  refine seq_step (P := P0) (stp_4 lv a3) ?_
  refine seq_step (P := P0) (stp_5 lv a4) ?_
  generalize v3 % 40 = t
  generalize v4 % 60 = o
  generalize 1 + v0 % 75 = n
  refine seq_step (P := P0) (stp_6 lw b0 b1) ?_
  refine seq_step (P := P0) (stp_7 (c6 n t w0 w1) rfl lw b0 b1 b2) ?_
  refine seq_step (P := P0) (stp_8 (c7 n t w0 w1 w2) rfl lw b0 b1 b2) ?_
  rw [ones_eq]
  obtain ⟨ρ', el⟩ := stp_9 (S0 := some sc) (y1 := some (.nd .lst .c () V)) (y2 := some (.int n)) (y3 := some (.nd .lst .o () Ws)) (y4 := some (.int t)) (n := n) (t := t) (o := o) (w0 := w0) (w1 := w1) (w2 := w2)
  refine seq_step (P := P0) el ?_
  exact ⟨ρ', rfl⟩

def dd_law_numbers : He.DefD := ⟨("_law_numbers", none), "_law_numbers", "_law_numbers", defArgs st_law_numbers, defBody st_law_numbers, defScope st_law_numbers, [], []⟩
def dd_law_names : He.DefD := ⟨("_law_names", none), "_law_names", "_law_names", defArgs st_law_names, defBody st_law_names, defScope st_law_names, [], []⟩
def dd_law_leaf : He.DefD := ⟨("_law_leaf", none), "_law_leaf", "_law_leaf", defArgs st_law_leaf, defBody st_law_leaf, defScope st_law_leaf, [], []⟩
def dd_law_same : He.DefD := ⟨("_law_same", none), "_law_same", "_law_same", defArgs st_law_same, defBody st_law_same, defScope st_law_same, [], []⟩
def dd_law_raise : He.DefD := ⟨("_law_raise", none), "_law_raise", "_law_raise", defArgs st_law_raise, defBody st_law_raise, defScope st_law_raise, [], []⟩
def dd_law_kinds : He.DefD := ⟨("_law_kinds", none), "_law_kinds", "_law_kinds", defArgs st_law_kinds, defBody st_law_kinds, defScope st_law_kinds, [], []⟩
def dd_law_line_field : He.DefD := ⟨("_law_line_field", none), "_law_line_field", "_law_line_field", defArgs st_law_line_field, defBody st_law_line_field, defScope st_law_line_field, [], []⟩
def dd_law_fields : He.DefD := ⟨("_law_fields", none), "_law_fields", "_law_fields", defArgs st_law_fields, defBody st_law_fields, defScope st_law_fields, [], []⟩
def dd_law : He.DefD := ⟨("law", none), "law", "law", defArgs st_law, defBody st_law, defScope st_law, [], []⟩
abbrev st_i_LineError : Stmt := (inCls (top 2)).getD 0 (.Pass ⟨0, 0, 0, 0⟩)
theorem sc_i_LineError : FnScope ["self", "number"] ["self", "number"] (defScope st_i_LineError) := ⟨rfl, rfl, rfl, by decide +kernel, rfl, by decide +kernel, by decide +kernel⟩
def dd_i_LineError : He.DefD := ⟨("LineError", some "__init__"), "__init__", "LineError.__init__", defArgs st_i_LineError, defBody st_i_LineError, defScope st_i_LineError, [], []⟩
def dd_i_BadForm : He.DefD := ⟨("BadForm", some "__init__"), "__init__", "LineError.__init__", defArgs st_i_LineError, defBody st_i_LineError, defScope st_i_LineError, [], []⟩
def dd_i_Misplaced : He.DefD := ⟨("Misplaced", some "__init__"), "__init__", "LineError.__init__", defArgs st_i_LineError, defBody st_i_LineError, defScope st_i_LineError, [], []⟩
def dd_i_Duplicate : He.DefD := ⟨("Duplicate", some "__init__"), "__init__", "LineError.__init__", defArgs st_i_LineError, defBody st_i_LineError, defScope st_i_LineError, [], []⟩
def dd_i_Unknown : He.DefD := ⟨("Unknown", some "__init__"), "__init__", "LineError.__init__", defArgs st_i_LineError, defBody st_i_LineError, defScope st_i_LineError, [], []⟩
def dd_i_NotNested : He.DefD := ⟨("NotNested", some "__init__"), "__init__", "LineError.__init__", defArgs st_i_LineError, defBody st_i_LineError, defScope st_i_LineError, [], []⟩
def dd_i_TooMany : He.DefD := ⟨("TooMany", some "__init__"), "__init__", "LineError.__init__", defArgs st_i_LineError, defBody st_i_LineError, defScope st_i_LineError, [], []⟩
def dd_i_TooLong : He.DefD := ⟨("TooLong", some "__init__"), "__init__", "LineError.__init__", defArgs st_i_LineError, defBody st_i_LineError, defScope st_i_LineError, [], []⟩
abbrev st_i_NoName : Stmt := (inCls (top 10)).getD 0 (.Pass ⟨0, 0, 0, 0⟩)
theorem sc_i_NoName : FnScope ["self", "name"] ["self", "name"] (defScope st_i_NoName) := ⟨rfl, rfl, rfl, by decide +kernel, rfl, by decide +kernel, by decide +kernel⟩
def dd_i_NoName : He.DefD := ⟨("NoName", some "__init__"), "__init__", "NoName.__init__", defArgs st_i_NoName, defBody st_i_NoName, defScope st_i_NoName, [], []⟩
abbrev st_i_Repeated : Stmt := (inCls (top 11)).getD 0 (.Pass ⟨0, 0, 0, 0⟩)
theorem sc_i_Repeated : FnScope ["self", "name"] ["self", "name"] (defScope st_i_Repeated) := ⟨rfl, rfl, rfl, by decide +kernel, rfl, by decide +kernel, by decide +kernel⟩
def dd_i_Repeated : He.DefD := ⟨("Repeated", some "__init__"), "__init__", "Repeated.__init__", defArgs st_i_Repeated, defBody st_i_Repeated, defScope st_i_Repeated, [], []⟩
abbrev st_i_WrongMove : Stmt := (inCls (top 13)).getD 0 (.Pass ⟨0, 0, 0, 0⟩)
theorem sc_i_WrongMove : FnScope ["self", "move"] ["self", "move"] (defScope st_i_WrongMove) := ⟨rfl, rfl, rfl, by decide +kernel, rfl, by decide +kernel, by decide +kernel⟩
def dd_i_WrongMove : He.DefD := ⟨("WrongMove", some "__init__"), "__init__", "WrongMove.__init__", defArgs st_i_WrongMove, defBody st_i_WrongMove, defScope st_i_WrongMove, [], []⟩
abbrev st_i_BadRun : Stmt := (inCls (top 14)).getD 0 (.Pass ⟨0, 0, 0, 0⟩)
theorem sc_i_BadRun : FnScope ["self", "at"] ["self", "at"] (defScope st_i_BadRun) := ⟨rfl, rfl, rfl, by decide +kernel, rfl, by decide +kernel, by decide +kernel⟩
def dd_i_BadRun : He.DefD := ⟨("BadRun", some "__init__"), "__init__", "BadRun.__init__", defArgs st_i_BadRun, defBody st_i_BadRun, defScope st_i_BadRun, [], []⟩
abbrev st_i_NoThread : Stmt := (inCls (top 15)).getD 0 (.Pass ⟨0, 0, 0, 0⟩)
theorem sc_i_NoThread : FnScope ["self", "thread"] ["self", "thread"] (defScope st_i_NoThread) := ⟨rfl, rfl, rfl, by decide +kernel, rfl, by decide +kernel, by decide +kernel⟩
def dd_i_NoThread : He.DefD := ⟨("NoThread", some "__init__"), "__init__", "NoThread.__init__", defArgs st_i_NoThread, defBody st_i_NoThread, defScope st_i_NoThread, [], []⟩
abbrev st_i_MustWait : Stmt := (inCls (top 16)).getD 0 (.Pass ⟨0, 0, 0, 0⟩)
theorem sc_i_MustWait : FnScope ["self", "lock", "blocker"] ["self", "lock", "blocker"] (defScope st_i_MustWait) := ⟨rfl, rfl, rfl, by decide +kernel, rfl, by decide +kernel, by decide +kernel⟩
def dd_i_MustWait : He.DefD := ⟨("MustWait", some "__init__"), "__init__", "MustWait.__init__", defArgs st_i_MustWait, defBody st_i_MustWait, defScope st_i_MustWait, [], []⟩
abbrev st_i_Refused : Stmt := (inCls (top 17)).getD 0 (.Pass ⟨0, 0, 0, 0⟩)
theorem sc_i_Refused : FnScope ["self", "at"] ["self", "at"] (defScope st_i_Refused) := ⟨rfl, rfl, rfl, by decide +kernel, rfl, by decide +kernel, by decide +kernel⟩
def dd_i_Refused : He.DefD := ⟨("Refused", some "__init__"), "__init__", "Refused.__init__", defArgs st_i_Refused, defBody st_i_Refused, defScope st_i_Refused, [], []⟩
abbrev st_i_Deadlocked : Stmt := (inCls (top 18)).getD 0 (.Pass ⟨0, 0, 0, 0⟩)
theorem sc_i_Deadlocked : FnScope ["self", "cycle"] ["self", "cycle"] (defScope st_i_Deadlocked) := ⟨rfl, rfl, rfl, by decide +kernel, rfl, by decide +kernel, by decide +kernel⟩
def dd_i_Deadlocked : He.DefD := ⟨("Deadlocked", some "__init__"), "__init__", "Deadlocked.__init__", defArgs st_i_Deadlocked, defBody st_i_Deadlocked, defScope st_i_Deadlocked, [], []⟩
abbrev st_i_NoRequest : Stmt := (inCls (top 19)).getD 0 (.Pass ⟨0, 0, 0, 0⟩)
theorem sc_i_NoRequest : FnScope ["self", "request"] ["self", "request"] (defScope st_i_NoRequest) := ⟨rfl, rfl, rfl, by decide +kernel, rfl, by decide +kernel, by decide +kernel⟩
def dd_i_NoRequest : He.DefD := ⟨("NoRequest", some "__init__"), "__init__", "NoRequest.__init__", defArgs st_i_NoRequest, defBody st_i_NoRequest, defScope st_i_NoRequest, [], []⟩
abbrev st_i_NoContext : Stmt := (inCls (top 20)).getD 0 (.Pass ⟨0, 0, 0, 0⟩)
theorem sc_i_NoContext : FnScope ["self", "context"] ["self", "context"] (defScope st_i_NoContext) := ⟨rfl, rfl, rfl, by decide +kernel, rfl, by decide +kernel, by decide +kernel⟩
def dd_i_NoContext : He.DefD := ⟨("NoContext", some "__init__"), "__init__", "NoContext.__init__", defArgs st_i_NoContext, defBody st_i_NoContext, defScope st_i_NoContext, [], []⟩
abbrev st_i_Clash : Stmt := (inCls (top 22)).getD 0 (.Pass ⟨0, 0, 0, 0⟩)
theorem sc_i_Clash : FnScope ["self", "cycle"] ["self", "cycle"] (defScope st_i_Clash) := ⟨rfl, rfl, rfl, by decide +kernel, rfl, by decide +kernel, by decide +kernel⟩
def dd_i_Clash : He.DefD := ⟨("Clash", some "__init__"), "__init__", "Clash.__init__", defArgs st_i_Clash, defBody st_i_Clash, defScope st_i_Clash, [], []⟩
abbrev st_i_NoLockOrder : Stmt := (inCls (top 23)).getD 0 (.Pass ⟨0, 0, 0, 0⟩)
theorem sc_i_NoLockOrder : FnScope ["self", "cycle"] ["self", "cycle"] (defScope st_i_NoLockOrder) := ⟨rfl, rfl, rfl, by decide +kernel, rfl, by decide +kernel, by decide +kernel⟩
def dd_i_NoLockOrder : He.DefD := ⟨("NoLockOrder", some "__init__"), "__init__", "NoLockOrder.__init__", defArgs st_i_NoLockOrder, defBody st_i_NoLockOrder, defScope st_i_NoLockOrder, [], []⟩
def fn : List He.DefD := [dd_law_numbers, dd_law_names, dd_law_leaf, dd_law_same, dd_law_raise, dd_law_kinds, dd_law_line_field, dd_law_fields, dd_law, dd_i_LineError, dd_i_BadForm, dd_i_Misplaced, dd_i_Duplicate, dd_i_Unknown, dd_i_NotNested, dd_i_TooMany, dd_i_TooLong, dd_i_NoName, dd_i_Repeated, dd_i_WrongMove, dd_i_BadRun, dd_i_NoThread, dd_i_MustWait, dd_i_Refused, dd_i_Deadlocked, dd_i_NoRequest, dd_i_NoContext, dd_i_Clash, dd_i_NoLockOrder]
def fa : List He.Fa := [.glo "_law_numbers", .glo "_law_names", .glo "_law_leaf", .glo "_law_same", .glo "_law_raise", .glo "_law_kinds", .glo "_law_line_field", .glo "_law_fields", .glo "law", .free "ValueError", .free "abs", .free "bool", .free "int", .free "isinstance", .free "len", .free "list", .free "range", .free "str", .free "tuple", .free "zip", .glo "HeldError", .glo "LineError", .glo "BadForm", .glo "Misplaced", .glo "Duplicate", .glo "Unknown", .glo "NotNested", .glo "TooMany", .glo "TooLong", .glo "NoName", .glo "Repeated", .glo "Overfull", .glo "WrongMove", .glo "BadRun", .glo "NoThread", .glo "MustWait", .glo "Refused", .glo "Deadlocked", .glo "NoRequest", .glo "NoContext", .glo "NoRunCycle", .glo "Clash", .glo "NoLockOrder"]
def ex (K : PySem.W.Frag) : Bool := (errB K errs errH errFf sub && (rsB K "LineError" ["number"] && (rsB K "BadForm" ["number"] && (rsB K "Misplaced" ["number"] && (rsB K "Duplicate" ["number"] && (rsB K "Unknown" ["number"] && (rsB K "NotNested" ["number"] && (rsB K "TooMany" ["number"] && (rsB K "TooLong" ["number"] && (rsB K "NoName" ["name"] && (rsB K "Repeated" ["name"] && (rsB K "WrongMove" ["move"] && (rsB K "BadRun" ["at"] && (rsB K "NoThread" ["thread"] && (rsB K "MustWait" ["lock", "blocker"] && (rsB K "Refused" ["at"] && (rsB K "Deadlocked" ["cycle"] && (rsB K "NoRequest" ["request"] && (rsB K "NoContext" ["context"] && (rsB K "Clash" ["cycle"] && (rsB K "NoLockOrder" ["cycle"] && (r0B K "Overfull" && (r0B K "NoRunCycle" && true)))))))))))))))))))))))
abbrev R : PySem.W.OpenRow := PySem.W.OpenLaw.row PySem.Challenge.rw_heldcalls_k76_error_classes
abbrev hk : PySem.W.Hook := Vl.hookV 6 fa fn [] ex
def ob (s : PySem.W.SharedT) : He.AlT × Bool := Vl.obsV 6 fa fn [] ex (HandSHeadRun.getT s)
theorem ob_eq (s : PySem.W.SharedT) : ob s = hk.obs s.abs := Vl.obsV_eq (HandSHeadRun.getT_eq s)
theorem run (w : World) : HandSHeadRun.RunEq R (PySem.W.view R.prog [33]) hk ob 20000 ["HeldError", "LineError", "BadForm", "Misplaced", "Duplicate", "Unknown", "NotNested", "TooMany", "TooLong", "NoName", "Repeated", "Overfull", "WrongMove", "BadRun", "NoThread", "MustWait", "Refused", "Deadlocked", "NoRequest", "NoContext", "NoRunCycle", "Clash", "NoLockOrder", "_law_numbers", "_law_names", "_law_leaf", "_law_same", "_law_raise", "_law_kinds", "_law_line_field", "_law_fields"] w := by
  intro os
  kernel_rfl
theorem facts {Pg : Program} {w : World} {h : Heap} {mg : Str → Option Value} {f : Addr} (Y : hk.says w h) (G : h.Ns mainGlobals mg) (hfa : mg ("law" : Str) = some (.ref f)) :
    ∃ (K : PySem.W.Frag) (fd : FuncData) (cf : Str → Addr) (c : Fc), K.In h ∧ (∀ (s : Shared) (u : Value), BindsTo s fd ⟨[u], []⟩ [("script", u)]) ∧ c = c_law ∧ ∀ base : Heap, K.In base → base.Ns mainGlobals mg → FnOk Pg w K mg base (L2.CX Pg w) 5 f fd ["script"] (spM K cf c) := by
  obtain ⟨K, X, c⟩ := Y
  have cd := c.t.d
  have ce := c.more
  unfold ex at ce
  obtain ⟨e0, ce⟩ := He.ba ce
  obtain ⟨e1, ce⟩ := He.ba ce
  obtain ⟨e2, ce⟩ := He.ba ce
  obtain ⟨e3, ce⟩ := He.ba ce
  obtain ⟨e4, ce⟩ := He.ba ce
  obtain ⟨e5, ce⟩ := He.ba ce
  obtain ⟨e6, ce⟩ := He.ba ce
  obtain ⟨e7, ce⟩ := He.ba ce
  obtain ⟨e8, ce⟩ := He.ba ce
  obtain ⟨e9, ce⟩ := He.ba ce
  obtain ⟨e10, ce⟩ := He.ba ce
  obtain ⟨e11, ce⟩ := He.ba ce
  obtain ⟨e12, ce⟩ := He.ba ce
  obtain ⟨e13, ce⟩ := He.ba ce
  obtain ⟨e14, ce⟩ := He.ba ce
  obtain ⟨e15, ce⟩ := He.ba ce
  obtain ⟨e16, ce⟩ := He.ba ce
  obtain ⟨e17, ce⟩ := He.ba ce
  obtain ⟨e18, ce⟩ := He.ba ce
  obtain ⟨e19, ce⟩ := He.ba ce
  obtain ⟨e20, ce⟩ := He.ba ce
  obtain ⟨e21, ce⟩ := He.ba ce
  obtain ⟨e22, ce⟩ := He.ba ce
  have hB : ∀ x ∈ frees, mg x = none := fun x hx => He.free_ok X G (cd.facts (f := .free x) (by
    simp only [frees, List.mem_cons, List.not_mem_nil, or_false] at hx
    rcases hx with rfl | rfl | rfl | rfl | rfl | rfl | rfl | rfl | rfl | rfl | rfl <;> simp [fa]))
  obtain ⟨fd_law_numbers, F_law_numbers⟩ := cd.defs (d := dd_law_numbers) (by simp [fn])
  have m_law_numbers := He.glo_ok X G (cd.facts (f := .glo "_law_numbers") (by simp [fa]))
  obtain ⟨fd_law_names, F_law_names⟩ := cd.defs (d := dd_law_names) (by simp [fn])
  have m_law_names := He.glo_ok X G (cd.facts (f := .glo "_law_names") (by simp [fa]))
  obtain ⟨fd_law_leaf, F_law_leaf⟩ := cd.defs (d := dd_law_leaf) (by simp [fn])
  have m_law_leaf := He.glo_ok X G (cd.facts (f := .glo "_law_leaf") (by simp [fa]))
  obtain ⟨fd_law_same, F_law_same⟩ := cd.defs (d := dd_law_same) (by simp [fn])
  have m_law_same := He.glo_ok X G (cd.facts (f := .glo "_law_same") (by simp [fa]))
  obtain ⟨fd_law_raise, F_law_raise⟩ := cd.defs (d := dd_law_raise) (by simp [fn])
  have m_law_raise := He.glo_ok X G (cd.facts (f := .glo "_law_raise") (by simp [fa]))
  obtain ⟨fd_law_kinds, F_law_kinds⟩ := cd.defs (d := dd_law_kinds) (by simp [fn])
  have m_law_kinds := He.glo_ok X G (cd.facts (f := .glo "_law_kinds") (by simp [fa]))
  obtain ⟨fd_law_line_field, F_law_line_field⟩ := cd.defs (d := dd_law_line_field) (by simp [fn])
  have m_law_line_field := He.glo_ok X G (cd.facts (f := .glo "_law_line_field") (by simp [fa]))
  obtain ⟨fd_law_fields, F_law_fields⟩ := cd.defs (d := dd_law_fields) (by simp [fn])
  have m_law_fields := He.glo_ok X G (cd.facts (f := .glo "_law_fields") (by simp [fa]))
  obtain ⟨fd_law, F_law⟩ := cd.defs (d := dd_law) (by simp [fn])
  have m_law := He.glo_ok X G (cd.facts (f := .glo "law") (by simp [fa]))
  cases hfa.symm.trans m_law
  have b := FunD.bindsA (ps := ["script"]) F_law fun _ _ _ _ _ _ us hl => match us, hl with | [_], _ => rfl
  have m_HeldError := He.glo_ok X G (cd.facts (f := .glo "HeldError") (by simp [fa]))
  have m_LineError := He.glo_ok X G (cd.facts (f := .glo "LineError") (by simp [fa]))
  have m_BadForm := He.glo_ok X G (cd.facts (f := .glo "BadForm") (by simp [fa]))
  have m_Misplaced := He.glo_ok X G (cd.facts (f := .glo "Misplaced") (by simp [fa]))
  have m_Duplicate := He.glo_ok X G (cd.facts (f := .glo "Duplicate") (by simp [fa]))
  have m_Unknown := He.glo_ok X G (cd.facts (f := .glo "Unknown") (by simp [fa]))
  have m_NotNested := He.glo_ok X G (cd.facts (f := .glo "NotNested") (by simp [fa]))
  have m_TooMany := He.glo_ok X G (cd.facts (f := .glo "TooMany") (by simp [fa]))
  have m_TooLong := He.glo_ok X G (cd.facts (f := .glo "TooLong") (by simp [fa]))
  have m_NoName := He.glo_ok X G (cd.facts (f := .glo "NoName") (by simp [fa]))
  have m_Repeated := He.glo_ok X G (cd.facts (f := .glo "Repeated") (by simp [fa]))
  have m_Overfull := He.glo_ok X G (cd.facts (f := .glo "Overfull") (by simp [fa]))
  have m_WrongMove := He.glo_ok X G (cd.facts (f := .glo "WrongMove") (by simp [fa]))
  have m_BadRun := He.glo_ok X G (cd.facts (f := .glo "BadRun") (by simp [fa]))
  have m_NoThread := He.glo_ok X G (cd.facts (f := .glo "NoThread") (by simp [fa]))
  have m_MustWait := He.glo_ok X G (cd.facts (f := .glo "MustWait") (by simp [fa]))
  have m_Refused := He.glo_ok X G (cd.facts (f := .glo "Refused") (by simp [fa]))
  have m_Deadlocked := He.glo_ok X G (cd.facts (f := .glo "Deadlocked") (by simp [fa]))
  have m_NoRequest := He.glo_ok X G (cd.facts (f := .glo "NoRequest") (by simp [fa]))
  have m_NoContext := He.glo_ok X G (cd.facts (f := .glo "NoContext") (by simp [fa]))
  have m_NoRunCycle := He.glo_ok X G (cd.facts (f := .glo "NoRunCycle") (by simp [fa]))
  have m_Clash := He.glo_ok X G (cd.facts (f := .glo "Clash") (by simp [fa]))
  have m_NoLockOrder := He.glo_ok X G (cd.facts (f := .glo "NoLockOrder") (by simp [fa]))
  obtain ⟨fd_i_LineError, F_i_LineError⟩ := cd.defs (d := dd_i_LineError) (by simp [fn])
  obtain ⟨fd_i_BadForm, F_i_BadForm⟩ := cd.defs (d := dd_i_BadForm) (by simp [fn])
  obtain ⟨fd_i_Misplaced, F_i_Misplaced⟩ := cd.defs (d := dd_i_Misplaced) (by simp [fn])
  obtain ⟨fd_i_Duplicate, F_i_Duplicate⟩ := cd.defs (d := dd_i_Duplicate) (by simp [fn])
  obtain ⟨fd_i_Unknown, F_i_Unknown⟩ := cd.defs (d := dd_i_Unknown) (by simp [fn])
  obtain ⟨fd_i_NotNested, F_i_NotNested⟩ := cd.defs (d := dd_i_NotNested) (by simp [fn])
  obtain ⟨fd_i_TooMany, F_i_TooMany⟩ := cd.defs (d := dd_i_TooMany) (by simp [fn])
  obtain ⟨fd_i_TooLong, F_i_TooLong⟩ := cd.defs (d := dd_i_TooLong) (by simp [fn])
  obtain ⟨fd_i_NoName, F_i_NoName⟩ := cd.defs (d := dd_i_NoName) (by simp [fn])
  obtain ⟨fd_i_Repeated, F_i_Repeated⟩ := cd.defs (d := dd_i_Repeated) (by simp [fn])
  obtain ⟨fd_i_WrongMove, F_i_WrongMove⟩ := cd.defs (d := dd_i_WrongMove) (by simp [fn])
  obtain ⟨fd_i_BadRun, F_i_BadRun⟩ := cd.defs (d := dd_i_BadRun) (by simp [fn])
  obtain ⟨fd_i_NoThread, F_i_NoThread⟩ := cd.defs (d := dd_i_NoThread) (by simp [fn])
  obtain ⟨fd_i_MustWait, F_i_MustWait⟩ := cd.defs (d := dd_i_MustWait) (by simp [fn])
  obtain ⟨fd_i_Refused, F_i_Refused⟩ := cd.defs (d := dd_i_Refused) (by simp [fn])
  obtain ⟨fd_i_Deadlocked, F_i_Deadlocked⟩ := cd.defs (d := dd_i_Deadlocked) (by simp [fn])
  obtain ⟨fd_i_NoRequest, F_i_NoRequest⟩ := cd.defs (d := dd_i_NoRequest) (by simp [fn])
  obtain ⟨fd_i_NoContext, F_i_NoContext⟩ := cd.defs (d := dd_i_NoContext) (by simp [fn])
  obtain ⟨fd_i_Clash, F_i_Clash⟩ := cd.defs (d := dd_i_Clash) (by simp [fn])
  obtain ⟨fd_i_NoLockOrder, F_i_NoLockOrder⟩ := cd.defs (d := dd_i_NoLockOrder) (by simp [fn])
  refine ⟨K, fd_law, He.ga K, c_law, X, fun s v => b s [v] rfl, rfl, fun base _ _ => ?_⟩
  have er_ := errF_ok (mg := mg) e0 (by
    intro x hx
    simp only [errH, List.mem_cons, List.not_mem_nil, or_false] at hx
    rcases hx with rfl | rfl | rfl | rfl | rfl | rfl | rfl | rfl | rfl | rfl | rfl | rfl | rfl | rfl | rfl | rfl | rfl | rfl | rfl | rfl | rfl | rfl | rfl <;> assumption)
  have rs_LineError : Rsn Pg w K mg base (He.ga K) "LineError" ["number"] := rsn_ok e1 m_LineError (init1 (st := st_i_LineError) F_i_LineError sc_i_LineError rfl rfl rfl rfl rfl rfl rfl) (F_i_LineError.bindsN fun _ _ _ _ _ _ us hl => match us, hl with | [_, _], _ => rfl)
  have rs_BadForm : Rsn Pg w K mg base (He.ga K) "BadForm" ["number"] := rsn_ok e2 m_BadForm (init1 (st := st_i_LineError) F_i_BadForm sc_i_LineError rfl rfl rfl rfl rfl rfl rfl) (F_i_BadForm.bindsN fun _ _ _ _ _ _ us hl => match us, hl with | [_, _], _ => rfl)
  have rs_Misplaced : Rsn Pg w K mg base (He.ga K) "Misplaced" ["number"] := rsn_ok e3 m_Misplaced (init1 (st := st_i_LineError) F_i_Misplaced sc_i_LineError rfl rfl rfl rfl rfl rfl rfl) (F_i_Misplaced.bindsN fun _ _ _ _ _ _ us hl => match us, hl with | [_, _], _ => rfl)
  have rs_Duplicate : Rsn Pg w K mg base (He.ga K) "Duplicate" ["number"] := rsn_ok e4 m_Duplicate (init1 (st := st_i_LineError) F_i_Duplicate sc_i_LineError rfl rfl rfl rfl rfl rfl rfl) (F_i_Duplicate.bindsN fun _ _ _ _ _ _ us hl => match us, hl with | [_, _], _ => rfl)
  have rs_Unknown : Rsn Pg w K mg base (He.ga K) "Unknown" ["number"] := rsn_ok e5 m_Unknown (init1 (st := st_i_LineError) F_i_Unknown sc_i_LineError rfl rfl rfl rfl rfl rfl rfl) (F_i_Unknown.bindsN fun _ _ _ _ _ _ us hl => match us, hl with | [_, _], _ => rfl)
  have rs_NotNested : Rsn Pg w K mg base (He.ga K) "NotNested" ["number"] := rsn_ok e6 m_NotNested (init1 (st := st_i_LineError) F_i_NotNested sc_i_LineError rfl rfl rfl rfl rfl rfl rfl) (F_i_NotNested.bindsN fun _ _ _ _ _ _ us hl => match us, hl with | [_, _], _ => rfl)
  have rs_TooMany : Rsn Pg w K mg base (He.ga K) "TooMany" ["number"] := rsn_ok e7 m_TooMany (init1 (st := st_i_LineError) F_i_TooMany sc_i_LineError rfl rfl rfl rfl rfl rfl rfl) (F_i_TooMany.bindsN fun _ _ _ _ _ _ us hl => match us, hl with | [_, _], _ => rfl)
  have rs_TooLong : Rsn Pg w K mg base (He.ga K) "TooLong" ["number"] := rsn_ok e8 m_TooLong (init1 (st := st_i_LineError) F_i_TooLong sc_i_LineError rfl rfl rfl rfl rfl rfl rfl) (F_i_TooLong.bindsN fun _ _ _ _ _ _ us hl => match us, hl with | [_, _], _ => rfl)
  have rs_NoName : Rsn Pg w K mg base (He.ga K) "NoName" ["name"] := rsn_ok e9 m_NoName (init1 (st := st_i_NoName) F_i_NoName sc_i_NoName rfl rfl rfl rfl rfl rfl rfl) (F_i_NoName.bindsN fun _ _ _ _ _ _ us hl => match us, hl with | [_, _], _ => rfl)
  have rs_Repeated : Rsn Pg w K mg base (He.ga K) "Repeated" ["name"] := rsn_ok e10 m_Repeated (init1 (st := st_i_Repeated) F_i_Repeated sc_i_Repeated rfl rfl rfl rfl rfl rfl rfl) (F_i_Repeated.bindsN fun _ _ _ _ _ _ us hl => match us, hl with | [_, _], _ => rfl)
  have rs_WrongMove : Rsn Pg w K mg base (He.ga K) "WrongMove" ["move"] := rsn_ok e11 m_WrongMove (init1 (st := st_i_WrongMove) F_i_WrongMove sc_i_WrongMove rfl rfl rfl rfl rfl rfl rfl) (F_i_WrongMove.bindsN fun _ _ _ _ _ _ us hl => match us, hl with | [_, _], _ => rfl)
  have rs_BadRun : Rsn Pg w K mg base (He.ga K) "BadRun" ["at"] := rsn_ok e12 m_BadRun (init1 (st := st_i_BadRun) F_i_BadRun sc_i_BadRun rfl rfl rfl rfl rfl rfl rfl) (F_i_BadRun.bindsN fun _ _ _ _ _ _ us hl => match us, hl with | [_, _], _ => rfl)
  have rs_NoThread : Rsn Pg w K mg base (He.ga K) "NoThread" ["thread"] := rsn_ok e13 m_NoThread (init1 (st := st_i_NoThread) F_i_NoThread sc_i_NoThread rfl rfl rfl rfl rfl rfl rfl) (F_i_NoThread.bindsN fun _ _ _ _ _ _ us hl => match us, hl with | [_, _], _ => rfl)
  have rs_MustWait : Rsn Pg w K mg base (He.ga K) "MustWait" ["lock", "blocker"] := rsn_ok e14 m_MustWait (init2 (st := st_i_MustWait) F_i_MustWait sc_i_MustWait rfl rfl rfl rfl rfl rfl rfl rfl rfl rfl) (F_i_MustWait.bindsN fun _ _ _ _ _ _ us hl => match us, hl with | [_, _, _], _ => rfl)
  have rs_Refused : Rsn Pg w K mg base (He.ga K) "Refused" ["at"] := rsn_ok e15 m_Refused (init1 (st := st_i_Refused) F_i_Refused sc_i_Refused rfl rfl rfl rfl rfl rfl rfl) (F_i_Refused.bindsN fun _ _ _ _ _ _ us hl => match us, hl with | [_, _], _ => rfl)
  have rs_Deadlocked : Rsn Pg w K mg base (He.ga K) "Deadlocked" ["cycle"] := rsn_ok e16 m_Deadlocked (init1 (st := st_i_Deadlocked) F_i_Deadlocked sc_i_Deadlocked rfl rfl rfl rfl rfl rfl rfl) (F_i_Deadlocked.bindsN fun _ _ _ _ _ _ us hl => match us, hl with | [_, _], _ => rfl)
  have rs_NoRequest : Rsn Pg w K mg base (He.ga K) "NoRequest" ["request"] := rsn_ok e17 m_NoRequest (init1 (st := st_i_NoRequest) F_i_NoRequest sc_i_NoRequest rfl rfl rfl rfl rfl rfl rfl) (F_i_NoRequest.bindsN fun _ _ _ _ _ _ us hl => match us, hl with | [_, _], _ => rfl)
  have rs_NoContext : Rsn Pg w K mg base (He.ga K) "NoContext" ["context"] := rsn_ok e18 m_NoContext (init1 (st := st_i_NoContext) F_i_NoContext sc_i_NoContext rfl rfl rfl rfl rfl rfl rfl) (F_i_NoContext.bindsN fun _ _ _ _ _ _ us hl => match us, hl with | [_, _], _ => rfl)
  have rs_Clash : Rsn Pg w K mg base (He.ga K) "Clash" ["cycle"] := rsn_ok e19 m_Clash (init1 (st := st_i_Clash) F_i_Clash sc_i_Clash rfl rfl rfl rfl rfl rfl rfl) (F_i_Clash.bindsN fun _ _ _ _ _ _ us hl => match us, hl with | [_, _], _ => rfl)
  have rs_NoLockOrder : Rsn Pg w K mg base (He.ga K) "NoLockOrder" ["cycle"] := rsn_ok e20 m_NoLockOrder (init1 (st := st_i_NoLockOrder) F_i_NoLockOrder sc_i_NoLockOrder rfl rfl rfl rfl rfl rfl rfl) (F_i_NoLockOrder.bindsN fun _ _ _ _ _ _ us hl => match us, hl with | [_, _], _ => rfl)
  have r0_Overfull := r0n_ok (mg := mg) e21 m_Overfull
  have r0_NoRunCycle := r0n_ok (mg := mg) e22 m_NoRunCycle
  have cal__law_numbers := ok_law_numbers (Pg := Pg) (w := w) (base := base) (cf := He.ga K) F_law_numbers m_law_numbers hB 
  have cal__law_names := ok_law_names (Pg := Pg) (w := w) (base := base) (cf := He.ga K) F_law_names m_law_names hB 
  have cal__law_leaf := ok_law_leaf (Pg := Pg) (w := w) (base := base) (cf := He.ga K) F_law_leaf m_law_leaf hB 
  have cal__law_same := ok_law_same (Pg := Pg) (w := w) (base := base) (cf := He.ga K) F_law_same m_law_same hB cal__law_leaf
  have cal__law_raise := ok_law_raise (Pg := Pg) (w := w) (base := base) (cf := He.ga K) F_law_raise m_law_raise hB rs_BadForm rs_Misplaced rs_Duplicate rs_Unknown rs_NotNested rs_TooMany rs_TooLong rs_NoName rs_Repeated r0_Overfull rs_WrongMove rs_BadRun rs_NoThread rs_MustWait rs_Refused rs_Deadlocked rs_NoRequest rs_NoContext r0_NoRunCycle rs_Clash rs_NoLockOrder rs_LineError
  have cal__law_kinds := ok_law_kinds (Pg := Pg) (w := w) (base := base) (cf := He.ga K) F_law_kinds m_law_kinds hB er_ cal__law_raise
  have cal__law_line_field := ok_law_line_field (Pg := Pg) (w := w) (base := base) (cf := He.ga K) F_law_line_field m_law_line_field hB er_ cal__law_raise
  have cal__law_fields := ok_law_fields (Pg := Pg) (w := w) (base := base) (cf := He.ga K) F_law_fields m_law_fields hB er_ cal__law_raise
  exact ok_law F_law hB cal__law_numbers cal__law_names cal__law_same cal__law_kinds cal__law_line_field cal__law_fields
end K76
open PySem PySem.W PySem.Calls PyProof.Rows
theorem PySem.Challenge.cw_heldcalls_k76_error_classes_holds : PySem.Challenge.rw_heldcalls_k76_error_classes.Holds := by
  w_on; o_law
  refine HandSHeadRun.head_any (r := OpenLaw.row PySem.Challenge.rw_heldcalls_k76_error_classes) (q := view (OpenLaw.row PySem.Challenge.rw_heldcalls_k76_error_classes).prog [33]) (H := K76.hk) (ob := K76.ob) (M := 20000) (loose := ["HeldError", "LineError", "BadForm", "Misplaced", "Duplicate", "Unknown", "NotNested", "TooMany", "TooLong", "NoName", "Repeated", "Overfull", "WrongMove", "BadRun", "NoThread", "MustWait", "Refused", "Deadlocked", "NoRequest", "NoContext", "NoRunCycle", "Clash", "NoLockOrder", "_law_numbers", "_law_names", "_law_leaf", "_law_same", "_law_raise", "_law_kinds", "_law_line_field", "_law_fields"]) (d := HandSHeadRun.topDef (OpenLaw.row PySem.Challenge.rw_heldcalls_k76_error_classes).prog 33) (kwd := []) K76.ob_eq
    (by kernel_rfl) (fun s => by kernel_rfl) K76.run (by kernel_rfl) (by kernel_rfl) (by kernel_rfl) (by rfl) (by first | assumption | decide +kernel) (by decide +kernel) ⟨rfl, rfl, rfl, rfl, rfl, by decide +kernel⟩ ?hw ?hc
  case hw => w_witness2
  case hc =>
    refine Vl.walk_law (l := PySem.Challenge.rw_heldcalls_k76_error_classes) (n := 63) (k := 5) (x := "script") rfl (by decide) (by kernel_rfl) ⟨rfl, by decide, by decide⟩ ?F
    intro w mg fa h Y G hmg0
    have hmg : mg ("law" : PySem.Str) = some (.ref fa) := by
      have e : (HandSHeadRun.topDef (OpenLaw.row PySem.Challenge.rw_heldcalls_k76_error_classes).prog 33).name = ("law" : PySem.Str) := by kernel_rfl
      rw [← e]
      exact hmg0
    obtain ⟨K, fd, cf, c, X, hb, ec, hF⟩ := K76.facts (Pg := (PySem.Challenge.rw_heldcalls_k76_error_classes).prog) (w := w) Y G hmg
    subst ec
    exact ⟨K, fd, cf, _, X, hb, rfl, fun ns hl => K76.math ns hl, hF⟩
