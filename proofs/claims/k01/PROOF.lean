import PyProof.Rows.All
import Wide.All
import OpenK.AllK
import Wide.FinOn
import HandS.ForMost
import HandS.ForExc
import HandS.Star
import HandS.IsInst
import HandS.FStr
import HandS.Rev
import HandS.WordsExc
import HandS.Defaults
import HandS.CallSlots
import HandS.Comp
import HandS.Text
import HandS.ClsMeth
import HandS.Zip
import HandS.HeadEnd
import HandS.Head2
import HandS.Head3
import HandS.HeadHook4
import HandS.HeadNt
import HandS.Codes
import PySem.Challenge.RW_heldcalls_k01_names
set_option Elab.async false
set_option linter.all false
set_option maxRecDepth 100000
set_option maxHeartbeats 0
/-! The value layer, 1: data as trees, marks (c: settled for ever; o: the owner's alone, may be changed; b: lent, read only), the state of a frame. -/
namespace Vl
open PySem PySem.Spec PyProof.Rows L2

inductive Mk | c | o | b
  deriving DecidableEq
inductive Kd
  | lst | tup | scr | dct (ks : List Key) | ins (C : Str) (fs : List Str)
  deriving DecidableEq
/-- a value as a tree; α: what stands at each node (nothing, or the node's addresses) -/
inductive T (α : Type) where
  | non | bl (b : Bool) | int (i : Int) | str (x : Str)
  | nd (k : Kd) (m : Mk) (a : α) (xs : List (T α))
abbrev D := T Unit
abbrev AA := Addr × Addr
abbrev A := T AA

section
variable {α β : Type}
mutual
def T.map (f : α → β) : T α → T β
  | .non => .non
  | .bl b => .bl b
  | .int i => .int i
  | .str x => .str x
  | .nd k m a xs => .nd k m (f a) (mapL f xs)
def mapL (f : α → β) : List (T α) → List (T β)
  | [] => []
  | x :: xs => x.map f :: mapL f xs
end
theorem mapL_eq (f : α → β) : ∀ xs : List (T α), mapL f xs = xs.map (T.map f)
  | [] => rfl
  | x :: xs => by rw [mapL, mapL_eq f xs, List.map_cons]
/- marks turned by g -/
mutual
def T.mk (g : Mk → Mk) : T α → T α
  | .non => .non
  | .bl b => .bl b
  | .int i => .int i
  | .str x => .str x
  | .nd k m a xs => .nd k (g m) a (mkL g xs)
def mkL (g : Mk → Mk) : List (T α) → List (T α)
  | [] => []
  | x :: xs => x.mk g :: mkL g xs
end
theorem mkL_eq (g : Mk → Mk) : ∀ xs : List (T α), mkL g xs = xs.map (T.mk g)
  | [] => rfl
  | x :: xs => by rw [mkL, mkL_eq g xs, List.map_cons]
/- every mark is one that p takes -/
mutual
def T.all (p : Mk → Bool) : T α → Bool
  | .nd _ m _ xs => p m && allL p xs
  | _ => true
def allL (p : Mk → Bool) : List (T α) → Bool
  | [] => true
  | x :: xs => x.all p && allL p xs
end
theorem allL_eq (p : Mk → Bool) : ∀ xs : List (T α), allL p xs = xs.all (T.all p)
  | [] => rfl
  | x :: xs => by rw [allL, allL_eq p xs, List.all_cons]
end
def lend : Mk → Mk
  | .o => .b
  | m => m
def calm : Mk → Mk := fun _ => .c
def isC : Mk → Bool
  | .c => true
  | _ => false
def notB : Mk → Bool
  | .b => false
  | _ => true
/-- settled -/
abbrev T.cold {α : Type} (d : T α) : Bool := d.all isC
abbrev T.nob {α : Type} (d : T α) : Bool := d.all notB
/-- a look at it: what is owned is lent -/
abbrev T.vw {α : Type} (d : T α) : T α := d.mk lend
/-- settled for ever -/
abbrev T.fz {α : Type} (d : T α) : T α := d.mk calm
section
variable {α β : Type}
mutual
theorem T.mk_cold {g : Mk → Mk} (hg : g .c = .c) : ∀ {d : T α}, d.cold = true → d.mk g = d
  | .non, _ => rfl
  | .bl _, _ => rfl
  | .int _, _ => rfl
  | .str _, _ => rfl
  | .nd k m a xs, h => by
    rw [T.cold, T.all, Bool.and_eq_true] at h
    have e : m = .c := by cases m <;> first | rfl | exact absurd h.1 Bool.false_ne_true
    rw [T.mk, e, hg, mkL_cold hg h.2]
theorem mkL_cold {g : Mk → Mk} (hg : g .c = .c) : ∀ {xs : List (T α)}, allL isC xs = true → mkL g xs = xs
  | [], _ => rfl
  | x :: xs, h => by
    rw [allL, Bool.and_eq_true] at h
    rw [mkL, T.mk_cold hg h.1, mkL_cold hg h.2]
end
mutual
theorem T.map_mk (f : α → β) (g : Mk → Mk) : ∀ d : T α, (d.mk g).map f = (d.map f).mk g
  | .non => rfl
  | .bl _ => rfl
  | .int _ => rfl
  | .str _ => rfl
  | .nd k m a xs => by rw [T.mk, T.map, T.map, T.mk, mapL_mkL f g xs]
theorem mapL_mkL (f : α → β) (g : Mk → Mk) : ∀ xs : List (T α), mapL f (mkL g xs) = mkL g (mapL f xs)
  | [] => rfl
  | x :: xs => by rw [mkL, mapL, mapL, mkL, T.map_mk f g x, mapL_mkL f g xs]
end
mutual
theorem T.all_map (f : α → β) (p : Mk → Bool) : ∀ d : T α, (d.map f).all p = d.all p
  | .non => rfl
  | .bl _ => rfl
  | .int _ => rfl
  | .str _ => rfl
  | .nd k m a xs => by rw [T.map, T.all, T.all, allL_mapL f p xs]
theorem allL_mapL (f : α → β) (p : Mk → Bool) : ∀ xs : List (T α), allL p (mapL f xs) = allL p xs
  | [] => rfl
  | x :: xs => by rw [mapL, allL, allL, T.all_map f p x, allL_mapL f p xs]
end
mutual
theorem T.all_mk (g : Mk → Mk) (p : Mk → Bool) : ∀ d : T α, (d.mk g).all p = d.all (fun m => p (g m))
  | .non => rfl
  | .bl _ => rfl
  | .int _ => rfl
  | .str _ => rfl
  | .nd k m a xs => by rw [T.mk, T.all, T.all, allL_mkL g p xs]
theorem allL_mkL (g : Mk → Mk) (p : Mk → Bool) : ∀ xs : List (T α), allL p (mkL g xs) = allL (fun m => p (g m)) xs
  | [] => rfl
  | x :: xs => by rw [mkL, allL, allL, T.all_mk g p x, allL_mkL g p xs]
end
mutual
theorem T.all_imp {p q : Mk → Bool} (h : ∀ m, p m = true → q m = true) : ∀ {d : T α}, d.all p = true → d.all q = true
  | .non, _ => rfl
  | .bl _, _ => rfl
  | .int _, _ => rfl
  | .str _, _ => rfl
  | .nd k m a xs, z => by
    rw [T.all, Bool.and_eq_true] at z
    rw [T.all, Bool.and_eq_true]
    exact ⟨h _ z.1, allL_imp h z.2⟩
theorem allL_imp {p q : Mk → Bool} (h : ∀ m, p m = true → q m = true) : ∀ {xs : List (T α)}, allL p xs = true → allL q xs = true
  | [], _ => rfl
  | x :: xs, z => by
    rw [allL, Bool.and_eq_true] at z
    rw [allL, Bool.and_eq_true]
    exact ⟨T.all_imp h z.1, allL_imp h z.2⟩
end
end
/-! ### with addresses -/
abbrev er (x : A) : D := x.map fun _ => ()
def val : A → V
  | .non => .non
  | .bl b => .bl b
  | .int i => .int i
  | .str x => .str x
  | .nd _ _ a _ => .ref a.1
def ndA (k : Kd) (a : AA) : List Addr := match k with
  | .ins _ _ => [a.1, a.2]
  | _ => [a.1]
/- the addresses of the nodes with mark m -/
mutual
def adr (q : Mk) : A → List Addr
  | .nd k m a xs => (if m = q then ndA k a else []) ++ adrL q xs
  | _ => []
def adrL (q : Mk) : List A → List Addr
  | [] => []
  | x :: xs => adr q x ++ adrL q xs
end
theorem adrL_eq (q : Mk) : ∀ xs : List A, adrL q xs = xs.flatMap (adr q)
  | [] => rfl
  | x :: xs => by rw [adrL, adrL_eq q xs, List.flatMap_cons]
abbrev own (x : A) : List Addr := adr .o x
abbrev bor (x : A) : List Addr := adr .b x
/-- what stands at a node -/
def cont (ca : Str → Addr) (k : Kd) (a : AA) (vs : List V) : HO := match k with
  | .lst => .lst vs
  | .scr => .lst vs
  | .tup => .tup vs
  | .dct ks => .dK (ks.zip vs)
  | .ins C fs => .ins (ca C) a.2 (fs.zip vs)
/-- the lengths that a node's kind asks -/
def shp (k : Kd) (n : Nat) : Prop := match k with
  | .dct ks => ks.length = n ∧ ks.Nodup
  | .ins _ fs => fs.length = n ∧ fs.Nodup
  | _ => True
/-- a node as it can be read in H -/
def At (K : PySem.W.Frag) (ca : Str → Addr) (H : Hp) (k : Kd) (a : AA) (vs : List V) : Prop := match k with
  | .lst => H a.1 = some (.lst vs)
  | .scr => SqL K H a.1 vs
  | .tup => SqT K H a.1 vs
  | .dct ks => Rd H a.1 (.dK (ks.zip vs))
  | .ins C fs => H a.1 = some (.ins (ca C) a.2 (fs.zip vs)) ∧ H a.2 = some (.own a.1)
/-- a node as it can be written in H -/
def Full (ca : Str → Addr) (H : Hp) (k : Kd) (a : AA) (vs : List V) : Prop :=
  H a.1 = some (cont ca k a vs) ∧ match k with
    | .ins _ _ => H a.2 = some (.own a.1)
    | _ => True
structure Ctx where
  K : PySem.W.Frag
  ca : Str → Addr
  fix : List (Nat × V)
/-- the classes' addresses; the slots that keep their values -/
structure Ca where
  f : Str → Addr
  fix : List (Nat × V)
instance : CoeFun Ca (fun _ => Str → Addr) := ⟨Ca.f⟩
instance : Coe Ca (Str → Addr) := ⟨Ca.f⟩
section
variable (X : Ctx) (F H : Hp)
def Nd (k : Kd) (m : Mk) (a : AA) (xs : List A) : Prop := shp k xs.length ∧ match m with
  | .c => At X.K X.ca F k a (xs.map val) ∧ allL isC xs = true
  | .o => Full X.ca H k a (xs.map val) ∧ (∀ p ∈ ndA k a, F p = none) ∧ allL notB xs = true
  | .b => At X.K X.ca H k a (xs.map val) ∧ adrL .o xs = [] ∧ ∀ p ∈ ndA k a, H p ≠ none
mutual
def Ok : A → Prop
  | .nd k m a xs => Nd X F H k m a xs ∧ OkL xs
  | _ => True
def OkL : List A → Prop
  | [] => True
  | x :: xs => Ok x ∧ OkL xs
end
end
theorem OkL_iff {X : Ctx} {F H : Hp} : ∀ {xs : List A}, OkL X F H xs ↔ ∀ x ∈ xs, Ok X F H x
  | [] => by simp [OkL]
  | x :: xs => by
    rw [OkL, OkL_iff]
    simp
/-- what is settled stands in the heap (a dict may be locked by a walk) -/
def Sub (F H : Hp) : Prop := ∀ a u, F a = some u → H a = some u ∨ ∃ ob kvs, u = .dK kvs ∧ H a = some (.frz ob u)
theorem Sub.refl (H : Hp) : Sub H H := fun _ _ h => .inl h
theorem Sub.rd {F H : Hp} (s : Sub F H) {a : Addr} {u : HO} (h : Rd F a u) (hu : ∀ ob v, u ≠ .frz ob v) : Rd H a u := by
  rcases h with h | ⟨o, h⟩
  · rcases s a u h with q | ⟨ob, kvs, e, q⟩
    · exact .inl q
    · exact .inr ⟨ob, q⟩
  · rcases s a _ h with q | ⟨ob, kvs, e, q⟩
    · exact .inr ⟨o, q⟩
    · cases e
theorem Sub.at_ {K : PySem.W.Frag} {ca : Str → Addr} {F H : Hp} (s : Sub F H) {k : Kd} {a : AA} {vs : List V} (h : At K ca F k a vs) : At K ca H k a vs := by
  cases k with
  | lst =>
    rcases s _ _ h with q | ⟨_, _, e, _⟩
    · exact q
    · cases e
  | scr =>
    rcases h with h | h
    · exact .inl (s.rd h fun _ _ z => by cases z)
    · exact .inr h
  | tup =>
    rcases h with h | h
    · exact .inl (s.rd h fun _ _ z => by cases z)
    · exact .inr h
  | dct ks => exact s.rd h fun _ _ z => by cases z
  | ins C fs =>
    refine ⟨?_, ?_⟩
    · rcases s _ _ h.1 with q | ⟨_, _, e, _⟩
      · exact q
      · cases e
    · rcases s _ _ h.2 with q | ⟨_, _, e, _⟩
      · exact q
      · cases e
theorem At.same {K : PySem.W.Frag} {ca : Str → Addr} {H H' : Hp} {k : Kd} {a : AA} {vs : List V} (h : At K ca H k a vs) (s : ∀ p u, H p = some u → H' p = some u) : At K ca H' k a vs := by
  have rd : ∀ {p u}, Rd H p u → Rd H' p u := fun {p u} h => by
    rcases h with h | ⟨o, h⟩
    · exact .inl (s _ _ h)
    · exact .inr ⟨o, s _ _ h⟩
  cases k with
  | lst => exact s _ _ h
  | scr => exact h.imp rd id
  | tup => exact h.imp rd id
  | dct ks => exact rd h
  | ins C fs => exact ⟨s _ _ h.1, s _ _ h.2⟩
theorem Full.at_ {K : PySem.W.Frag} {ca : Str → Addr} {H : Hp} {k : Kd} {a : AA} {vs : List V} (h : Full ca H k a vs) : At K ca H k a vs := by
  cases k with
  | lst => exact h.1
  | scr => exact SqL.of h.1
  | tup => exact SqT.of h.1
  | dct ks => exact .inl h.1
  | ins C fs => exact h
end Vl
/-! The value layer, 2: the state of a frame, steps, what an expression is worth. -/
namespace Vl
open PySem PySem.Spec PyProof.Rows L2

abbrev St := L2.St
abbrev Env := List (Option D)
abbrev AR := List (Option A)
def erR (r : AR) : Env := r.map (Option.map er)
def valR (r : AR) : St := r.map (Option.map val)
/-- without marks -/
def fzR (r : AR) : AR := r.map (Option.map T.fz)
def adrO (q : Mk) : Option A → List Addr
  | some x => adr q x
  | none => []
def adrR (q : Mk) (r : AR) : List Addr := r.flatMap (adrO q)
theorem mem_adrR {q : Mk} {r : AR} {a : Addr} : a ∈ adrR q r ↔ ∃ x, some x ∈ r ∧ a ∈ adr q x := by
  unfold adrR
  rw [List.mem_flatMap]
  constructor
  · rintro ⟨o, ho, h⟩
    cases o with
    | none => cases h
    | some x => exact ⟨x, ho, h⟩
  · rintro ⟨x, hx, h⟩
    exact ⟨some x, hx, h⟩

/-! ### trees in heaps -/
section
variable {X : Ctx} {F F' H H' : Hp}
/-- what is settled never changes; what is lent or owned stays where the heap keeps it -/
theorem ndA_fst {k : Kd} {a : AA} : a.1 ∈ ndA k a := by cases k <;> simp [ndA]
theorem Full.keep {ca : Str → Addr} {k : Kd} {a : AA} {vs : List V} (h : Full ca H k a vs) (s : ∀ p ∈ ndA k a, H' p = H p) : Full ca H' k a vs := by
  obtain ⟨h1, h2⟩ := h
  refine ⟨(s _ ndA_fst).trans h1, ?_⟩
  cases k with
  | ins C fs => exact (s a.2 (by simp [ndA])).trans h2
  | _ => trivial
mutual
theorem Ok.move : ∀ {x : A}, Ok X F H x → (∀ a u, F a = some u → F' a = some u) → (∀ a u, (a ∈ adr .o x ∨ a ∈ adr .b x ∨ True) → H a = some u → H' a = some u) → (∀ a ∈ adr .o x, F' a = none) → Ok X F' H' x
  | .non, _, _, _, _ => trivial
  | .bl _, _, _, _, _ => trivial
  | .int _, _, _, _, _ => trivial
  | .str _, _, _, _, _ => trivial
  | .nd k m a xs, h, hf, hh, ho => by
    obtain ⟨⟨sh, n⟩, l⟩ := h
    refine ⟨⟨sh, ?_⟩, OkL.move l hf (fun p u _ q => hh p u (.inr (.inr trivial)) q) fun p hp => ho p (List.mem_append_right _ hp)⟩
    cases m with
    | c => exact ⟨n.1.same hf, n.2⟩
    | o =>
      refine ⟨?_, fun p hp => ho p (List.mem_append_left _ (by rw [if_pos rfl]; exact hp)), n.2.2⟩
      obtain ⟨⟨h1, h2⟩, _⟩ := n
      refine ⟨hh _ _ (.inr (.inr trivial)) h1, ?_⟩
      cases k with
      | ins C fs => exact hh _ _ (.inr (.inr trivial)) h2
      | _ => trivial
    | b => exact ⟨n.1.same fun p u q => hh p u (.inr (.inr trivial)) q, n.2.1, fun p hp => by
        cases e : H p with
        | none => exact absurd e (n.2.2 p hp)
        | some u => rw [hh p u (.inr (.inr trivial)) e]; exact fun z => by cases z⟩
theorem OkL.move : ∀ {xs : List A}, OkL X F H xs → (∀ a u, F a = some u → F' a = some u) → (∀ a u, (a ∈ adrL .o xs ∨ a ∈ adrL .b xs ∨ True) → H a = some u → H' a = some u) → (∀ a ∈ adrL .o xs, F' a = none) → OkL X F' H' xs
  | [], _, _, _, _ => trivial
  | x :: xs, h, hf, hh, ho => ⟨Ok.move h.1 hf (fun p u _ q => hh p u (.inr (.inr trivial)) q) fun p hp => ho p (List.mem_append_left _ hp),
      OkL.move h.2 hf (fun p u _ q => hh p u (.inr (.inr trivial)) q) fun p hp => ho p (List.mem_append_right _ hp)⟩
end
theorem Ok.same {x : A} (h : Ok X F H x) (hf : ∀ a u, F a = some u → F' a = some u) (hh : ∀ a u, H a = some u → H' a = some u) (ho : ∀ a ∈ own x, F' a = none) : Ok X F' H' x :=
  Ok.move h hf (fun a u _ q => hh a u q) ho
theorem OkL.same {xs : List A} (h : OkL X F H xs) (hf : ∀ a u, F a = some u → F' a = some u) (hh : ∀ a u, H a = some u → H' a = some u) (ho : ∀ a ∈ adrL .o xs, F' a = none) : OkL X F' H' xs :=
  OkL.move h hf (fun a u _ q => hh a u q) ho
/-- what a tree owns stands in the heap, and is not settled -/
theorem Full.there {ca : Str → Addr} {k : Kd} {a : AA} {vs : List V} (h : Full ca H k a vs) : ∀ p ∈ ndA k a, H p ≠ none := by
  obtain ⟨h1, h2⟩ := h
  cases k with
  | ins C fs =>
    intro p hp
    rcases List.mem_cons.mp hp with rfl | hp
    · rw [h1]; exact fun z => by cases z
    · have e : p = a.2 := by simpa using hp
      rw [e]
      have h2 : H a.2 = some (.own a.1) := h2
      rw [h2]; exact fun z => by cases z
  | _ =>
    intro p hp
    have e : p = a.1 := by simpa [ndA] using hp
    rw [e, h1]; exact fun z => by cases z
mutual
theorem Ok.own_there : ∀ {x : A}, Ok X F H x → ∀ p ∈ own x, H p ≠ none ∧ F p = none
  | .non, _, _, hp => by cases hp
  | .bl _, _, _, hp => by cases hp
  | .int _, _, _, hp => by cases hp
  | .str _, _, _, hp => by cases hp
  | .nd k m a xs, h, p, hp => by
    obtain ⟨⟨sh, n⟩, l⟩ := h
    rcases List.mem_append.mp hp with hp | hp
    · cases m with
      | o =>
        rw [if_pos rfl] at hp
        exact ⟨n.1.there p hp, n.2.1 p hp⟩
      | c => rw [if_neg (by decide)] at hp; cases hp
      | b => rw [if_neg (by decide)] at hp; cases hp
    · exact OkL.own_there l p hp
theorem OkL.own_there : ∀ {xs : List A}, OkL X F H xs → ∀ p ∈ adrL .o xs, H p ≠ none ∧ F p = none
  | [], _, _, hp => by cases hp
  | x :: xs, h, p, hp => by
    rcases List.mem_append.mp hp with hp | hp
    · exact Ok.own_there h.1 p hp
    · exact OkL.own_there h.2 p hp
end
/- what a tree lends stands in the heap -/
mutual
theorem Ok.bor_there : ∀ {x : A}, Ok X F H x → ∀ p ∈ bor x, H p ≠ none
  | .non, _, _, hp => by cases hp
  | .bl _, _, _, hp => by cases hp
  | .int _, _, _, hp => by cases hp
  | .str _, _, _, hp => by cases hp
  | .nd k m a xs, h, p, hp => by
    obtain ⟨⟨sh, n⟩, l⟩ := h
    rcases List.mem_append.mp hp with hp | hp
    · cases m with
      | b =>
        rw [if_pos rfl] at hp
        exact n.2.2 p hp
      | c => rw [if_neg (by decide)] at hp; cases hp
      | o => rw [if_neg (by decide)] at hp; cases hp
    · exact OkL.bor_there l p hp
theorem OkL.bor_there : ∀ {xs : List A}, OkL X F H xs → ∀ p ∈ adrL .b xs, H p ≠ none
  | [], _, _, hp => by cases hp
  | x :: xs, h, p, hp => by
    rcases List.mem_append.mp hp with hp | hp
    · exact Ok.bor_there h.1 p hp
    · exact OkL.bor_there h.2 p hp
end
/- no mark m: no address of that mark -/
mutual
theorem adr_nil {q : Mk} {p : Mk → Bool} (hq : p q = false) : ∀ {x : A}, x.all p = true → adr q x = []
  | .non, _ => rfl
  | .bl _, _ => rfl
  | .int _, _ => rfl
  | .str _, _ => rfl
  | .nd k m a xs, h => by
    rw [T.all, Bool.and_eq_true] at h
    rw [adr, adrL_nil hq h.2, if_neg (fun e => by rw [e, hq] at h; exact Bool.false_ne_true h.1)]
    rfl
theorem adrL_nil {q : Mk} {p : Mk → Bool} (hq : p q = false) : ∀ {xs : List A}, allL p xs = true → adrL q xs = []
  | [], _ => rfl
  | x :: xs, h => by
    rw [allL, Bool.and_eq_true] at h
    rw [adrL, adr_nil hq h.1, adrL_nil hq h.2]
    rfl
end
theorem cold_own {x : A} (h : x.cold = true) : own x = [] := adr_nil rfl h
theorem cold_bor {x : A} (h : x.cold = true) : bor x = [] := adr_nil rfl h
theorem nob_bor {x : A} (h : x.nob = true) : bor x = [] := adr_nil rfl h
mutual
theorem val_mk (g : Mk → Mk) : ∀ x : A, val (x.mk g) = val x
  | .non => rfl
  | .bl _ => rfl
  | .int _ => rfl
  | .str _ => rfl
  | .nd k m a xs => by rw [T.mk]; rfl
end
theorem valL_mk (g : Mk → Mk) (xs : List A) : (mkL g xs).map val = xs.map val := by
  rw [mkL_eq, List.map_map]
  exact List.map_congr_left fun x _ => val_mk g x
theorem mkL_len (g : Mk → Mk) (xs : List A) : (mkL g xs).length = xs.length := by rw [mkL_eq, List.length_map]
/- a look: what is owned is lent, and stands as it stood -/
mutual
theorem adr_vw_o : ∀ x : A, own x.vw = []
  | .non => rfl
  | .bl _ => rfl
  | .int _ => rfl
  | .str _ => rfl
  | .nd k m a xs => by
    rw [T.vw, T.mk, own, adr, adrL_vw_o xs, if_neg (by cases m <;> decide)]
    rfl
theorem adrL_vw_o : ∀ xs : List A, adrL .o (mkL lend xs) = []
  | [] => rfl
  | x :: xs => by
    rw [mkL, adrL, adrL_vw_o xs]
    have := adr_vw_o x
    rw [T.vw, own] at this
    rw [this]
    rfl
end
mutual
theorem adr_vw_b : ∀ (x : A), ∀ p ∈ bor x.vw, p ∈ own x ∨ p ∈ bor x
  | .non, _, h => by cases h
  | .bl _, _, h => by cases h
  | .int _, _, h => by cases h
  | .str _, _, h => by cases h
  | .nd k m a xs, p, h => by
    rw [T.vw, T.mk, bor, adr] at h
    rcases List.mem_append.mp h with h | h
    · cases m with
      | c => rw [if_neg (by decide)] at h; cases h
      | o =>
        refine .inl (List.mem_append_left _ ?_)
        rw [if_pos rfl]
        rwa [if_pos (by rfl)] at h
      | b =>
        refine .inr (List.mem_append_left _ ?_)
        rw [if_pos rfl]
        rwa [if_pos (by rfl)] at h
    · exact (adrL_vw_b xs p h).imp (List.mem_append_right _) (List.mem_append_right _)
theorem adrL_vw_b : ∀ (xs : List A), ∀ p ∈ adrL .b (mkL lend xs), p ∈ adrL .o xs ∨ p ∈ adrL .b xs
  | [], _, h => by cases h
  | x :: xs, p, h => by
    rw [mkL, adrL] at h
    rcases List.mem_append.mp h with h | h
    · exact (adr_vw_b x p h).imp (List.mem_append_left _) (List.mem_append_left _)
    · exact (adrL_vw_b xs p h).imp (List.mem_append_right _) (List.mem_append_right _)
end
mutual
theorem Ok.vw : ∀ {x : A}, Ok X F H x → Ok X F H x.vw
  | .non, _ => trivial
  | .bl _, _ => trivial
  | .int _, _ => trivial
  | .str _, _ => trivial
  | .nd k m a xs, h => by
    obtain ⟨⟨sh, n⟩, l⟩ := h
    rw [T.vw, T.mk]
    refine ⟨⟨by rw [mkL_len]; exact sh, ?_⟩, OkL.vw l⟩
    cases m with
    | c =>
      show At X.K X.ca F k a ((mkL lend xs).map val) ∧ allL isC (mkL lend xs) = true
      rw [valL_mk, mkL_cold rfl n.2]
      exact n
    | o =>
      show At X.K X.ca H k a ((mkL lend xs).map val) ∧ adrL .o (mkL lend xs) = [] ∧ ∀ p ∈ ndA k a, H p ≠ none
      rw [valL_mk]
      exact ⟨n.1.at_, adrL_vw_o xs, n.1.there⟩
    | b =>
      show At X.K X.ca H k a ((mkL lend xs).map val) ∧ adrL .o (mkL lend xs) = [] ∧ ∀ p ∈ ndA k a, H p ≠ none
      rw [valL_mk]
      exact ⟨n.1, adrL_vw_o xs, n.2.2⟩
theorem OkL.vw : ∀ {xs : List A}, OkL X F H xs → OkL X F H (mkL lend xs)
  | [], _ => trivial
  | x :: xs, h => ⟨Ok.vw h.1, OkL.vw h.2⟩
end
/-- settling: what the tree owns joins what is settled -/
def frz (F H : Hp) (l : List Addr) : Hp := fun p => if p ∈ l then H p else F p
theorem frz_in {l : List Addr} {p : Addr} (h : p ∈ l) : frz F H l p = H p := if_pos h
theorem frz_out {l : List Addr} {p : Addr} (h : p ∉ l) : frz F H l p = F p := if_neg h
mutual
theorem fz_cold : ∀ x : A, x.fz.cold = true
  | .non => rfl
  | .bl _ => rfl
  | .int _ => rfl
  | .str _ => rfl
  | .nd k m a xs => by
    rw [T.fz, T.mk, T.cold, T.all, Bool.and_eq_true]
    exact ⟨rfl, fzL_cold xs⟩
theorem fzL_cold : ∀ xs : List A, allL isC (mkL calm xs) = true
  | [] => rfl
  | x :: xs => by
    rw [mkL, allL, Bool.and_eq_true]
    exact ⟨fz_cold x, fzL_cold xs⟩
end
mutual
theorem Ok.fz {G : Hp} : ∀ {x : A}, Ok X F H x → x.nob = true → (∀ a u, F a = some u → G a = some u) → (∀ p ∈ own x, G p = H p) → Ok X G H' x.fz
  | .non, _, _, _, _ => trivial
  | .bl _, _, _, _, _ => trivial
  | .int _, _, _, _, _ => trivial
  | .str _, _, _, _, _ => trivial
  | .nd k m a xs, h, hb, hf, hg => by
    obtain ⟨⟨sh, n⟩, l⟩ := h
    rw [T.nob, T.all, Bool.and_eq_true] at hb
    rw [T.fz, T.mk]
    refine ⟨⟨by rw [mkL_len]; exact sh, ?_⟩, OkL.fz l hb.2 hf fun p hp => hg p (List.mem_append_right _ hp)⟩
    show At X.K X.ca G k a ((mkL calm xs).map val) ∧ allL isC (mkL calm xs) = true
    rw [valL_mk]
    refine ⟨?_, fzL_cold xs⟩
    cases m with
    | c => exact n.1.same hf
    | o =>
      have h2 : ∀ p ∈ ndA k a, G p = H p := fun p hp => hg p (List.mem_append_left _ (by rw [if_pos rfl]; exact hp))
      exact (n.1.keep h2).at_
    | b => exact absurd hb.1 Bool.false_ne_true
theorem OkL.fz {G : Hp} : ∀ {xs : List A}, OkL X F H xs → allL notB xs = true → (∀ a u, F a = some u → G a = some u) → (∀ p ∈ adrL .o xs, G p = H p) → OkL X G H' (mkL calm xs)
  | [], _, _, _, _ => trivial
  | x :: xs, h, hb, hf, hg => by
    rw [allL, Bool.and_eq_true] at hb
    exact ⟨Ok.fz h.1 hb.1 hf fun p hp => hg p (List.mem_append_left _ hp), OkL.fz h.2 hb.2 hf fun p hp => hg p (List.mem_append_right _ hp)⟩
end
end

/-! ### the state of a frame -/
structure Stt (X : Ctx) (F H : Hp) (r : AR) (σ : St) : Prop where
  val : σ = valR r
  ok : ∀ x, some x ∈ r → Ok X F H x
  nd : (adrR .o r).Nodup
  bd : ∀ b ∈ adrR .b r, b ∉ adrR .o r
  sub : Sub F H
  fx : ∀ p ∈ X.fix, σ[p.1]? = some (some p.2)
/-- from one state to another, the slots' objects untouched: the heap grows, more is settled -/
structure Grow (F H : Hp) (r : AR) (F' H' : Hp) (r' : AR) : Prop where
  same : ∀ a u, H a = some u → H' a = some u
  fs : ∀ a u, F a = some u → F' a = some u
  fr : ∀ a, F a = none → F' a ≠ none → H a = none ∨ a ∈ adrR .o r
  ow : ∀ a ∈ adrR .o r', a ∈ adrR .o r
  bo : ∀ b, b ∈ adrR .b r' ↔ b ∈ adrR .b r
  un : fzR r' = fzR r
section
variable {X : Ctx} {F F1 F2 H H1 H2 : Hp} {r r1 r2 : AR} {σ : St}
theorem Grow.refl : Grow F H r F H r := ⟨fun _ _ h => h, fun _ _ h => h, fun _ h h' => absurd h h', fun _ h => h, fun _ => Iff.rfl, rfl⟩
theorem Stt.own_there (s : Stt X F H r σ) {a : Addr} (h : a ∈ adrR .o r) : H a ≠ none ∧ F a = none := by
  obtain ⟨x, hx, ha⟩ := mem_adrR.mp h
  exact (s.ok x hx).own_there a ha
theorem Stt.bor_there (s : Stt X F H r σ) {a : Addr} (h : a ∈ adrR .b r) : H a ≠ none := by
  obtain ⟨x, hx, ha⟩ := mem_adrR.mp h
  exact (s.ok x hx).bor_there a ha
theorem Grow.trans (s : Stt X F1 H1 r1 σ) (g : Grow F H r F1 H1 r1) (g' : Grow F1 H1 r1 F2 H2 r2) : Grow F H r F2 H2 r2 where
  same := fun a u h => g'.same a u (g.same a u h)
  fs := fun a u h => g'.fs a u (g.fs a u h)
  fr := fun a h h' => by
    cases e : F1 a with
    | some u => exact g.fr a h (by rw [e]; exact fun z => by cases z)
    | none =>
      rcases g'.fr a e h' with q | q
      · refine .inl ?_
        cases e2 : H a with
        | none => rfl
        | some u => rw [g.same a u e2] at q; cases q
      · exact .inr (g.ow a q)
  ow := fun a h => g.ow a (g'.ow a h)
  bo := fun b => (g'.bo b).trans (g.bo b)
  un := g'.un.trans g.un
/-- a value beside a state -/
structure VOk (H : Hp) (r : AR) (x : A) : Prop where
  nd : (own x).Nodup
  new : ∀ a ∈ own x, H a = none
  bo : ∀ b ∈ bor x, b ∈ adrR .o r ∨ b ∈ adrR .b r
/-- a value that was made stays over a further step -/
theorem Ok.grow {x : A} (h : Ok X F1 H1 x) (s : Stt X F1 H1 r1 σ) (new : ∀ a ∈ own x, a ∉ adrR .o r1) (g : Grow F1 H1 r1 F2 H2 r2) : Ok X F2 H2 x :=
  h.same g.fs g.same fun a ha => by
    cases e : F2 a with
    | none => rfl
    | some u =>
      obtain ⟨p, q⟩ := h.own_there a ha
      rcases g.fr a q (by rw [e]; exact fun z => by cases z) with z | z
      · exact absurd z p
      · exact absurd z (new a ha)
theorem VOk.notin {x : A} (v : VOk H r x) (s : Stt X F H r σ) : ∀ a ∈ own x, a ∉ adrR .o r := fun a ha h => (s.own_there h).1 (v.new a ha)
/-- behind a step, seen from ahead of it -/
theorem VOk.back {x : A} (g : Grow F H r F1 H1 r1) (v : VOk H1 r1 x) : VOk H r x where
  nd := v.nd
  new := fun a ha => by
    cases e : H a with
    | none => rfl
    | some u =>
      have := v.new a ha
      rw [g.same a u e] at this
      cases this
  bo := fun b hb => (v.bo b hb).imp (g.ow b) (g.bo b).mp
theorem VOk.cold {x : A} (h : x.cold = true) : VOk H r x := ⟨by rw [cold_own h]; exact List.nodup_nil, by rw [cold_own h]; exact fun _ z => (by cases z), by rw [cold_bor h]; exact fun _ z => (by cases z)⟩
end

/-! ### results -/
inductive R (β : Type) where
  | ok (v : β) (ρ : Env)
  | exc (C : Str) (fs : List (Str × D)) (ρ : Env)
  | bad
def R.bind {β γ : Type} (x : R β) (k : β → Env → R γ) : R γ := match x with
  | .ok v ρ => k v ρ
  | .exc C fs ρ => .exc C fs ρ
  | .bad => .bad
def R.of {β : Type} (o : Option β) (ρ : Env) : R β := match o with
  | some v => .ok v ρ
  | none => .bad
theorem R.ok_bind {β γ : Type} (v : β) (ρ : Env) (k : β → Env → R γ) : (R.ok v ρ).bind k = k v ρ := rfl
theorem R.exc_bind {β γ : Type} (C : Str) (fs : List (Str × D)) (ρ : Env) (k : β → Env → R γ) : (R.exc C fs ρ).bind k = .exc C fs ρ := rfl
theorem R.bad_bind {β γ : Type} (k : β → Env → R γ) : (R.bad).bind k = .bad := rfl
theorem R.of_some {β : Type} (v : β) (ρ : Env) : R.of (some v) ρ = .ok v ρ := rfl
abbrev Ev := Env → R D
/-- an exception's own dict -/
def XOk (X : Ctx) (F H : Hp) (dx : Option Addr) (fs : List (Str × D)) : Prop := match dx with
  | none => fs = []
  | some d => ∃ (xs : List (Str × A)) (gs : List (Str × V)), xs.map (fun p => (p.1, er p.2)) = fs ∧ (∀ p ∈ xs, p.2.cold = true ∧ Ok X F H p.2) ∧ F d = some (.xd gs) ∧ ∀ f, gs.lookup f = (xs.lookup f).map val
def PostE (X : Ctx) (W : WX) (σ : St) (F H : Hp) (r : AR) (res : R D) (Q : VK) : Prop := match res with
  | .bad => False
  | .ok d ρ' => ∀ F' H' r' x, Grow F H r F' H' r' → Stt X F' H' r' σ → erR r' = ρ' → Ok X F' H' x → er x = d → VOk H r x → Q (val x) H'
  | .exc C fs ρ' => ∀ F' H' r' dx, Grow F H r F' H' r' → Stt X F' H' r' σ → erR r' = ρ' → XOk X F' H' dx fs → W (.ref (X.ca C)) dx σ H'
def rdE (X : Ctx) (W : WX) (f : Ev) (ρ : Env) : TE := fun σ H Q => ∃ F r, Stt X F H r σ ∧ erR r = ρ ∧ PostE X W σ F H r (f ρ) Q
/-- the expression e is worth f -/
structure CE (ca : Ca) (C : Cx) (W : WX) (e : Expr) (f : Ev) : Prop where
  run : ∀ ρ, PE C e (rdE ⟨C.K, ca.f, ca.fix⟩ W f ρ)
theorem PE.mono {C : Cx} {e : Expr} {t t' : TE} (h : PE C e t) (i : ∀ σ H Q, t' σ H Q → t σ H Q) : PE C e t' := ⟨fun pins s σ H Q I q => h.run pins s σ H Q I (i σ H Q q)⟩
/-- several, from the left -/
def PostA (X : Ctx) (W : WX) (σ : St) (F H : Hp) (r : AR) (res : R (List D)) (Q : List V → Hp → Prop) : Prop := match res with
  | .bad => False
  | .ok ds ρ' => ∀ F' H' r' xs, Grow F H r F' H' r' → Stt X F' H' r' σ → erR r' = ρ' → OkL X F' H' xs → xs.map er = ds → (adrL .o xs).Nodup → (∀ a ∈ adrL .o xs, H a = none) → (∀ b ∈ adrL .b xs, b ∈ adrR .o r ∨ b ∈ adrR .b r) → Q (xs.map val) H'
  | .exc C fs ρ' => ∀ F' H' r' dx, Grow F H r F' H' r' → Stt X F' H' r' σ → erR r' = ρ' → XOk X F' H' dx fs → W (.ref (X.ca C)) dx σ H'
def rdA (X : Ctx) (W : WX) (f : Env → R (List D)) (ρ : Env) : TA := fun σ H Q => ∃ F r, Stt X F H r σ ∧ erR r = ρ ∧ PostA X W σ F H r (f ρ) Q
structure CA (ca : Ca) (C : Cx) (W : WX) (es : List Expr) (f : Env → R (List D)) : Prop where
  run : ∀ ρ, PA C es (rdA ⟨C.K, ca.f, ca.fix⟩ W f ρ)
theorem PA.mono {C : Cx} {e : List Expr} {t t' : TA} (h : PA C e t) (i : ∀ σ H Q, t' σ H Q → t σ H Q) : PA C e t' := ⟨fun pos pins s σ H Q I q => h.run pos pins s σ H Q I (i σ H Q q)⟩
end Vl
/-! The value layer, 3: expressions; operators. -/
namespace Vl
open PySem PySem.Spec PyProof.Rows L2

theorem pe_false {C : Cx} {e : Expr} : PE C e (fun _ _ _ => False) := ⟨fun _ _ _ _ _ _ h => h.elim⟩
theorem pt_false {C : Cx} {e : Expr} : PT C e (fun _ _ _ => False) := ⟨fun _ _ _ _ _ _ h => h.elim⟩
theorem PT.mono {C : Cx} {e : Expr} {t t' : TT} (h : PT C e t) (i : ∀ σ H Q, t' σ H Q → t σ H Q) : PT C e t' := ⟨fun pins s σ H Q I q => h.run pins s σ H Q I (i σ H Q q)⟩
theorem PW.mono {C : Cx} {e : Expr} {t t' : TT} (h : PW C e t) (i : ∀ σ H Q, t' σ H Q → t σ H Q) : PW C e t' := ⟨fun wh pins s σ H Q I q => h.run wh pins s σ H Q I (i σ H Q q)⟩
abbrev cx (ca : Ca) (C : Cx) : Ctx := ⟨C.K, ca.f, ca.fix⟩

section
variable {X : Ctx} {F F' F2 H H' H2 : Hp} {r r2 : AR} {σ : St} {ρ ρ2 : Env} {W : WX}
theorem Stt.grow0 (s : Stt X F H r σ) (same : ∀ a u, H a = some u → H' a = some u) (fs : ∀ a u, F a = some u → F' a = some u) (fr : ∀ a, F a = none → F' a ≠ none → H a = none ∨ a ∉ adrR .o r) (sub : Sub F' H') : Stt X F' H' r σ where
  val := s.val
  ok := fun x hx => (s.ok x hx).same fs same fun a ha => by
    obtain ⟨p, q⟩ := (s.ok x hx).own_there a ha
    cases e : F' a with
    | none => rfl
    | some u =>
      rcases fr a q (by rw [e]; exact fun z => by cases z) with h | h
      · exact absurd h p
      · exact absurd (mem_adrR.mpr ⟨x, hx, ha⟩) h
  nd := s.nd
  bd := s.bd
  sub := sub
  fx := s.fx

/-- what an operation on values owes: from its operands to the value d -/
def LPost (X : Ctx) (F H : Hp) (as : List A) (d : D) (Q : VK) : Prop :=
  ∀ F' H' z, (∀ a u, H a = some u → H' a = some u) → (∀ a u, F a = some u → F' a = some u) → (∀ a, F a = none → F' a ≠ none → H a = none ∨ a ∈ adrL .o as) → Sub F' H' →
    Ok X F' H' z → er z = d → (own z).Nodup → (∀ a ∈ own z, H a = none ∨ a ∈ adrL .o as) → (∀ b ∈ bor z, b ∈ adrL .b as) → Q (val z) H'
theorem fin_leaf {as : List A} {d : D} {Q : VK} (s0 : Stt X F H r σ) (s : Stt X F2 H2 r2 σ) (g : Grow F H r F2 H2 r2) (e : erR r2 = ρ2) (new : ∀ a ∈ adrL .o as, H a = none) (bo : ∀ b ∈ adrL .b as, b ∈ adrR .o r ∨ b ∈ adrR .b r)
    (k : ∀ F' H' r' x, Grow F H r F' H' r' → Stt X F' H' r' σ → erR r' = ρ2 → Ok X F' H' x → er x = d → VOk H r x → Q (val x) H') : LPost X F2 H2 as d Q := fun F' H' z same fs fr sub ok ez nd ow bz =>
  k F' H' r2 z ⟨fun a u q => same a u (g.same a u q), fun a u q => fs a u (g.fs a u q), fun a h h' => (by
      cases q : F2 a with
      | some u => exact g.fr a h (by rw [q]; exact fun z => by cases z)
      | none =>
        rcases fr a q h' with z | z
        · refine .inl ?_
          cases q2 : H a with
          | none => rfl
          | some u => rw [g.same a u q2] at z; cases z
        · exact .inl (new a z)), g.ow, g.bo, g.un⟩ (s.grow0 same fs (fun a h h' => (fr a h h').imp id fun q z => (s0.own_there (g.ow a z)).1 (new a q)) sub) e ok ez ⟨nd, fun a ha => (by
    cases q : H a with
    | none => rfl
    | some u =>
      rcases ow a ha with h | h
      · rw [g.same a u q] at h; cases h
      · rw [new a h] at q; cases q), fun b hb => bo b (bz b hb)⟩
/-- a plain value comes -/
def plain : D → Bool
  | .nd _ _ _ _ => false
  | _ => true
def up : D → A
  | .non => .non
  | .bl b => .bl b
  | .int i => .int i
  | .str x => .str x
  | .nd _ _ _ _ => .non
theorem er_up {d : D} (h : plain d = true) : er (up d) = d := by cases d <;> first | rfl | exact absurd h Bool.false_ne_true
theorem LPost.plain {as : List A} {d : D} {Q : VK} (k : LPost X F H as d Q) (s : Sub F H) (h : plain d = true) : Q (val (up d)) H :=
  k F H (up d) (fun _ _ h => h) (fun _ _ h => h) (fun _ h h' => absurd h h') s (by cases d <;> first | trivial | exact absurd h Bool.false_ne_true) (er_up h) (by cases d <;> exact List.nodup_nil) (by cases d <;> exact fun _ z => (by cases z)) (by cases d <;> exact fun _ z => (by cases z))
/-- a part of an operand comes -/
theorem LPost.part {as : List A} {z : A} {Q : VK} (k : LPost X F H as (er z) Q) (s : Sub F H) (ok : Ok X F H z) (nd : (own z).Nodup) (ho : ∀ a ∈ own z, a ∈ adrL .o as) (hb : ∀ b ∈ bor z, b ∈ adrL .b as) : Q (val z) H :=
  k F H z (fun _ _ h => h) (fun _ _ h => h) (fun _ h h' => absurd h h') s ok rfl nd (fun a ha => .inr (ho a ha)) hb
theorem Sub.upd {p : Addr} {u : HO} (s : Sub F H) (hp : H p = none) : Sub F (upd H p u) := fun a v h => by
  have : a ≠ p := by
    rintro rfl
    rcases s a v h with q | ⟨_, _, _, q⟩ <;> rw [hp] at q <;> cases q
  rw [upd_ne this]
  exact s a v h
theorem Sub.upd2 {p : Addr} {u : HO} (s : Sub F H) (hp : H p = none) : Sub (L2.upd F p u) (L2.upd H p u) := fun a v h => by
  by_cases e : a = p
  · subst e; rw [upd_same] at h ⊢; exact .inl h
  · rw [upd_ne e] at h ⊢; exact s a v h
theorem Sub.free {p : Addr} (s : Sub F H) (hp : H p = none) : F p = none := by
  cases e : F p with
  | none => rfl
  | some v => rcases s p v e with q | ⟨_, _, _, q⟩ <;> rw [hp] at q <;> cases q
theorem same_new {p : Addr} {u : HO} (hp : H p = none) : ∀ a v, H a = some v → upd H p u a = some v := fun a v h => by
  rw [upd_ne (ne_of_none h hp)]; exact h
/-- a new node, owned, with what its kids own -/
theorem LPost.newO {as xs : List A} {k : Kd} {Q : VK} {ds : List D} {p : Addr} (h : LPost X F H as (.nd k .o () ds) Q) (s : Sub F H) (hp : H p = none) (hk : k = .lst ∨ k = .tup ∨ ∃ ks, k = .dct ks) (hsh : shp k xs.length) (ok : OkL X F H xs)
    (e : mapL (fun _ => ()) xs = ds) (hb : allL notB xs = true) (nd : (adrL .o xs).Nodup) (ho : ∀ a ∈ adrL .o xs, a ∈ adrL .o as) : Q (.ref p) (upd H p (cont X.ca k (p, 0) (xs.map val))) := by
  have hn : ndA k (p, 0) = [p] := by rcases hk with rfl | rfl | ⟨_, rfl⟩ <;> rfl
  have hfull : Full X.ca (upd H p (cont X.ca k (p, 0) (xs.map val))) k (p, 0) (xs.map val) := ⟨upd_same, by rcases hk with rfl | rfl | ⟨_, rfl⟩ <;> trivial⟩
  have sm := same_new (H := H) (u := cont X.ca k (p, 0) (xs.map val)) hp
  have hF : F p = none := s.free hp
  refine h F _ (.nd k .o (p, 0) xs) sm (fun _ _ h => h) (fun _ h h' => absurd h h') (s.upd hp) ⟨⟨hsh, hfull, fun q hq => ?_, hb⟩, ok.same (fun _ _ h => h) sm fun a ha => (ok.own_there a ha).2⟩ ?_ ?_ ?_ ?_
  · rw [hn] at hq
    rw [List.mem_singleton.mp hq]; exact hF
  · show T.nd k .o () (mapL (fun _ => ()) xs) = _
    rw [e]
  · show ((if Mk.o = .o then ndA k (p, 0) else []) ++ adrL .o xs).Nodup
    rw [if_pos rfl, hn]
    refine List.nodup_cons.mpr ⟨fun q => ?_, nd⟩
    exact (ok.own_there p q).1 hp
  · intro a ha
    have ha : a ∈ (if Mk.o = .o then ndA k (p, 0) else []) ++ adrL .o xs := ha
    rw [if_pos rfl, hn] at ha
    rcases List.mem_append.mp ha with ha | ha
    · rw [List.mem_singleton.mp ha]; exact .inl hp
    · exact .inr (ho a ha)
  · intro b hb'
    have hb' : b ∈ (if Mk.o = .b then ndA k (p, 0) else []) ++ adrL .b xs := hb'
    rw [if_neg (by decide), adrL_nil (p := notB) rfl hb] at hb'
    cases hb'
end

/-! a new node, its kids settled; owned, or settled too -/
section
variable {X : Ctx} {F H : Hp}
theorem LPost.new {as xs : List A} {k : Kd} {m : Mk} {Q : VK} {ds : List D} {p : Addr} (h : LPost X F H as (.nd k m () ds) Q) (hm : m = .o ∨ m = .c) (s : Sub F H) (hp : H p = none) (hk : k = .lst ∨ k = .tup ∨ ∃ ks, k = .dct ks) (hsh : shp k xs.length) (ok : OkL X F H xs)
    (e : mkL calm (mapL (fun _ => ()) xs) = ds) (hb : allL notB xs = true) (ho : ∀ a ∈ adrL .o xs, a ∈ adrL .o as) : Q (.ref p) (upd H p (cont X.ca k (p, 0) (xs.map val))) := by
  have hn : ndA k (p, 0) = [p] := by rcases hk with rfl | rfl | ⟨_, rfl⟩ <;> rfl
  have sm := same_new (H := H) (u := cont X.ca k (p, 0) (xs.map val)) hp
  have hF : F p = none := s.free hp
  have np : ∀ a ∈ adrL .o xs, a ≠ p := fun a ha z => (ok.own_there a ha).1 (by rw [z]; exact hp)
  have hfull : Full X.ca (upd H p (cont X.ca k (p, 0) (xs.map val))) k (p, 0) ((mkL calm xs).map val) := ⟨by rw [valL_mk]; exact upd_same, by rcases hk with rfl | rfl | ⟨_, rfl⟩ <;> trivial⟩
  have hshp : shp k (mkL calm xs).length := by rw [mkL_len]; exact hsh
  have ez : er (.nd k m (p, 0) (mkL calm xs)) = .nd k m () ds := by
    show T.nd k m () (mapL (fun _ => ()) (mkL calm xs)) = _
    rw [mapL_mkL, e]
  have cold := fzL_cold xs
  have fsub : ∀ a u, frz F H (adrL .o xs) a = some u → H a = some u ∨ ∃ ob kvs, u = .dK kvs ∧ H a = some (.frz ob u) := fun a u q => by
    by_cases ha : a ∈ adrL .o xs
    · rw [frz_in ha] at q; exact .inl q
    · rw [frz_out ha] at q; exact s a u q
  have ff : ∀ a u, F a = some u → frz F H (adrL .o xs) a = some u := fun a u q => by
    rw [frz_out (fun ha => by rw [(ok.own_there a ha).2] at q; cases q)]; exact q
  have hbor : bor (.nd k m (p, 0) (mkL calm xs)) = [] := by
    show (if m = .b then ndA k (p, 0) else []) ++ adrL .b (mkL calm xs) = []
    rw [if_neg (by rcases hm with rfl | rfl <;> decide), adrL_nil (p := isC) rfl cold]
    rfl
  rcases hm with rfl | rfl
  · refine h (frz F H (adrL .o xs)) _ (.nd k .o (p, 0) (mkL calm xs)) sm ff (fun a q q' => ?_) (Sub.upd fsub hp) ⟨⟨hshp, hfull, fun q hq => ?_, allL_imp (fun m hm => by cases m <;> first | rfl | exact absurd hm Bool.false_ne_true) cold⟩, ok.fz hb ff fun a ha => ?_⟩ ez ?_ ?_ (by rw [hbor]; exact fun _ z => by cases z)
    · by_cases ha : a ∈ adrL .o xs
      · exact .inr (ho a ha)
      · rw [frz_out ha] at q'; exact absurd q q'
    · rw [hn] at hq
      rw [List.mem_singleton.mp hq, frz_out (fun z => np p z rfl)]; exact hF
    · rw [frz_in ha]
    · show ((if Mk.o = .o then ndA k (p, 0) else []) ++ adrL .o (mkL calm xs)).Nodup
      rw [if_pos rfl, hn, adrL_nil (p := isC) rfl cold]
      exact List.nodup_cons.mpr ⟨by simp, List.nodup_nil⟩
    · intro a ha
      have ha : a ∈ (if Mk.o = .o then ndA k (p, 0) else []) ++ adrL .o (mkL calm xs) := ha
      rw [if_pos rfl, hn, adrL_nil (p := isC) rfl cold, List.append_nil] at ha
      rw [List.mem_singleton.mp ha]; exact .inl hp
  · have ff2 : ∀ a u, F a = some u → upd (frz F H (adrL .o xs)) p (cont X.ca k (p, 0) (xs.map val)) a = some u := fun a u q => by
      rw [upd_ne (ne_of_none q hF)]; exact ff a u q
    refine h (upd (frz F H (adrL .o xs)) p (cont X.ca k (p, 0) (xs.map val))) _ (.nd k .c (p, 0) (mkL calm xs)) sm ff2 (fun a q q' => ?_) (Sub.upd2 fsub hp) ⟨⟨hshp, ?_, cold⟩, ok.fz hb ff2 fun a ha => ?_⟩ ez ?_ ?_ (by rw [hbor]; exact fun _ z => by cases z)
    · by_cases e1 : a = p
      · rw [e1]; exact .inl hp
      · rw [upd_ne e1] at q'
        by_cases ha : a ∈ adrL .o xs
        · exact .inr (ho a ha)
        · rw [frz_out ha] at q'; exact absurd q q'
    · exact Full.at_ ⟨by rw [valL_mk]; exact upd_same, by rcases hk with rfl | rfl | ⟨_, rfl⟩ <;> trivial⟩
    · rw [upd_ne (np a ha), frz_in ha]
    · show ((if Mk.c = .o then ndA k (p, 0) else []) ++ adrL .o (mkL calm xs)).Nodup
      rw [if_neg (by decide), adrL_nil (p := isC) rfl cold]
      exact List.nodup_nil
    · intro a ha
      have ha : a ∈ (if Mk.c = .o then ndA k (p, 0) else []) ++ adrL .o (mkL calm xs) := ha
      rw [if_neg (by decide), adrL_nil (p := isC) rfl cold] at ha
      cases ha
end

/-! ### names, constants -/
/-- a place: a slot, and the way down from its node -/
def getT {α : Type} : T α → List Nat → Option (T α)
  | t, [] => some t
  | .nd _ _ _ xs, i :: p => match xs[i]? with
    | some x => getT x p
    | none => none
  | _, _ :: _ => none
abbrev Pv := Env → R (Nat × List Nat)
def getR (ρ : Env) (i : Nat) (p : List Nat) : Option D := match ρ[i]? with
  | some (some d) => getT d p
  | _ => none
def E.c (d : D) : Ev := fun ρ => .ok d ρ
def P.var (i : Nat) : Pv := fun ρ => match ρ[i]? with
  | some (some _) => .ok (i, []) ρ
  | _ => .bad
def E.at (p : Pv) : Ev := fun ρ => (p ρ).bind fun q ρ1 => match getR ρ1 q.1 q.2 with
  | some d => .ok d.vw ρ1
  | none => .bad
def E.bin (g : D → D → Option D) (f f' : Ev) : Ev := fun ρ => (f ρ).bind fun d1 ρ1 => (f' ρ1).bind fun d2 ρ2 => R.of (g d1 d2) ρ2
def E.un (g : D → Option D) (f : Ev) : Ev := fun ρ => (f ρ).bind fun d1 ρ1 => R.of (g d1) ρ1
def E.args (g : List D → Option D) (f : Env → R (List D)) : Ev := fun ρ => (f ρ).bind fun ds ρ1 => R.of (g ds) ρ1
def E.nil : Env → R (List D) := fun ρ => .ok [] ρ
def E.cons (f : Ev) (g : Env → R (List D)) : Env → R (List D) := fun ρ => (f ρ).bind fun d ρ1 => (g ρ1).bind fun ds ρ2 => .ok (d :: ds) ρ2

/-- what an operation on two values is worth -/
def Op2 (X : Ctx) (OK : R2 → Prop) (g : D → D → Option D) : Prop := ∀ d1 d2 d, g d1 d2 = some d → ∃ r2 : R2, OK r2 ∧ ∀ F H x y Q, Sub F H → Ok X F H x → Ok X F H y → (own x ++ own y).Nodup → er x = d1 → er y = d2 → LPost X F H [x, y] d Q → r2 (val x) (val y) H Q
def Op1 (X : Ctx) (OK : (V → Hp → VK → Prop) → Prop) (g : D → Option D) : Prop := ∀ d1 d, g d1 = some d → ∃ r : V → Hp → VK → Prop, OK r ∧ ∀ F H x Q, Sub F H → Ok X F H x → (own x).Nodup → er x = d1 → LPost X F H [x] d Q → r (val x) H Q
def OpN (X : Ctx) (OK : (List V → Hp → VK → Prop) → Prop) (g : List D → Option D) : Prop := ∀ ds d, g ds = some d → ∃ r : List V → Hp → VK → Prop, OK r ∧ ∀ F H xs Q, Sub F H → OkL X F H xs → (adrL .o xs).Nodup → xs.map er = ds → LPost X F H xs d Q → r (xs.map val) H Q

section
variable {ca : Ca} {C : Cx} {W : WX} {e a b : Expr} {f f' : Ev} {ρ : Env}
theorem adrL_one (q : Mk) (x : A) : adrL q [x] = adr q x := by rw [adrL, adrL, List.append_nil]
theorem adrL_two (q : Mk) (x y : A) : adrL q [x, y] = adr q x ++ adr q y := by rw [adrL, adrL_one]
/-- two operands, then an operation: what the whole's reading gives -/
theorem two_imp {OK : R2 → Prop} {g : D → D → Option D} (h0 : OK fun _ _ _ _ => False) (h : Op2 (cx ca C) OK g) (ha : CE ca C W a f) (hb : CE ca C W b f') (ρ : Env) :
    ∃ ta tb r, PE C a ta ∧ PE C b tb ∧ OK r ∧ ∀ σ H Q, rdE (cx ca C) W (E.bin g f f') ρ σ H Q → tOp r ta tb σ H Q := by
  cases hf : f ρ with
  | bad =>
    refine ⟨_, _, _, pe_false, pe_false, h0, fun σ H Q ⟨F, r, s, e, p⟩ => ?_⟩
    unfold E.bin at p; rw [hf] at p; exact p
  | exc c fs ρ1 =>
    refine ⟨_, _, _, ha.run ρ, pe_false, h0, fun σ H Q ⟨F, r, s, e, p⟩ => ⟨F, r, s, e, ?_⟩⟩
    unfold E.bin at p; rw [hf] at p ⊢; exact p
  | ok d1 ρ1 =>
    cases hg : f' ρ1 with
    | bad =>
      refine ⟨_, _, _, pe_false, pe_false, h0, fun σ H Q ⟨F, r, s, e, p⟩ => ?_⟩
      unfold E.bin at p; rw [hf, R.ok_bind, hg] at p; exact p
    | exc c fs ρ2 =>
      refine ⟨_, _, _, ha.run ρ, hb.run ρ1, h0, fun σ H Q ⟨F, r, s, e, p⟩ => ⟨F, r, s, e, ?_⟩⟩
      unfold E.bin at p; rw [hf, R.ok_bind, hg] at p
      rw [hf]
      intro F1 H1 r1 x g1 s1 e1 _ _ _
      refine ⟨F1, r1, s1, e1, ?_⟩
      rw [hg]
      intro F2 H2 r2 dx g2 s2 e2 x2
      exact p F2 H2 r2 dx (g1.trans s1 g2) s2 e2 x2
    | ok d2 ρ2 =>
      cases hd : g d1 d2 with
      | none =>
        refine ⟨_, _, _, pe_false, pe_false, h0, fun σ H Q ⟨F, r, s, e, p⟩ => ?_⟩
        unfold E.bin at p; rw [hf, R.ok_bind, hg, R.ok_bind, hd] at p; exact p
      | some d =>
        obtain ⟨r2, ho, hr⟩ := h d1 d2 d hd
        refine ⟨_, _, r2, ha.run ρ, hb.run ρ1, ho, fun σ H Q ⟨F, r, s, e, p⟩ => ⟨F, r, s, e, ?_⟩⟩
        unfold E.bin at p; rw [hf, R.ok_bind, hg, R.ok_bind, hd] at p
        rw [hf]
        intro F1 H1 r1 x g1 s1 e1 ok1 ex1 v1
        refine ⟨F1, r1, s1, e1, ?_⟩
        rw [hg]
        intro F2 H2 r2 y g2 s2 e2 ok2 ex2 v2
        have n1 : ∀ a ∈ own x, a ∉ adrR .o r1 := fun a ha hr1 => (s.own_there (g1.ow a hr1)).1 (v1.new a ha)
        have n2 := v2.back g1
        refine hr F2 H2 x y Q s2.sub (ok1.grow s1 n1 g2) ok2 (List.nodup_append.mpr ⟨v1.nd, v2.nd, fun p hp q hq e => ?_⟩) ex1 ex2 (fin_leaf s s2 (g1.trans s1 g2) e2 ?_ ?_ p)
        · subst e
          exact (ok1.own_there p hp).1 (v2.new p hq)
        · intro a ha
          rw [adrL_two] at ha
          exact (List.mem_append.mp ha).elim (v1.new a) (n2.new a)
        · intro b hb
          rw [adrL_two] at hb
          exact (List.mem_append.mp hb).elim (v1.bo b) (n2.bo b)
theorem one_imp {OK : (V → Hp → VK → Prop) → Prop} {g : D → Option D} (h0 : OK fun _ _ _ => False) (h : Op1 (cx ca C) OK g) (ha : CE ca C W a f) (ρ : Env) :
    ∃ ta r, PE C a ta ∧ OK r ∧ ∀ σ H Q, rdE (cx ca C) W (E.un g f) ρ σ H Q → tUn r ta σ H Q := by
  cases hf : f ρ with
  | bad =>
    refine ⟨_, _, pe_false, h0, fun σ H Q ⟨F, r, s, e, p⟩ => ?_⟩
    unfold E.un at p; rw [hf] at p; exact p
  | exc c fs ρ1 =>
    refine ⟨_, _, ha.run ρ, h0, fun σ H Q ⟨F, r, s, e, p⟩ => ⟨F, r, s, e, ?_⟩⟩
    unfold E.un at p; rw [hf] at p ⊢; exact p
  | ok d1 ρ1 =>
    cases hd : g d1 with
    | none =>
      refine ⟨_, _, pe_false, h0, fun σ H Q ⟨F, r, s, e, p⟩ => ?_⟩
      unfold E.un at p; rw [hf, R.ok_bind, hd] at p; exact p
    | some d =>
      obtain ⟨r2, ho, hr⟩ := h d1 d hd
      refine ⟨_, r2, ha.run ρ, ho, fun σ H Q ⟨F, r, s, e, p⟩ => ⟨F, r, s, e, ?_⟩⟩
      unfold E.un at p; rw [hf, R.ok_bind, hd] at p
      rw [hf]
      intro F1 H1 r1 x g1 s1 e1 ok1 ex1 v1
      refine hr F1 H1 x Q s1.sub ok1 v1.nd ex1 (fin_leaf s s1 g1 e1 ?_ ?_ p)
      · intro a ha; rw [adrL_one] at ha; exact v1.new a ha
      · intro b hb; rw [adrL_one] at hb; exact v1.bo b hb
theorem args_imp {es : List Expr} {fa : Env → R (List D)} {OK : (List V → Hp → VK → Prop) → Prop} {g : List D → Option D} (h0 : OK fun _ _ _ => False) (h : OpN (cx ca C) OK g) (ha : CA ca C W es fa) (ρ : Env) :
    ∃ ta r, PA C es ta ∧ OK r ∧ ∀ σ H Q, rdE (cx ca C) W (E.args g fa) ρ σ H Q → tCB r ta σ H Q := by
  cases hf : fa ρ with
  | bad =>
    refine ⟨_, _, ha.run ρ, h0, fun σ H Q ⟨F, r, s, e, p⟩ => ?_⟩
    unfold E.args at p; rw [hf] at p; exact p.elim
  | exc c fs ρ1 =>
    refine ⟨_, _, ha.run ρ, h0, fun σ H Q ⟨F, r, s, e, p⟩ => ⟨F, r, s, e, ?_⟩⟩
    unfold E.args at p; rw [hf] at p ⊢; exact p
  | ok ds ρ1 =>
    cases hd : g ds with
    | none =>
      refine ⟨_, _, ha.run ρ, h0, fun σ H Q ⟨F, r, s, e, p⟩ => ?_⟩
      unfold E.args at p; rw [hf, R.ok_bind, hd] at p; exact p.elim
    | some d =>
      obtain ⟨r2, ho, hr⟩ := h ds d hd
      refine ⟨_, r2, ha.run ρ, ho, fun σ H Q ⟨F, r, s, e, p⟩ => ⟨F, r, s, e, ?_⟩⟩
      unfold E.args at p; rw [hf, R.ok_bind, hd] at p
      rw [hf]
      intro F1 H1 r1 xs g1 s1 e1 ok1 ex1 nd new bo
      exact hr F1 H1 xs Q s1.sub ok1 nd ex1 (fin_leaf s s1 g1 e1 new bo p)
theorem ca_nil : CA ca C W [] E.nil := ⟨fun ρ => PA.mono pa_nil fun σ H Q ⟨F, r, s, e, p⟩ =>
  p F H r [] .refl s e trivial rfl List.nodup_nil (fun _ z => by cases z) (fun _ z => by cases z)⟩
theorem ca_cons {es : List Expr} {fa : Env → R (List D)} (ha : CE ca C W e f) (hr : CA ca C W es fa) (hs : starEach (e :: es) C.env = (false, eval e C.env) :: starEach es C.env := by rfl) : CA ca C W (e :: es) (E.cons f fa) := by
  refine ⟨fun ρ => ?_⟩
  cases hf : f ρ with
  | bad =>
    refine PA.mono (pa_cons (ha.run ρ) (hr.run ρ) hs) fun σ H Q ⟨F, r, s, e, p⟩ => ?_
    unfold E.cons at p; rw [hf] at p; exact p.elim
  | exc c fs ρ1 =>
    refine PA.mono (pa_cons (ha.run ρ) (hr.run ρ) hs) fun σ H Q ⟨F, r, s, e, p⟩ => ⟨F, r, s, e, ?_⟩
    unfold E.cons at p; rw [hf] at p ⊢; exact p
  | ok d ρ1 =>
    refine PA.mono (pa_cons (ha.run ρ) (hr.run ρ1) hs) fun σ H Q ⟨F, r, s, e, p⟩ => ⟨F, r, s, e, ?_⟩
    unfold E.cons at p; rw [hf, R.ok_bind] at p
    rw [hf]
    intro F1 H1 r1 x g1 s1 e1 ok1 ex1 v1
    refine ⟨F1, r1, s1, e1, ?_⟩
    cases hg : fa ρ1 with
    | bad => rw [hg] at p; exact p.elim
    | exc c fs ρ2 =>
      rw [hg] at p
      intro F2 H2 r2 dx g2 s2 e2 x2
      exact p F2 H2 r2 dx (g1.trans s1 g2) s2 e2 x2
    | ok ds ρ2 =>
      rw [hg] at p
      intro F2 H2 r2 xs g2 s2 e2 ok2 ex2 nd2 new2 bo2
      have n1 : ∀ a ∈ own x, a ∉ adrR .o r1 := fun a ha hr1 => (s.own_there (g1.ow a hr1)).1 (v1.new a ha)
      refine p F2 H2 r2 (x :: xs) (g1.trans s1 g2) s2 e2 ⟨ok1.grow s1 n1 g2, ok2⟩ (by rw [List.map_cons, ex1, ex2]) (List.nodup_append.mpr ⟨v1.nd, nd2, fun p hp q hq e => ?_⟩) (fun a ha => ?_) (fun b hb => ?_)
      · subst e
        exact (ok1.own_there p hp).1 (new2 p hq)
      · rcases List.mem_append.mp ha with h | h
        · exact v1.new a h
        · cases e : H a with
          | none => rfl
          | some u => have := new2 a h; rw [g1.same a u e] at this; cases this
      · rcases List.mem_append.mp hb with h | h
        · exact v1.bo b h
        · exact (bo2 b h).imp (g1.ow b) (g1.bo b).mp
theorem ce_const {d : D} (h : plain d = true) (hp : PE C e (tC (val (up d)))) : CE ca C W e (E.c d) := ⟨fun ρ => PE.mono hp fun σ H Q ⟨F, r, s, e, p⟩ =>
  p F H r (up d) .refl s e (by cases d <;> first | trivial | exact absurd h Bool.false_ne_true) (er_up h) ⟨by cases d <;> exact List.nodup_nil, by cases d <;> exact fun _ z => (by cases z), by cases d <;> exact fun _ z => (by cases z)⟩⟩
end
end Vl
/-! The value layer, 4: operations on values. -/
namespace Vl
open PySem PySem.Spec PyProof.Rows L2

section
variable {α β : Type}
theorem er_nd {x : A} {k : Kd} {m : Mk} {ds : List D} (h : er x = .nd k m () ds) : ∃ a xs, x = .nd k m a xs ∧ mapL (fun _ => ()) xs = ds := by
  cases x with
  | nd k' m' a xs =>
    have h : T.nd k' m' () (mapL (fun _ => ()) xs) = T.nd k m () ds := h
    injection h with h1 h2 h3 h4
    exact ⟨a, xs, by rw [h1, h2], h4⟩
  | _ => cases h
theorem er_int {x : A} {i : Int} (h : er x = .int i) : x = .int i := by
  cases x with
  | int j => have h : T.int j = T.int i := h; injection h with h; rw [h]
  | _ => cases h
theorem er_str {x : A} {z : Str} (h : er x = .str z) : x = .str z := by
  cases x with
  | str j => have h : T.str j = T.str z := h; injection h with h; rw [h]
  | _ => cases h
theorem er_bl {x : A} {b : Bool} (h : er x = .bl b) : x = .bl b := by
  cases x with
  | bl j => have h : T.bl j = T.bl b := h; injection h with h; rw [h]
  | _ => cases h
theorem er_non {x : A} (h : er x = .non) : x = .non := by
  cases x with
  | non => rfl
  | _ => cases h
theorem er_plain {x : A} (h : plain (er x) = true) : x = up (er x) := by
  cases x <;> first | rfl | exact absurd h Bool.false_ne_true
theorem mapL_len (f : α → β) (xs : List (T α)) : (mapL f xs).length = xs.length := by rw [mapL_eq, List.length_map]
theorem mapL_append (f : α → β) (xs ys : List (T α)) : mapL f (xs ++ ys) = mapL f xs ++ mapL f ys := by rw [mapL_eq, mapL_eq, mapL_eq, List.map_append]
theorem allL_append (p : Mk → Bool) (xs ys : List (T α)) : allL p (xs ++ ys) = (allL p xs && allL p ys) := by rw [allL_eq, allL_eq, allL_eq, List.all_append]
end
theorem Ok.at_ {X : Ctx} {F H : Hp} {k : Kd} {m : Mk} {a : AA} {xs : List A} (h : Ok X F H (.nd k m a xs)) (s : Sub F H) : At X.K X.ca H k a (xs.map val) := by
  obtain ⟨⟨_, n⟩, _⟩ := h
  cases m with
  | c => exact s.at_ n.1
  | o => exact n.1.at_
  | b => exact n.1
theorem Ok.kids {X : Ctx} {F H : Hp} {k : Kd} {m : Mk} {a : AA} {xs : List A} (h : Ok X F H (.nd k m a xs)) : OkL X F H xs := h.2
theorem Ok.shp {X : Ctx} {F H : Hp} {k : Kd} {m : Mk} {a : AA} {xs : List A} (h : Ok X F H (.nd k m a xs)) : shp k xs.length := h.1.1
theorem OkL.append {X : Ctx} {F H : Hp} {xs ys : List A} (h : OkL X F H xs) (h' : OkL X F H ys) : OkL X F H (xs ++ ys) := OkL_iff.mpr fun x hx => (List.mem_append.mp hx).elim (OkL_iff.mp h x) (OkL_iff.mp h' x)
theorem OkL.sub {X : Ctx} {F H : Hp} {xs ys : List A} (h : OkL X F H xs) (hs : ∀ x ∈ ys, x ∈ xs) : OkL X F H ys := OkL_iff.mpr fun x hx => OkL_iff.mp h x (hs x hx)
theorem allL_sub {α : Type} {p : Mk → Bool} {xs ys : List (T α)} (h : allL p xs = true) (hs : ∀ x ∈ ys, x ∈ xs) : allL p ys = true := by
  rw [allL_eq, List.all_eq_true] at h ⊢
  exact fun x hx => h x (hs x hx)
theorem allC_notB {α : Type} {xs : List (T α)} (h : allL isC xs = true) : allL notB xs = true := allL_imp (fun m hm => by cases m <;> first | rfl | exact absurd hm Bool.false_ne_true) h
theorem adrL_mem {q : Mk} {xs : List A} {x : A} (h : x ∈ xs) {a : Addr} (ha : a ∈ adr q x) : a ∈ adrL q xs := by
  rw [adrL_eq]; exact List.mem_flatMap.mpr ⟨x, h, ha⟩
theorem adr_nd_kids {q : Mk} {k : Kd} {m : Mk} {a : AA} {xs : List A} {p : Addr} (h : p ∈ adrL q xs) : p ∈ adr q (.nd k m a xs) := List.mem_append_right _ h
theorem nodup_of_mem {q : Mk} : ∀ {xs : List A} {x : A}, (adrL q xs).Nodup → x ∈ xs → (adr q x).Nodup
  | y :: ys, x, h, hx => by
    rw [adrL] at h
    rcases List.mem_cons.mp hx with rfl | hx
    · exact (List.nodup_append.mp h).1
    · exact nodup_of_mem (List.nodup_append.mp h).2.1 hx
theorem nodup_kids {q : Mk} {k : Kd} {m : Mk} {a : AA} {xs : List A} (h : (adr q (.nd k m a xs)).Nodup) : (adrL q xs).Nodup := (List.nodup_append.mp h).2.1
/-- a part of a tree comes -/
theorem LPost.kid {X : Ctx} {F H : Hp} {as : List A} {k : Kd} {m : Mk} {a : AA} {xs : List A} {z : A} {Q : VK} (h : LPost X F H as (er z) Q) (s : Sub F H) (ok : Ok X F H (.nd k m a xs)) (nd : (own (.nd k m a xs)).Nodup) (hz : z ∈ xs)
    (hx : T.nd k m a xs ∈ as) : Q (val z) H :=
  h.part s (OkL_iff.mp ok.kids z hz) (nodup_of_mem (nodup_kids nd) hz) (fun p hp => adrL_mem hx (adr_nd_kids (adrL_mem hz hp))) fun p hp => adrL_mem hx (adr_nd_kids (adrL_mem hz hp))

/-! ### arithmetic -/
def D.add : D → D → Option D
  | .int i, .int j => some (.int (i + j))
  | .int i, .bl k => some (.int (i + b2i k))
  | .str x, .str y => if x.length + y.length ≤ sizeLine then some (.str (x ++ y)) else none
  | .nd .lst _ _ xs, .nd .lst _ _ ys => if allL isC xs = true ∧ allL isC ys = true ∧ xs.length + ys.length ≤ sizeLine then some (.nd .lst .o () (xs ++ ys)) else none
  | .nd .tup _ _ xs, .nd .tup _ _ ys => if allL isC xs = true ∧ allL isC ys = true ∧ xs.length + ys.length ≤ sizeLine ∧ xs ≠ [] ∧ ys ≠ [] then some (.nd .tup .c () (xs ++ ys)) else none
  | _, _ => none
def D.sub : D → D → Option D
  | .int i, .int j => some (.int (i - j))
  | _, _ => none
def okMul (i j : Int) : Bool := decide ((-(2 ^ 64) < i ∧ i < 2 ^ 64) ∨ (-(2 ^ 64) < j ∧ j < 2 ^ 64))
def D.mul : D → D → Option D
  | .int i, .int j => if okMul i j = true then some (.int (i * j)) else none
  | _, _ => none
def D.mod : D → D → Option D
  | .int i, .int j => if 0 < j then some (.int (i % j)) else none
  | _, _ => none
def D.fdiv : D → D → Option D
  | .int i, .int j => if 0 < j ∧ j < 1073741824 then some (.int (i / j)) else none
  | _, _ => none
def D.pow : D → D → Option D
  | .int i, .int j => if 0 ≤ j ∧ j ≤ 1000000 ∧ i.natAbs < 2 ^ 64 then some (.int (i ^ j.toNat)) else none
  | _, _ => none
def D.neg : D → Option D
  | .int i => some (.int (-i))
  | _ => none
section
variable {ca : Ca} {C : Cx}
theorem opR_false {f : Value → Value → Sem Value} : OpR C f fun _ _ _ _ => False := fun _ _ _ _ _ _ _ _ _ _ _ _ h => h.elim
theorem un_false {f : Value → Sem Value} : UnR C f fun _ _ _ => False := fun _ _ _ _ _ _ _ _ _ h => h.elim
theorem callR_false {f : Value} : CallR C f fun _ _ _ => False := fun _ _ _ _ _ _ _ _ _ h => h.elim
theorem op2_add : Op2 (cx ca C) (OpR C (binaryOp .Add)) D.add := by
  intro d1 d2 d h
  unfold D.add at h
  split at h
  · cases h
    refine ⟨_, op_add, fun F H x y Q s _ _ _ e1 e2 k => ?_⟩
    rw [er_int e1, er_int e2]
    exact ⟨_, _, rfl, rfl, k.plain s rfl⟩
  · cases h
    refine ⟨_, op_add_ib, fun F H x y Q s _ _ _ e1 e2 k => ?_⟩
    rw [er_int e1, er_bl e2]
    exact ⟨_, _, rfl, rfl, k.plain s rfl⟩
  · split at h
    · rename_i hz
      cases h
      refine ⟨_, op_add_str, fun F H x y Q s _ _ _ e1 e2 k => ?_⟩
      rw [er_str e1, er_str e2]
      exact ⟨_, _, rfl, rfl, hz, k.plain s rfl⟩
    · cases h
  · split at h
    · rename_i hz
      cases h
      refine ⟨_, op_cat, fun F H x y Q s ok1 ok2 _ e1 e2 k => ?_⟩
      obtain ⟨a, xs, rfl, ex⟩ := er_nd e1
      obtain ⟨b, ys, rfl, ey⟩ := er_nd e2
      rw [← ex, ← ey, allL_mapL, allL_mapL, mapL_len, mapL_len] at hz
      have c := (allL_append isC xs ys).trans (by rw [hz.1, hz.2.1]; try rfl)
      refine ⟨_, _, _, _, rfl, rfl, ok1.at_ s, ok2.at_ s, by rw [List.length_map, List.length_map]; exact hz.2.2, fun p hp => ?_⟩
      have := k.new (p := p) (xs := xs ++ ys) (.inl rfl) s hp (.inl rfl) trivial (ok1.kids.append ok2.kids) (by rw [← mapL_mkL, mkL_cold rfl c, mapL_append, ex, ey]) (allC_notB c) (by rw [adrL_nil rfl c]; exact fun _ z => by cases z)
      rw [List.map_append] at this
      exact this
    · cases h
  · split at h
    · rename_i hz
      cases h
      refine ⟨_, op_catT, fun F H x y Q s ok1 ok2 _ e1 e2 k => ?_⟩
      obtain ⟨a, xs, rfl, ex⟩ := er_nd e1
      obtain ⟨b, ys, rfl, ey⟩ := er_nd e2
      rw [← ex, ← ey, allL_mapL, allL_mapL, mapL_len, mapL_len] at hz
      have c := (allL_append isC xs ys).trans (by rw [hz.1, hz.2.1]; try rfl)
      have nx : xs ≠ [] := fun z => hz.2.2.2.1 (by rw [z]; rfl)
      have ny : ys ≠ [] := fun z => hz.2.2.2.2 (by rw [z]; rfl)
      refine ⟨_, _, _, _, rfl, rfl, ok1.at_ s, ok2.at_ s, fun z => nx (List.map_eq_nil_iff.mp z), by rw [List.length_map, List.length_map]; exact hz.2.2.1, fun z => absurd (List.map_eq_nil_iff.mp z) ny, fun _ p hp => ?_⟩
      have := k.new (p := p) (xs := xs ++ ys) (.inr rfl) s hp (.inr (.inl rfl)) trivial (ok1.kids.append ok2.kids) (by rw [← mapL_mkL, mkL_cold rfl c, mapL_append, ex, ey]) (allC_notB c) (by rw [adrL_nil rfl c]; exact fun _ z => by cases z)
      rw [List.map_append] at this
      exact this
    · cases h
  · cases h
theorem op2_sub : Op2 (cx ca C) (OpR C (binaryOp .Sub)) D.sub := by
  intro d1 d2 d h
  unfold D.sub at h
  split at h
  · cases h
    refine ⟨_, op_sub, fun F H x y Q s _ _ _ e1 e2 k => ?_⟩
    rw [er_int e1, er_int e2]
    exact ⟨_, _, rfl, rfl, k.plain s rfl⟩
  · cases h
theorem op2_mul : Op2 (cx ca C) (OpR C (binaryOp .Mult)) D.mul := by
  intro d1 d2 d h
  unfold D.mul at h
  split at h
  · split at h
    · rename_i hz
      cases h
      unfold okMul at hz
      have hz := of_decide_eq_true hz
      refine ⟨_, op_mul, fun F H x y Q s _ _ _ e1 e2 k => ?_⟩
      rw [er_int e1, er_int e2]
      exact ⟨_, _, rfl, rfl, hz, k.plain s rfl⟩
    · cases h
  · cases h
theorem op2_mod : Op2 (cx ca C) (OpR C (binaryOp .Mod)) D.mod := by
  intro d1 d2 d h
  unfold D.mod at h
  split at h
  · split at h
    · rename_i hz
      cases h
      refine ⟨_, op_mod, fun F H x y Q s _ _ _ e1 e2 k => ?_⟩
      rw [er_int e1, er_int e2]
      exact ⟨_, _, rfl, rfl, hz, k.plain s rfl⟩
    · cases h
  · cases h
theorem op2_fdiv : Op2 (cx ca C) (OpR C (binaryOp .FloorDiv)) D.fdiv := by
  intro d1 d2 d h
  unfold D.fdiv at h
  split at h
  · split at h
    · rename_i hz
      cases h
      refine ⟨_, op_fdiv, fun F H x y Q s _ _ _ e1 e2 k => ?_⟩
      rw [er_int e1, er_int e2]
      exact ⟨_, _, rfl, rfl, hz, k.plain s rfl⟩
    · cases h
  · cases h
theorem op2_pow : Op2 (cx ca C) (OpR C (binaryOp .Pow)) D.pow := by
  intro d1 d2 d h
  unfold D.pow at h
  split at h
  · split at h
    · rename_i hz
      cases h
      refine ⟨_, op_pow, fun F H x y Q s _ _ _ e1 e2 k => ?_⟩
      rw [er_int e1, er_int e2]
      exact ⟨_, _, rfl, rfl, hz, k.plain s rfl⟩
    · cases h
  · cases h
theorem op1_neg : Op1 (cx ca C) (UnR C (unaryOp .USub)) D.neg := by
  intro d1 d h
  unfold D.neg at h
  split at h
  · cases h
    refine ⟨_, un_neg, fun F H x Q s _ _ e1 k => ?_⟩
    rw [er_int e1]
    exact ⟨_, rfl, k.plain s rfl⟩
  · cases h
variable {W : WX} {a b : Expr} {f f' : Ev} {pos : Pos}
theorem ce_op {op : Operator} {g : D → D → Option D} (h : Op2 (cx ca C) (OpR C (binaryOp op)) g) (ha : CE ca C W a f) (hb : CE ca C W b f') : CE ca C W (.BinOp a op b pos) (E.bin g f f') := ⟨fun ρ => by
  obtain ⟨ta, tb, r, pa, pb, ok, i⟩ := two_imp opR_false h ha hb ρ
  exact PE.mono (pe_op ok pa pb) i⟩
theorem ce_add (ha : CE ca C W a f) (hb : CE ca C W b f') : CE ca C W (.BinOp a .Add b pos) (E.bin D.add f f') := ce_op op2_add ha hb
theorem ce_sub (ha : CE ca C W a f) (hb : CE ca C W b f') : CE ca C W (.BinOp a .Sub b pos) (E.bin D.sub f f') := ce_op op2_sub ha hb
theorem ce_mul (ha : CE ca C W a f) (hb : CE ca C W b f') : CE ca C W (.BinOp a .Mult b pos) (E.bin D.mul f f') := ce_op op2_mul ha hb
theorem ce_mod (ha : CE ca C W a f) (hb : CE ca C W b f') : CE ca C W (.BinOp a .Mod b pos) (E.bin D.mod f f') := ce_op op2_mod ha hb
theorem ce_fdiv (ha : CE ca C W a f) (hb : CE ca C W b f') : CE ca C W (.BinOp a .FloorDiv b pos) (E.bin D.fdiv f f') := ce_op op2_fdiv ha hb
theorem ce_pow (ha : CE ca C W a f) (hb : CE ca C W b f') : CE ca C W (.BinOp a .Pow b pos) (E.bin D.pow f f') := ce_op op2_pow ha hb
theorem ce_neg (ha : CE ca C W a f) : CE ca C W (.UnaryOp .USub a pos) (E.un D.neg f) := ⟨fun ρ => by
  obtain ⟨ta, r, pa, ok, i⟩ := one_imp un_false op1_neg ha ρ
  exact PE.mono (pe_un ok pa) i⟩
theorem ce_int {i j pos} : CE ca C W (.Constant (.int i) j pos) (E.c (.int i)) := ce_const rfl pe_int
theorem ce_str {x j pos} : CE ca C W (.Constant (.str x) j pos) (E.c (.str x)) := ce_const rfl pe_str
theorem ce_bl {x j pos} : CE ca C W (.Constant (.bool x) j pos) (E.c (.bl x)) := ce_const rfl pe_bl
theorem ce_non {j pos} : CE ca C W (.Constant .none j pos) (E.c .non) := ce_const rfl pe_non
end
end Vl
/-! The value layer, 5: comparisons, tests, subscripts, lengths, slices. -/
namespace Vl
open PySem PySem.Spec PyProof.Rows L2

/-! ### data -/
section
variable {α : Type}
mutual
def T.py : T α → Option PyData
  | .non => some .none
  | .bl b => some (.bool b)
  | .int i => some (.int i)
  | .str x => some (.str x)
  | .nd .lst _ _ xs => (pyL xs).map .list
  | .nd .scr _ _ xs => (pyL xs).map .list
  | .nd .tup _ _ xs => (pyL xs).map .tuple
  | .nd _ _ _ _ => none
def pyL : List (T α) → Option (List PyData)
  | [] => some []
  | x :: xs => match x.py, pyL xs with
    | some d, some ds => some (d :: ds)
    | _, _ => none
end
end
mutual
theorem py_er : ∀ x : A, (er x).py = x.py
  | .non => rfl
  | .bl _ => rfl
  | .int _ => rfl
  | .str _ => rfl
  | .nd .lst m a xs => by
    show (pyL (mapL (fun _ => ()) xs)).map PyData.list = (pyL xs).map .list
    rw [pyL_er xs]
  | .nd .scr m a xs => by
    show (pyL (mapL (fun _ => ()) xs)).map PyData.list = (pyL xs).map .list
    rw [pyL_er xs]
  | .nd .tup m a xs => by
    show (pyL (mapL (fun _ => ()) xs)).map PyData.tuple = (pyL xs).map .tuple
    rw [pyL_er xs]
  | .nd (.dct _) m a xs => rfl
  | .nd (.ins _ _) m a xs => rfl
theorem pyL_er : ∀ xs : List A, pyL (mapL (fun _ => ()) xs) = pyL xs
  | [] => rfl
  | x :: xs => by
    have h := py_er x
    show (match (er x).py, pyL (mapL (fun _ => ()) xs) with | some d, some ds => some (d :: ds) | _, _ => none) = (match x.py, pyL xs with | some d, some ds => some (d :: ds) | _, _ => none)
    rw [h, pyL_er xs]
end
mutual
theorem Ok.dp {X : Ctx} {F H : Hp} (s : Sub F H) : ∀ {x : A} {d : PyData}, Ok X F H x → x.py = some d → Dp X.K H (val x) d
  | .non, _, _, e => by cases e; exact .non
  | .bl b, _, _, e => by cases e; exact .bl b
  | .int i, _, _, e => by cases e; exact .int i
  | .str z, _, _, e => by cases e; exact .str z
  | .nd .lst m a xs, d, h, e => by
    have e : (pyL xs).map PyData.list = some d := e
    cases q : pyL xs with
    | none => rw [q] at e; cases e
    | some ds => rw [q] at e; cases e; exact .lst (SqL.of (h.at_ s)) (OkL.dp s h.kids q)
  | .nd .scr m a xs, d, h, e => by
    have e : (pyL xs).map PyData.list = some d := e
    cases q : pyL xs with
    | none => rw [q] at e; cases e
    | some ds => rw [q] at e; cases e; exact .lst (h.at_ s) (OkL.dp s h.kids q)
  | .nd .tup m a xs, d, h, e => by
    have e : (pyL xs).map PyData.tuple = some d := e
    cases q : pyL xs with
    | none => rw [q] at e; cases e
    | some ds => rw [q] at e; cases e; exact .tup (h.at_ s) (OkL.dp s h.kids q)
  | .nd (.dct _) m a xs, d, h, e => by cases e
  | .nd (.ins _ _) m a xs, d, h, e => by cases e
theorem OkL.dp {X : Ctx} {F H : Hp} (s : Sub F H) : ∀ {xs : List A} {ds : List PyData}, OkL X F H xs → pyL xs = some ds → DpAll X.K H (xs.map val) ds
  | [], _, _, e => by cases e; exact .nil
  | x :: xs, ds, h, e => by
    have e : (match x.py, pyL xs with | some d, some ds => some (d :: ds) | _, _ => none) = some ds := e
    cases q1 : x.py with
    | none => rw [q1] at e; cases e
    | some d =>
      cases q2 : pyL xs with
      | none => rw [q1, q2] at e; cases e
      | some es => rw [q1, q2] at e; cases e; exact .cons (Ok.dp s h.1 q1) (OkL.dp s h.2 q2)
end

/-! ### comparisons -/
def D.cmp (p : Int → Int → Bool) : D → D → Option D
  | .int i, .int j => some (.bl (p i j))
  | _, _ => none
abbrev D.lt := D.cmp fun i j => decide (i < j)
abbrev D.le := D.cmp fun i j => decide (i ≤ j)
abbrev D.gt := D.cmp fun i j => decide (j < i)
abbrev D.ge := D.cmp fun i j => decide (j ≤ i)
def D.eqv : D → D → Option Bool
  | .int i, .int j => some (decide (i = j))
  | .str x, .str y => some (decide (x = y))
  | .bl a, .bl b => some (decide (a = b))
  | .non, .non => some true
  | .int _, .str _ => some false
  | .str _, .int _ => some false
  | .non, .int _ => some false
  | .int _, .non => some false
  | .non, .str _ => some false
  | .str _, .non => some false
  | .bl _, .str _ => some false
  | .str _, .bl _ => some false
  | .non, .bl _ => some false
  | .bl _, .non => some false
  | a, b => match a.py, b.py with
    | some d, some e => if SeqAt.shaped d = true ∧ SeqAt.shaped e = true then some (PyData.eqv d e) else none
    | _, _ => none
def D.eq (a b : D) : Option D := (D.eqv a b).map .bl
def D.ne (a b : D) : Option D := (D.eqv a b).map fun k => .bl (!k)
def D.isN : D → D → Option D
  | a, .non => some (.bl (match a with | .non => true | _ => false))
  | _, _ => none
def D.notN : D → D → Option D
  | a, .non => some (.bl (match a with | .non => false | _ => true))
  | _, _ => none
def D.key : D → Option Key
  | .int i => some (.inl i)
  | .str x => some (.inr x)
  | _ => none
def look {α : Type} : List Key → List α → Key → Option α
  | k' :: ks, x :: xs, k => if k' = k then some x else look ks xs k
  | _, _, _ => none
def hasK (ks : List Key) (k : Key) : Bool := ks.any fun k' => decide (k' = k)
theorem hasK_iff {ks : List Key} {k : Key} : hasK ks k = true ↔ k ∈ ks := by
  unfold hasK
  rw [List.any_eq_true]
  constructor
  · rintro ⟨x, hx, e⟩; rw [← of_decide_eq_true e]; exact hx
  · intro h; exact ⟨k, h, decide_eq_true rfl⟩
def eqP (y x : D) : Bool := match y, x with
  | .non, .non => true
  | .bl a, .bl b => a == b
  | .bl a, .int b => (if a then 1 else 0) == b
  | .int a, .bl b => a == (if b then 1 else 0)
  | .int a, .int b => a == b
  | .str a, .str b => a == b
  | _, _ => false
def D.isin : D → D → Option Bool
  | x, .nd .lst _ _ ys => if plain x = true ∧ ys.all plain = true then some (ys.any fun y => eqP y x) else none
  | x, .nd .tup _ _ ys => if plain x = true ∧ ys.all plain = true then some (ys.any fun y => eqP y x) else none
  | x, .nd .scr _ _ ys => if plain x = true ∧ ys.all plain = true then some (ys.any fun y => eqP y x) else none
  | x, .nd (.dct ks) _ _ _ => x.key.map fun k => hasK ks k
  | .str c, .str z => match c.cps.toList with
    | [n] => some (decide (n ∈ z.cps.toList))
    | _ => none
  | _, _ => none
def D.in_ (a b : D) : Option D := (D.isin a b).map .bl
def D.notin (a b : D) : Option D := (D.isin a b).map fun k => .bl (!k)
theorem look_map {α β : Type} (f : α → β) : ∀ (ks : List Key) (xs : List α) (k : Key), look ks (xs.map f) k = (look ks xs k).map f
  | [], xs, k => by cases xs <;> rfl
  | k' :: ks, [], k => rfl
  | k' :: ks, x :: xs, k => by
    show (if k' = k then some (f x) else look ks (xs.map f) k) = (if k' = k then some x else look ks xs k).map f
    by_cases h : k' = k
    · rw [if_pos h, if_pos h]; rfl
    · rw [if_neg h, if_neg h, look_map f ks xs k]
theorem look_mem {α : Type} : ∀ {ks : List Key} {xs : List α} {k : Key} {x : α}, look ks xs k = some x → x ∈ xs
  | [], xs, k, x, h => by cases xs <;> cases h
  | k' :: ks, [], k, x, h => by cases h
  | k' :: ks, y :: xs, k, x, h => by
    have h : (if k' = k then some y else look ks xs k) = some x := h
    by_cases e : k' = k
    · rw [if_pos e] at h; cases h; exact List.mem_cons_self
    · rw [if_neg e] at h; exact List.mem_cons_of_mem _ (look_mem h)
theorem valV_zip : ∀ (ks : List Key) (vs : List V) (k : Key), valV (ks.zip vs) k = look ks vs k
  | [], vs, k => by cases vs <;> rfl
  | k' :: ks, [], k => rfl
  | k' :: ks, v :: vs, k => by
    show valV ((k', v) :: ks.zip vs) k = if k' = k then some v else look ks vs k
    by_cases e : k' = k
    · rw [if_pos e]; exact valV_pos (p := (k', v)) e
    · rw [if_neg e, valV_neg (p := (k', v)) e, valV_zip ks vs k]
theorem look_some {α : Type} : ∀ {ks : List Key} {xs : List α} {k : Key}, ks.length = xs.length → (look ks xs k).isSome = hasK ks k
  | [], [], k, _ => rfl
  | k' :: ks, x :: xs, k, h => by
    show (if k' = k then some x else look ks xs k).isSome = (decide (k' = k) || hasK ks k)
    by_cases e : k' = k
    · rw [if_pos e, decide_eq_true e]; rfl
    · rw [if_neg e, decide_eq_false e, look_some (by simpa using h)]; rfl
theorem key_val {x : A} {k : Key} (h : (er x).key = some k) : val x = kV k := by
  cases x with
  | int i => have h : some (Sum.inl i : Key) = some k := h; cases h; rfl
  | str z => have h : some (Sum.inr z : Key) = some k := h; cases h; rfl
  | _ => cases h
theorem eqP_val {y x : A} (hy : plain (er y) = true) (hx : plain (er x) = true) : eqV (val y) (val x) = eqP (er y) (er x) := by
  cases y <;> first | exact absurd hy Bool.false_ne_true | skip
  all_goals cases x <;> first | exact absurd hx Bool.false_ne_true | rfl
theorem flat_val {x : A} (hx : plain (er x) = true) : flatV (val x) = true := by
  cases x <;> first | exact absurd hx Bool.false_ne_true | rfl
theorem allplain {ys : List A} (h : (mapL (fun _ => ()) ys).all plain = true) : ∀ y ∈ ys, plain (er y) = true := fun y hy => by
  rw [mapL_eq, List.all_eq_true] at h
  exact h (er y) (List.mem_map.mpr ⟨y, hy, rfl⟩)
theorem inV_val {x : A} {ys : List A} (hx : plain (er x) = true) (h : (mapL (fun _ => ()) ys).all plain = true) : inV (val x) (ys.map val) = (mapL (fun _ => ()) ys).any fun y => eqP y (er x) := by
  have hp := allplain h
  rw [mapL_eq]
  unfold inV
  rw [List.any_map, List.any_map]
  have e : ∀ l : List A, (∀ y ∈ l, plain (er y) = true) → (l.any ((fun y => eqV y (val x)) ∘ val)) = l.any ((fun y => eqP y (er x)) ∘ T.map fun _ => ()) := by
    intro l
    induction l with
    | nil => intro _; rfl
    | cons y l ih =>
      intro hl
      rw [List.any_cons, List.any_cons, ih fun z hz => hl z (List.mem_cons_of_mem _ hz)]
      show (eqV (val y) (val x) || _) = (eqP (er y) (er x) || _)
      rw [eqP_val (hl y List.mem_cons_self) hx]
  exact e ys hp

/-- a rule for a comparison, as a value and as a test -/
structure OKc (C : Cx) (op : CmpOp) (r : R2) : Prop where
  run : ∀ {a b : Expr} {ta tb : TE} {pos : Pos}, PE C a ta → PE C b tb → behindInMarks op b = false → PE C (.Compare a [op] [b] pos) (tOp r ta tb) ∧ PT C (.Compare a [op] [b] pos) (tTest (tOp r ta tb))
section
variable {ca : Ca} {C : Cx} {W : WX}
theorem okc_of {op : CmpOp} {r : R2} (h : OpR C (compareOp op) r) : OKc C op r := ⟨fun ha hb hm => ⟨pe_cmpR h ha hb hm, pt_cmpR h ha hb hm⟩⟩
theorem okc_false {op : CmpOp} : OKc C op fun _ _ _ _ => False := okc_of opR_false
theorem okc_din (hu : C.A.units + 1 < cLine) : OKc C .In (fun y x H Q => ∃ a o, x = .ref a ∧ DGet H a y o ∧ Q (.bl o.isSome) H) := ⟨fun ha hb hm => ⟨pe_cmp (pc_din hu ha hb) hm, pt_cmp (pc_din hu ha hb) hm⟩⟩
theorem okc_dnotin (hu : C.A.units + 1 < cLine) : OKc C .NotIn (fun y x H Q => ∃ a o, x = .ref a ∧ DGet H a y o ∧ Q (.bl (!o.isSome)) H) := ⟨fun ha hb hm => ⟨pe_cmp (pc_dnotin hu ha hb) hm, pt_cmp (pc_dnotin hu ha hb) hm⟩⟩
theorem op2_cmp {op : CmpOp} {p : Int → Int → Bool} (hop : OpR C (compareOp op) (rI0 fun i j => .bl (p i j))) : Op2 (cx ca C) (OKc C op) (D.cmp p) := by
  intro d1 d2 d h
  unfold D.cmp at h
  split at h
  · cases h
    refine ⟨_, okc_of hop, fun F H x y Q s _ _ _ e1 e2 k => ?_⟩
    rw [er_int e1, er_int e2]
    exact ⟨_, _, rfl, rfl, k.plain s rfl⟩
  · cases h
theorem eqv_scal {x y : A} {k : Bool} (h : D.eqv (er x) (er y) = some k) (hs : scal (val x) (val y) = true) : decide (val x = val y) = k := by
  cases x <;> cases y <;> first | exact absurd hs Bool.false_ne_true | skip
  all_goals
    first
    | (cases h; rfl)
    | (have h := Option.some.inj h; rw [← h]; simp [val])
theorem op2_eq (hu : C.A.units + 64 < cLine) : Op2 (cx ca C) (OKc C .Eq) D.eq := by
  intro d1 d2 d h
  unfold D.eq at h
  cases hq : D.eqv d1 d2 with
  | none => rw [hq] at h; cases h
  | some k =>
    rw [hq] at h
    cases h
    refine ⟨_, okc_of (op_eq.or (op_eqD hu)), fun F H x y Q s ok1 ok2 _ e1 e2 kk => ?_⟩
    subst e1 e2
    by_cases hs : scal (val x) (val y) = true
    · refine .inl ⟨hs, ?_⟩
      rw [eqv_scal hq hs]
      exact kk.plain s rfl
    · refine .inr ?_
      have key : (match (er x).py, (er y).py with | some d, some e => if SeqAt.shaped d = true ∧ SeqAt.shaped e = true then some (PyData.eqv d e) else none | _, _ => none) = some k := by
        cases x <;> cases y <;> first | exact absurd rfl hs | exact hq
      rw [py_er, py_er] at key
      cases q1 : x.py with
      | none => rw [q1] at key; cases key
      | some d =>
        cases q2 : y.py with
        | none => rw [q1, q2] at key; cases key
        | some e =>
          rw [q1, q2] at key
          dsimp only at key
          split at key
          · rename_i hz
            cases key
            exact ⟨d, e, ok1.dp s q1, ok2.dp s q2, hz.1, hz.2, kk.plain s rfl⟩
          · cases key
theorem op2_ne (hu : C.A.units + 64 < cLine) : Op2 (cx ca C) (OKc C .NotEq) D.ne := by
  intro d1 d2 d h
  unfold D.ne at h
  cases hq : D.eqv d1 d2 with
  | none => rw [hq] at h; cases h
  | some k =>
    rw [hq] at h
    cases h
    refine ⟨_, okc_of (op_ne.or (op_neD hu)), fun F H x y Q s ok1 ok2 _ e1 e2 kk => ?_⟩
    subst e1 e2
    by_cases hs : scal (val x) (val y) = true
    · refine .inl ⟨hs, ?_⟩
      rw [eqv_scal hq hs]
      exact kk.plain s rfl
    · refine .inr ?_
      have key : (match (er x).py, (er y).py with | some d, some e => if SeqAt.shaped d = true ∧ SeqAt.shaped e = true then some (PyData.eqv d e) else none | _, _ => none) = some k := by
        cases x <;> cases y <;> first | exact absurd rfl hs | exact hq
      rw [py_er, py_er] at key
      cases q1 : x.py with
      | none => rw [q1] at key; cases key
      | some d =>
        cases q2 : y.py with
        | none => rw [q1, q2] at key; cases key
        | some e =>
          rw [q1, q2] at key
          dsimp only at key
          split at key
          · rename_i hz
            cases key
            exact ⟨d, e, ok1.dp s q1, ok2.dp s q2, hz.1, hz.2, kk.plain s rfl⟩
          · cases key
theorem op2_isN : Op2 (cx ca C) (OKc C .Is) D.isN := by
  intro d1 d2 d h
  unfold D.isN at h
  split at h
  · cases h
    refine ⟨_, okc_of op_isN, fun F H x y Q s _ _ _ e1 e2 k => ?_⟩
    rw [er_non e2]
    subst e1
    refine ⟨rfl, ?_⟩
    have := k.plain s rfl
    cases x <;> exact this
  · cases h
theorem op2_notN : Op2 (cx ca C) (OKc C .IsNot) D.notN := by
  intro d1 d2 d h
  unfold D.notN at h
  split at h
  · cases h
    refine ⟨_, okc_of op_notN, fun F H x y Q s _ _ _ e1 e2 k => ?_⟩
    rw [er_non e2]
    subst e1
    refine ⟨rfl, ?_⟩
    have := k.plain s rfl
    cases x <;> exact this
  · cases h
/-- what a membership test is worth, by the two kinds of rules -/
theorem isin_rule {op : CmpOp} {neg : Bool} {d1 d2 : D} {k : Bool} (h : D.isin d1 d2 = some k) (hseq : OKc C op (rIn C.K neg)) (hd : OKc C op (fun y x H Q => ∃ a o, x = .ref a ∧ DGet H a y o ∧ Q (.bl (if neg then !o.isSome else o.isSome)) H))
    (hs : OKc C op (fun x y H Q => ∃ (c : Nat) (z : Str), x = .str ⟨#[c]⟩ ∧ y = .str z ∧ Q (.bl (if neg then !decide (c ∈ z.cps.toList) else decide (c ∈ z.cps.toList))) H)) :
    ∃ r2 : R2, OKc C op r2 ∧ ∀ (F H : Hp) (x y : A) (Q : VK), Sub F H → Ok (cx ca C) F H x → Ok (cx ca C) F H y → er x = d1 → er y = d2 → Q (.bl (if neg then !k else k)) H → r2 (val x) (val y) H Q := by
  unfold D.isin at h
  split at h
  · split at h
    · rename_i hz
      cases h
      refine ⟨_, hseq, fun F H x y Q s ok1 ok2 e1 e2 q => ?_⟩
      subst e1
      obtain ⟨a, ys, rfl, ey⟩ := er_nd e2
      subst ey
      refine ⟨a.1, ys.map val, rfl, .inl (SqL.of (ok2.at_ s)), flat_val hz.1, ?_, ?_⟩
      · rw [List.all_eq_true]
        intro v hv
        obtain ⟨y, hy, rfl⟩ := List.mem_map.mp hv
        exact flat_val (allplain hz.2 y hy)
      · rw [inV_val hz.1 hz.2]; exact q
    · cases h
  · split at h
    · rename_i hz
      cases h
      refine ⟨_, hseq, fun F H x y Q s ok1 ok2 e1 e2 q => ?_⟩
      subst e1
      obtain ⟨a, ys, rfl, ey⟩ := er_nd e2
      subst ey
      refine ⟨a.1, ys.map val, rfl, .inr (ok2.at_ s), flat_val hz.1, ?_, ?_⟩
      · rw [List.all_eq_true]
        intro v hv
        obtain ⟨y, hy, rfl⟩ := List.mem_map.mp hv
        exact flat_val (allplain hz.2 y hy)
      · rw [inV_val hz.1 hz.2]; exact q
    · cases h
  · split at h
    · rename_i hz
      cases h
      refine ⟨_, hseq, fun F H x y Q s ok1 ok2 e1 e2 q => ?_⟩
      subst e1
      obtain ⟨a, ys, rfl, ey⟩ := er_nd e2
      subst ey
      refine ⟨a.1, ys.map val, rfl, .inl (ok2.at_ s), flat_val hz.1, ?_, ?_⟩
      · rw [List.all_eq_true]
        intro v hv
        obtain ⟨y, hy, rfl⟩ := List.mem_map.mp hv
        exact flat_val (allplain hz.2 y hy)
      · rw [inV_val hz.1 hz.2]; exact q
    · cases h
  · rename_i x0 ks m0 a0 ys0
    cases hk : D.key d1 with
    | none => rw [hk] at h; cases h
    | some key =>
      rw [hk] at h
      cases h
      refine ⟨_, hd, fun F H x y Q s ok1 ok2 e1 e2 q => ?_⟩
      subst e1
      obtain ⟨a, ys, rfl, ey⟩ := er_nd e2
      refine ⟨a.1, valV (ks.zip (ys.map val)) key, rfl, .inl ⟨_, key, ok2.at_ s, key_val hk, rfl⟩, ?_⟩
      have hl : ks.length = (ys.map val).length := by rw [List.length_map]; exact ok2.shp.1
      rw [valV_zip, look_some hl]
      exact q
  · rename_i c z
    split at h
    · rename_i n hn
      cases h
      refine ⟨_, hs, fun F H x y Q s ok1 ok2 e1 e2 q => ?_⟩
      rw [er_str e1, er_str e2]
      have ec : c = ⟨#[n]⟩ := by
        cases c with
        | mk cps =>
          have : cps = #[n] := by rw [← Array.toArray_toList (xs := cps)]; rw [show cps.toList = [n] from hn]
          rw [this]
      exact ⟨n, z, by rw [ec]; rfl, rfl, q⟩
    · cases h
  · cases h
theorem op2_in (hu : C.A.units + 1 < cLine) : Op2 (cx ca C) (OKc C .In) D.in_ := by
  intro d1 d2 d h
  unfold D.in_ at h
  cases hq : D.isin d1 d2 with
  | none => rw [hq] at h; cases h
  | some k =>
    rw [hq] at h
    cases h
    obtain ⟨r2, ho, hr⟩ := isin_rule (ca := ca) (C := C) (op := .In) (neg := false) hq (okc_of op_in_seq) (okc_din hu) (okc_of op_in_sign)
    exact ⟨r2, ho, fun F H x y Q s ok1 ok2 _ e1 e2 kk => hr F H x y Q s ok1 ok2 e1 e2 (kk.plain s rfl)⟩
theorem op2_notin (hu : C.A.units + 1 < cLine) : Op2 (cx ca C) (OKc C .NotIn) D.notin := by
  intro d1 d2 d h
  unfold D.notin at h
  cases hq : D.isin d1 d2 with
  | none => rw [hq] at h; cases h
  | some k =>
    rw [hq] at h
    cases h
    obtain ⟨r2, ho, hr⟩ := isin_rule (ca := ca) (C := C) (op := .NotIn) (neg := true) hq (okc_of op_notIn_seq) (okc_dnotin hu) (okc_of op_notIn_sign)
    exact ⟨r2, ho, fun F H x y Q s ok1 ok2 _ e1 e2 kk => hr F H x y Q s ok1 ok2 e1 e2 (kk.plain s rfl)⟩
end
end Vl
/-! The value layer, 6: places, looks, settling a place. -/
namespace Vl
open PySem PySem.Spec PyProof.Rows L2

section
variable {α β : Type}
mutual
/-- the node at the way p turned by f -/
def T.mod (f : T α → T α) : T α → List Nat → T α
  | t, [] => f t
  | .nd k m a xs, i :: p => .nd k m a (modL f xs i p)
  | t, _ :: _ => t
def modL (f : T α → T α) : List (T α) → Nat → List Nat → List (T α)
  | [], _, _ => []
  | x :: xs, 0, p => x.mod f p :: xs
  | x :: xs, i + 1, p => x :: modL f xs i p
end
theorem modL_len (f : T α → T α) : ∀ (xs : List (T α)) (i : Nat) (p : List Nat), (modL f xs i p).length = xs.length
  | [], _, _ => rfl
  | x :: xs, 0, p => rfl
  | x :: xs, i + 1, p => by rw [modL, List.length_cons, modL_len f xs i p, List.length_cons]
theorem getT_nil (t : T α) : getT t [] = some t := by cases t <;> rfl
theorem getT_cons {t : T α} {i : Nat} {p : List Nat} {x : T α} (h : getT t (i :: p) = some x) : ∃ k m a xs y, t = .nd k m a xs ∧ xs[i]? = some y ∧ getT y p = some x := by
  cases t with
  | nd k m a xs =>
    have h : (match xs[i]? with | some x => getT x p | none => none) = some x := h
    cases e : xs[i]? with
    | none => rw [e] at h; cases h
    | some y => rw [e] at h; exact ⟨k, m, a, xs, y, rfl, e, h⟩
  | _ => cases h
theorem getT_nd {k : Kd} {m : Mk} {a : α} {xs : List (T α)} {i : Nat} {p : List Nat} {y : T α} (h : xs[i]? = some y) : getT (.nd k m a xs) (i :: p) = getT y p := by
  show (match xs[i]? with | some x => getT x p | none => none) = getT y p
  rw [h]
theorem getT_append : ∀ {p q : List Nat} {t x : T α}, getT t p = some x → getT t (p ++ q) = getT x q
  | [], q, t, x, h => by rw [getT_nil] at h; cases h; rfl
  | i :: p, q, t, x, h => by
    obtain ⟨k, m, a, xs, y, rfl, hy, hx⟩ := getT_cons h
    show getT (.nd k m a xs) (i :: (p ++ q)) = _
    rw [getT_nd hy]
    exact getT_append hx
theorem mapL_get (f : α → β) (xs : List (T α)) (i : Nat) : (mapL f xs)[i]? = xs[i]?.map (T.map f) := by rw [mapL_eq, List.getElem?_map]
theorem getT_map (f : α → β) : ∀ {p : List Nat} {t : T α}, getT (t.map f) p = (getT t p).map (T.map f)
  | [], t => by rw [getT_nil, getT_nil]; rfl
  | i :: p, .nd k m a xs => by
    show (match (mapL f xs)[i]? with | some x => getT x p | none => none) = (match xs[i]? with | some x => getT x p | none => none).map (T.map f)
    rw [mapL_get]
    cases e : xs[i]? with
    | none => rfl
    | some y => exact getT_map f
  | i :: p, .non => rfl
  | i :: p, .bl _ => rfl
  | i :: p, .int _ => rfl
  | i :: p, .str _ => rfl
theorem mkL_get (g : Mk → Mk) (xs : List (T α)) (i : Nat) : (mkL g xs)[i]? = xs[i]?.map (T.mk g) := by rw [mkL_eq, List.getElem?_map]
theorem getT_mk (g : Mk → Mk) : ∀ {p : List Nat} {t : T α}, getT (t.mk g) p = (getT t p).map (T.mk g)
  | [], t => by rw [getT_nil, getT_nil]; rfl
  | i :: p, .nd k m a xs => by
    show (match (mkL g xs)[i]? with | some x => getT x p | none => none) = (match xs[i]? with | some x => getT x p | none => none).map (T.mk g)
    rw [mkL_get]
    cases e : xs[i]? with
    | none => rfl
    | some y => exact getT_mk g
  | i :: p, .non => rfl
  | i :: p, .bl _ => rfl
  | i :: p, .int _ => rfl
  | i :: p, .str _ => rfl
/-- turning commutes with forgetting the addresses -/
theorem mod_map (f : α → β) {g : T α → T α} {g' : T β → T β} : ∀ {p : List Nat} {t x : T α}, getT t p = some x → (g x).map f = g' (x.map f) → (t.mod g p).map f = (t.map f).mod g' p
  | [], t, x, h, e => by
    rw [getT_nil] at h; cases h
    have h1 : t.mod g [] = g t := by cases t <;> rfl
    have h2 : (t.map f).mod g' [] = g' (t.map f) := by cases t <;> rfl
    rw [h1, h2, e]
  | i :: p, t, x, h, e => by
    obtain ⟨k, m, a, xs, y, rfl, hy, hx⟩ := getT_cons h
    show T.nd k m (f a) (mapL f (modL g xs i p)) = T.nd k m (f a) (modL g' (mapL f xs) i p)
    have key : ∀ (xs : List (T α)) (i : Nat), xs[i]? = some y → mapL f (modL g xs i p) = modL g' (mapL f xs) i p := by
      intro xs
      induction xs with
      | nil => intro i hy; cases hy
      | cons z zs ih =>
        intro i hy
        cases i with
        | zero =>
          have : z = y := Option.some.inj hy
          subst this
          show (z.mod g p).map f :: mapL f zs = (z.map f).mod g' p :: mapL f zs
          rw [mod_map f hx e]
        | succ i =>
          show z.map f :: mapL f (modL g zs i p) = z.map f :: modL g' (mapL f zs) i p
          rw [ih i hy]
    rw [key xs i hy]
/-- turning keeps what a marks' turn forgets -/
theorem mod_mk {h : Mk → Mk} {g : T α → T α} : ∀ {p : List Nat} {t x : T α}, getT t p = some x → (g x).mk h = x.mk h → (t.mod g p).mk h = t.mk h
  | [], t, x, e, q => by
    rw [getT_nil] at e; cases e
    have h1 : t.mod g [] = g t := by cases t <;> rfl
    rw [h1, q]
  | i :: p, t, x, e, q => by
    obtain ⟨k, m, a, xs, y, rfl, hy, hx⟩ := getT_cons e
    show T.nd k (h m) a (mkL h (modL g xs i p)) = T.nd k (h m) a (mkL h xs)
    have key : ∀ (xs : List (T α)) (i : Nat), xs[i]? = some y → mkL h (modL g xs i p) = mkL h xs := by
      intro xs
      induction xs with
      | nil => intro i hy; cases hy
      | cons z zs ih =>
        intro i hy
        cases i with
        | zero =>
          have : z = y := Option.some.inj hy
          subst this
          show (z.mod g p).mk h :: mkL h zs = z.mk h :: mkL h zs
          rw [mod_mk hx q]
        | succ i =>
          show z.mk h :: mkL h (modL g zs i p) = z.mk h :: mkL h zs
          rw [ih i hy]
    rw [key xs i hy]
end
theorem adr_get {q : Mk} : ∀ {p : List Nat} {t x : A}, getT t p = some x → ∀ a ∈ adr q x, a ∈ adr q t
  | [], t, x, h, a, ha => by rw [getT_nil] at h; cases h; exact ha
  | i :: p, t, x, h, a, ha => by
    obtain ⟨k, m, b, xs, y, rfl, hy, hx⟩ := getT_cons h
    exact adr_nd_kids (adrL_mem (List.mem_of_getElem? hy) (adr_get hx a ha))
theorem Ok.get {X : Ctx} {F H : Hp} : ∀ {p : List Nat} {t x : A}, Ok X F H t → getT t p = some x → Ok X F H x
  | [], t, x, o, h => by rw [getT_nil] at h; cases h; exact o
  | i :: p, t, x, o, h => by
    obtain ⟨k, m, b, xs, y, rfl, hy, hx⟩ := getT_cons h
    exact Ok.get (OkL_iff.mp o.kids y (List.mem_of_getElem? hy)) hx
theorem val_mod {g : A → A} : ∀ {p : List Nat} {t x : A}, getT t p = some x → val (g x) = val x → val (t.mod g p) = val t
  | [], t, x, h, e => by
    rw [getT_nil] at h; cases h
    have h1 : t.mod g [] = g t := by cases t <;> rfl
    rw [h1, e]
  | i :: p, t, x, h, e => by
    obtain ⟨k, m, b, xs, y, rfl, hy, hx⟩ := getT_cons h
    rfl
/-- a tree that owns nothing changed -/
theorem Ok.stay {X : Ctx} {F H F' H' : Hp} {x : A} : Ok X F H x → x.nob = true → (∀ a u, F a = some u → F' a = some u) → (∀ a ∈ own x, H' a = H a ∧ F' a = none) → Ok X F' H' x := by
  have key : ∀ n, ∀ x : A, sizeOf x < n → Ok X F H x → x.nob = true → (∀ a u, F a = some u → F' a = some u) → (∀ a ∈ own x, H' a = H a ∧ F' a = none) → Ok X F' H' x := by
    intro n
    induction n with
    | zero => intro x h; exact absurd h (Nat.not_lt_zero _)
    | succ n ih =>
      intro x hn ok hb hf ho
      cases x with
      | nd k m a xs =>
        obtain ⟨⟨sh, nd⟩, l⟩ := ok
        rw [T.nob, T.all, Bool.and_eq_true] at hb
        refine ⟨⟨sh, ?_⟩, OkL_iff.mpr fun y hy => ?_⟩
        · cases m with
          | c => exact ⟨nd.1.same hf, nd.2⟩
          | o =>
            have hh : ∀ p ∈ ndA k a, H' p = H p ∧ F' p = none := fun p hp => ho p (List.mem_append_left _ (by rw [if_pos rfl]; exact hp))
            exact ⟨nd.1.keep fun p hp => (hh p hp).1, fun p hp => (hh p hp).2, nd.2.2⟩
          | b => exact absurd hb.1 Bool.false_ne_true
        · have hb2 := hb.2
          rw [allL_eq, List.all_eq_true] at hb2
          refine ih y ?_ (OkL_iff.mp l y hy) (hb2 y hy) hf fun p hp => ho p (adr_nd_kids (adrL_mem hy hp))
          have h1 := List.sizeOf_lt_of_mem hy
          have h2 := T.nd.sizeOf_spec k m a xs
          omega
      | _ => trivial
  exact key (sizeOf x + 1) x (Nat.lt_succ_self _)
/-- the root of x is owned -/
def isO : A → Bool
  | .nd _ .o _ _ => true
  | _ => false
theorem own_of_isO {x : A} (h : isO x = true) : ∃ a, a ∈ own x := by
  cases x with
  | nd k m a xs =>
    cases m with
    | o => exact ⟨a.1, List.mem_append_left _ (by rw [if_pos rfl]; exact ndA_fst)⟩
    | _ => cases h
  | _ => cases h
theorem nodup_split {q : Mk} : ∀ {xs : List A} {i : Nat} {y : A}, (adrL q xs).Nodup → xs[i]? = some y → ∀ (j : Nat) (z : A), xs[j]? = some z → j ≠ i → ∀ a ∈ adr q z, a ∉ adr q y
  | x :: xs, 0, y, h, hy, j, z, hz, ne, a, ha, hay => by
    have : x = y := Option.some.inj hy
    subst this
    cases j with
    | zero => exact ne rfl
    | succ j =>
      rw [adrL] at h
      exact (List.nodup_append.mp h).2.2 a hay a (adrL_mem (List.mem_of_getElem? (show xs[j]? = some z from hz)) ha) rfl
  | x :: xs, i + 1, y, h, hy, j, z, hz, ne, a, ha, hay => by
    rw [adrL] at h
    cases j with
    | zero =>
      have : x = z := Option.some.inj hz
      subst this
      exact (List.nodup_append.mp h).2.2 a ha a (adrL_mem (List.mem_of_getElem? (show xs[i]? = some y from hy)) hay) rfl
    | succ j => exact nodup_split (List.nodup_append.mp h).2.1 (show xs[i]? = some y from hy) j z hz (fun e => ne (by rw [e])) a ha hay
theorem mem_modL {α : Type} {f : T α → T α} : ∀ {xs : List (T α)} {i : Nat} {p : List Nat} {w : T α}, w ∈ modL f xs i p → (∃ y, xs[i]? = some y ∧ w = y.mod f p) ∨ ∃ j, j ≠ i ∧ xs[j]? = some w
  | [], _, _, _, h => by cases h
  | x :: xs, 0, p, w, h => by
    rcases List.mem_cons.mp h with rfl | h
    · exact .inl ⟨x, rfl, rfl⟩
    · obtain ⟨j, hj⟩ := List.mem_iff_getElem?.mp h
      exact .inr ⟨j + 1, by omega, hj⟩
  | x :: xs, i + 1, p, w, h => by
    rcases List.mem_cons.mp h with rfl | h
    · exact .inr ⟨0, by omega, rfl⟩
    · rcases mem_modL h with ⟨y, hy, e⟩ | ⟨j, hj, e⟩
      · exact .inl ⟨y, hy, e⟩
      · exact .inr ⟨j + 1, by omega, e⟩
theorem mod_nob {α : Type} {f : T α → T α} : ∀ {p : List Nat} {t x : T α}, t.nob = true → getT t p = some x → (f x).nob = true → (t.mod f p).nob = true
  | [], t, x, h, e, q => by
    rw [getT_nil] at e; cases e
    have h1 : t.mod f [] = f t := by cases t <;> rfl
    rw [h1]; exact q
  | i :: p, t, x, h, e, q => by
    obtain ⟨k, m, b, xs, y, rfl, hy, hx⟩ := getT_cons e
    rw [T.nob, T.all, Bool.and_eq_true] at h
    show (notB m && allL notB (modL f xs i p)) = true
    rw [Bool.and_eq_true, allL_eq, List.all_eq_true]
    have h2 := h.2
    rw [allL_eq, List.all_eq_true] at h2
    refine ⟨h.1, fun w hw => ?_⟩
    rcases mem_modL hw with ⟨y', hy', rfl⟩ | ⟨j, _, hj⟩
    · rw [hy] at hy'; cases hy'
      exact mod_nob (h2 y (List.mem_of_getElem? hy)) hx q
    · exact h2 w (List.mem_of_getElem? hj)
theorem valL_mod {f : A → A} {xs : List A} {i : Nat} {p : List Nat} {y x : A} (hy : xs[i]? = some y) (hx : getT y p = some x) (e : val (f x) = val x) : (modL f xs i p).map val = xs.map val := by
  induction xs generalizing i with
  | nil => rfl
  | cons z zs ih =>
    cases i with
    | zero =>
      have : z = y := Option.some.inj hy
      subst this
      show val (z.mod f p) :: zs.map val = val z :: zs.map val
      rw [val_mod hx e]
    | succ i =>
      show val z :: (modL f zs i p).map val = val z :: zs.map val
      rw [ih (show zs[i]? = some y from hy)]
/-- an owned node within a tree is turned -/
theorem Ok.mod {X : Ctx} {F H F' H' : Hp} {f : A → A} : ∀ {p : List Nat} {t x : A}, Ok X F H t → getT t p = some x → isO x = true → (own t).Nodup → val (f x) = val x → Ok X F' H' (f x) → (f x).nob = true → (∀ a u, F a = some u → F' a = some u) →
    (∀ a ∈ own t, a ∉ own x → H' a = H a ∧ F' a = none) → Ok X F' H' (t.mod f p)
  | [], t, x, ok, h, io, nd, ev, ok', nb, hf, ho => by
    rw [getT_nil] at h; cases h
    have h1 : t.mod f [] = f t := by cases t <;> rfl
    rw [h1]; exact ok'
  | i :: p, t, x, ok, h, io, nd, ev, ok', nb, hf, ho => by
    obtain ⟨k, m, b, xs, y, rfl, hy, hx⟩ := getT_cons h
    obtain ⟨⟨sh, n⟩, l⟩ := ok
    obtain ⟨z, hz⟩ := own_of_isO io
    have hzy := adr_get hx z hz
    have hzx := adrL_mem (List.mem_of_getElem? hy) hzy
    have ndk := nodup_kids nd
    cases m with
    | c => rw [adrL_nil rfl n.2] at hzx; cases hzx
    | b => rw [n.2.1] at hzx; cases hzx
    | o =>
      have hown : ∀ q ∈ ndA k b, q ∈ own (T.nd k .o b xs) := fun q hq => List.mem_append_left _ (by rw [if_pos rfl]; exact hq)
      have hdis : ∀ q ∈ ndA k b, q ∉ own x := fun q hq hqx => by
        have nd' : ((if Mk.o = .o then ndA k b else []) ++ adrL .o xs).Nodup := nd
        rw [if_pos rfl] at nd'
        exact (List.nodup_append.mp nd').2.2 q hq q (adrL_mem (List.mem_of_getElem? hy) (adr_get hx q hqx)) rfl
      have hh : ∀ q ∈ ndA k b, H' q = H q ∧ F' q = none := fun q hq => ho q (hown q hq) (hdis q hq)
      have nbk := n.2.2
      rw [allL_eq, List.all_eq_true] at nbk
      show Ok X F' H' (.nd k .o b (modL f xs i p))
      refine ⟨⟨by rw [modL_len]; exact sh, ?_, fun q hq => (hh q hq).2, ?_⟩, OkL_iff.mpr fun w hw => ?_⟩
      · rw [valL_mod hy hx ev]
        exact n.1.keep fun q hq => (hh q hq).1
      · rw [allL_eq, List.all_eq_true]
        intro w hw
        rcases mem_modL hw with ⟨y', hy', rfl⟩ | ⟨j, _, hj⟩
        · rw [hy] at hy'; cases hy'
          exact mod_nob (nbk y (List.mem_of_getElem? hy)) hx nb
        · exact nbk w (List.mem_of_getElem? hj)
      · rcases mem_modL hw with ⟨y', hy', rfl⟩ | ⟨j, hj, hjw⟩
        · rw [hy] at hy'; cases hy'
          exact Ok.mod (OkL_iff.mp l y (List.mem_of_getElem? hy)) hx io (nodup_of_mem ndk (List.mem_of_getElem? hy)) ev ok' nb hf fun a ha hax => ho a (adr_nd_kids (adrL_mem (List.mem_of_getElem? hy) ha)) hax
        · refine Ok.stay (OkL_iff.mp l w (List.mem_of_getElem? hjw)) (nbk w (List.mem_of_getElem? hjw)) hf fun a ha => ho a (adr_nd_kids (adrL_mem (List.mem_of_getElem? hjw) ha)) fun hax => ?_
          exact nodup_split ndk hy j w hjw hj a ha (adr_get hx a hax)
end Vl
/-! The value layer, 7: a place in a frame turned; looks; settling. -/
namespace Vl
open PySem PySem.Spec PyProof.Rows L2

section
variable {α : Type} {g : α → List Addr}
theorem flat_mem : ∀ {L : List α} {i : Nat} {x y : α} {a : Addr}, L[i]? = some x → (L.flatMap g).Nodup → a ∈ (L.set i y).flatMap g → a ∈ g y ∨ (a ∈ L.flatMap g ∧ a ∉ g x)
  | z :: L, 0, x, y, a, hx, nd, h => by
    have e : z = x := Option.some.inj hx
    subst e
    rw [List.set_cons_zero, List.flatMap_cons] at h
    rw [List.flatMap_cons] at nd ⊢
    rcases List.mem_append.mp h with h | h
    · exact .inl h
    · exact .inr ⟨List.mem_append_right _ h, fun q => (List.nodup_append.mp nd).2.2 a q a h rfl⟩
  | z :: L, i + 1, x, y, a, hx, nd, h => by
    rw [List.set_cons_succ, List.flatMap_cons] at h
    rw [List.flatMap_cons] at nd ⊢
    rcases List.mem_append.mp h with h | h
    · exact .inr ⟨List.mem_append_left _ h, fun q => (List.nodup_append.mp nd).2.2 a h a (List.mem_flatMap.mpr ⟨x, List.mem_of_getElem? (show L[i]? = some x from hx), q⟩) rfl⟩
    · exact (flat_mem (show L[i]? = some x from hx) (List.nodup_append.mp nd).2.1 h).imp id fun q => ⟨List.mem_append_right _ q.1, q.2⟩
theorem flat_nodup : ∀ {L : List α} {i : Nat} {x y : α}, L[i]? = some x → (L.flatMap g).Nodup → (g y).Nodup → (∀ a ∈ g y, a ∈ g x ∨ a ∉ L.flatMap g) → ((L.set i y).flatMap g).Nodup
  | z :: L, 0, x, y, hx, nd, ny, h => by
    have e : z = x := Option.some.inj hx
    subst e
    rw [List.set_cons_zero, List.flatMap_cons]
    rw [List.flatMap_cons] at nd h
    have q := List.nodup_append.mp nd
    refine List.nodup_append.mpr ⟨ny, q.2.1, fun a ha b hb e => ?_⟩
    subst e
    rcases h a ha with h | h
    · exact q.2.2 a h a hb rfl
    · exact h (List.mem_append_right _ hb)
  | z :: L, i + 1, x, y, hx, nd, ny, h => by
    rw [List.set_cons_succ, List.flatMap_cons]
    rw [List.flatMap_cons] at nd h
    have hx' : L[i]? = some x := hx
    have q := List.nodup_append.mp nd
    refine List.nodup_append.mpr ⟨q.1, flat_nodup hx' q.2.1 ny fun a ha => (h a ha).imp id fun w z => w (List.mem_append_right _ z), fun a ha b hb e => ?_⟩
    subst e
    rcases flat_mem hx' q.2.1 hb with w | w
    · rcases h a w with v | v
      · exact q.2.2 a ha a (List.mem_flatMap.mpr ⟨x, List.mem_of_getElem? hx', v⟩) rfl
      · exact v (List.mem_append_left _ ha)
    · exact q.2.2 a ha a w.1 rfl
end
theorem modL_set {α : Type} {f : T α → T α} : ∀ {xs : List (T α)} {i : Nat} {p : List Nat} {y : T α}, xs[i]? = some y → modL f xs i p = xs.set i (y.mod f p)
  | x :: xs, 0, p, y, h => by
    have e : x = y := Option.some.inj h
    subst e
    rfl
  | x :: xs, i + 1, p, y, h => by
    rw [modL, modL_set (show xs[i]? = some y from h)]
    rfl
theorem mod_nil {α : Type} (f : T α → T α) (t : T α) : t.mod f [] = f t := by cases t <;> rfl
/-- what a turned tree owns -/
theorem adr_mod {q : Mk} {f : A → A} : ∀ {p : List Nat} {t x : A}, getT t p = some x → (adr q t).Nodup → (∀ k m a xs, f (.nd k m a xs) = .nd k m a xs ∨ True) → ∀ a ∈ adr q (t.mod f p), a ∈ adr q (f x) ∨ (a ∈ adr q t ∧ a ∉ adr q x)
  | [], t, x, h, nd, _, a, ha => by
    rw [getT_nil] at h; cases h
    rw [mod_nil] at ha
    exact .inl ha
  | i :: p, t, x, h, nd, hf, a, ha => by
    obtain ⟨k, m, b, xs, y, rfl, hy, hx⟩ := getT_cons h
    have ha : a ∈ (if m = q then ndA k b else []) ++ adrL q (modL f xs i p) := ha
    have nd' : ((if m = q then ndA k b else []) ++ adrL q xs).Nodup := nd
    have hn := List.nodup_append.mp nd'
    rcases List.mem_append.mp ha with h1 | h1
    · exact .inr ⟨List.mem_append_left _ h1, fun z => hn.2.2 a h1 a (adrL_mem (List.mem_of_getElem? hy) (adr_get hx a z)) rfl⟩
    · rw [modL_set hy, adrL_eq] at h1
      have hk := hn.2.1
      rw [adrL_eq] at hk
      rcases flat_mem hy hk h1 with h2 | h2
      · rcases adr_mod hx (nodup_of_mem (nodup_kids nd) (List.mem_of_getElem? hy)) hf a h2 with w | w
        · exact .inl w
        · exact .inr ⟨adr_nd_kids (adrL_mem (List.mem_of_getElem? hy) w.1), w.2⟩
      · refine .inr ⟨adr_nd_kids (by rw [adrL_eq]; exact h2.1), fun z => h2.2 (adr_get hx a z)⟩
theorem adr_mod_nodup {q : Mk} {f : A → A} : ∀ {p : List Nat} {t x : A}, getT t p = some x → (adr q t).Nodup → (adr q (f x)).Nodup → (∀ a ∈ adr q (f x), a ∈ adr q x ∨ a ∉ adr q t) → (adr q (t.mod f p)).Nodup
  | [], t, x, h, nd, nf, hd => by
    rw [getT_nil] at h; cases h
    rw [mod_nil]; exact nf
  | i :: p, t, x, h, nd, nf, hd => by
    obtain ⟨k, m, b, xs, y, rfl, hy, hx⟩ := getT_cons h
    have nd' : ((if m = q then ndA k b else []) ++ adrL q xs).Nodup := nd
    have hn := List.nodup_append.mp nd'
    have hk := hn.2.1
    have hym := List.mem_of_getElem? hy
    have ny : (adr q (y.mod f p)).Nodup := adr_mod_nodup hx (nodup_of_mem (nodup_kids nd) hym) nf fun a ha => (hd a ha).imp id fun w z => w (adr_nd_kids (adrL_mem hym z))
    have my : ∀ a ∈ adr q (y.mod f p), a ∈ adr q y ∨ a ∉ adr q (T.nd k m b xs) := fun a ha => by
      rcases adr_mod hx (nodup_of_mem (nodup_kids nd) hym) (fun _ _ _ _ => .inr trivial) a ha with w | w
      · rcases hd a w with v | v
        · exact .inl (adr_get hx a v)
        · exact .inr v
      · exact .inl w.1
    show ((if m = q then ndA k b else []) ++ adrL q (modL f xs i p)).Nodup
    rw [modL_set hy, adrL_eq]
    rw [adrL_eq] at hk
    refine List.nodup_append.mpr ⟨hn.1, flat_nodup hy hk ny fun a ha => (my a ha).imp id fun w z => w (adr_nd_kids (by rw [adrL_eq]; exact z)), fun a ha c hc e => ?_⟩
    subst e
    rcases flat_mem hy hk hc with w | w
    · rcases my a w with v | v
      · exact hn.2.2 a ha a (adrL_mem hym v) rfl
      · exact v (List.mem_append_left _ ha)
    · exact hn.2.2 a ha a (by rw [adrL_eq]; exact w.1) rfl
theorem root_nob {X : Ctx} {F H : Hp} : ∀ {p : List Nat} {t x : A}, Ok X F H t → getT t p = some x → isO x = true → t.nob = true
  | [], t, x, ok, h, io => by
    rw [getT_nil] at h; cases h
    cases t with
    | nd k m a xs =>
      cases m with
      | o =>
        rw [T.nob, T.all, Bool.and_eq_true]
        exact ⟨rfl, ok.1.2.2.2⟩
      | _ => cases io
    | _ => cases io
  | i :: p, t, x, ok, h, io => by
    obtain ⟨k, m, b, xs, y, rfl, hy, hx⟩ := getT_cons h
    obtain ⟨z, hz⟩ := own_of_isO io
    have hzx := adrL_mem (List.mem_of_getElem? hy) (adr_get hx z hz)
    obtain ⟨⟨sh, n⟩, l⟩ := ok
    cases m with
    | c => rw [adrL_nil rfl n.2] at hzx; cases hzx
    | b => rw [n.2.1] at hzx; cases hzx
    | o =>
      rw [T.nob, T.all, Bool.and_eq_true]
      exact ⟨rfl, n.2.2⟩

theorem set_same {α : Type} : ∀ {L : List α} {i : Nat} {x : α}, L[i]? = some x → L.set i x = L
  | y :: L, 0, x, h => by
    have e : y = x := Option.some.inj h
    subst e
    rfl
  | y :: L, i + 1, x, h => by rw [List.set_cons_succ, set_same (show L[i]? = some x from h)]
/-! ### in a frame -/
def modS {α : Type} (f : T α → T α) (r : List (Option (T α))) (i : Nat) (p : List Nat) : List (Option (T α)) := match r[i]? with
  | some (some t) => r.set i (some (t.mod f p))
  | _ => r
theorem modS_at {α : Type} {f : T α → T α} {r : List (Option (T α))} {i : Nat} {p : List Nat} {t : T α} (h : r[i]? = some (some t)) : modS f r i p = r.set i (some (t.mod f p)) := by
  unfold modS; rw [h]
theorem erR_get {r : AR} {i : Nat} : (erR r)[i]? = r[i]?.map (Option.map er) := by unfold erR; rw [List.getElem?_map]
theorem getR_er {r : AR} {i : Nat} {p : List Nat} {d : D} (h : getR (erR r) i p = some d) : ∃ x0 x, r[i]? = some (some x0) ∧ getT x0 p = some x ∧ er x = d := by
  unfold getR at h
  rw [erR_get] at h
  cases e : r[i]? with
  | none => rw [e] at h; cases h
  | some o =>
    rw [e] at h
    cases o with
    | none => cases h
    | some x0 =>
      have h : getT (er x0) p = some d := h
      rw [getT_map] at h
      cases q : getT x0 p with
      | none => rw [q] at h; cases h
      | some x => rw [q] at h; exact ⟨x0, x, rfl, q, Option.some.inj h⟩
section
variable {X : Ctx} {F F' H H' : Hp} {r : AR} {σ : St} {i : Nat} {p : List Nat} {x0 x : A} {f : A → A}
theorem slot_mem (h : r[i]? = some (some x0)) : some x0 ∈ r := List.mem_of_getElem? h
theorem Stt.slotOk (s : Stt X F H r σ) (h : r[i]? = some (some x0)) : Ok X F H x0 := s.ok x0 (slot_mem h)
theorem Stt.slotNd (s : Stt X F H r σ) (h : r[i]? = some (some x0)) : (own x0).Nodup := by
  have key : ∀ {L : AR}, (adrR .o L).Nodup → some x0 ∈ L → (own x0).Nodup := by
    intro L
    induction L with
    | nil => intro _ h; cases h
    | cons o L ih =>
      intro nd hm
      unfold adrR at nd
      rw [List.flatMap_cons] at nd
      rcases List.mem_cons.mp hm with e | hm
      · subst e; exact (List.nodup_append.mp nd).1
      · exact ih (List.nodup_append.mp nd).2.1 hm
  exact key s.nd (slot_mem h)
theorem Stt.own_sub (h : r[i]? = some (some x0)) : ∀ a ∈ own x0, a ∈ adrR .o r := fun a ha => mem_adrR.mpr ⟨x0, slot_mem h, ha⟩
/-- a slot's owned node is turned: the state behind it -/
theorem Stt.mod (s : Stt X F H r σ) (hi : r[i]? = some (some x0)) (hx : getT x0 p = some x) (io : isO x = true) (ev : Vl.val (f x) = Vl.val x) (ok' : Ok X F' H' (f x)) (nb : (f x).nob = true) (nd' : (own (f x)).Nodup)
    (ow : ∀ a ∈ own (f x), a ∈ own x ∨ a ∉ adrR .o r) (bs : ∀ b ∈ adrR .b r, b ∉ own (f x) ∨ b ∈ adrR .o r) (hf : ∀ a u, F a = some u → F' a = some u) (hh : ∀ a u, a ∉ own x → H a = some u → H' a = some u) (fr : ∀ a ∈ adrR .o r, a ∉ own x → F' a = none) (sub : Sub F' H') :
    Stt X F' H' (modS f r i p) σ := by
  have e := modS_at (f := f) (p := p) hi
  have rn := root_nob (s.slotOk hi) hx io
  have hset : ∀ y, some y ∈ modS f r i p → y = x0.mod f p ∨ ∃ j, j ≠ i ∧ r[j]? = some (some y) := fun y hy => by
    rw [e] at hy
    obtain ⟨j, hj⟩ := List.mem_iff_getElem?.mp hy
    by_cases q : j = i
    · subst q
      rw [List.getElem?_set_self (by exact (List.getElem?_eq_some_iff.mp hi).1)] at hj
      exact .inl (Option.some.inj (Option.some.inj hj)).symm
    · rw [List.getElem?_set_ne (Ne.symm q)] at hj
      exact .inr ⟨j, q, hj⟩
  have hg : ∀ q, adrR q (modS f r i p) = (r.set i (some (x0.mod f p))).flatMap (adrO q) := fun q => by rw [e]; rfl
  have far : ∀ (j : Nat) (y : A), j ≠ i → r[j]? = some (some y) → ∀ a ∈ own y, a ∉ own x0 := by
    have key : ∀ {L : AR} {i j : Nat} {y : A}, (L.flatMap (adrO .o)).Nodup → L[i]? = some (some x0) → j ≠ i → L[j]? = some (some y) → ∀ a ∈ own y, a ∉ own x0 := by
      intro L
      induction L with
      | nil => intro i j y _ h; cases h
      | cons o L ih =>
        intro i j y nd hi hj hjy a ha hax
        rw [List.flatMap_cons] at nd
        have q := List.nodup_append.mp nd
        cases i with
        | zero =>
          have : o = some x0 := Option.some.inj hi
          subst this
          cases j with
          | zero => exact hj rfl
          | succ j => exact q.2.2 a hax a (List.mem_flatMap.mpr ⟨some y, List.mem_of_getElem? (show L[j]? = _ from hjy), ha⟩) rfl
        | succ i =>
          cases j with
          | zero =>
            have : o = some y := Option.some.inj hjy
            subst this
            exact q.2.2 a ha a (List.mem_flatMap.mpr ⟨some x0, List.mem_of_getElem? (show L[i]? = _ from hi), hax⟩) rfl
          | succ j => exact ih q.2.1 (show L[i]? = _ from hi) (fun z => hj (by rw [z])) (show L[j]? = _ from hjy) a ha hax
    exact fun j y hj hjy => key s.nd hi hj hjy
  refine ⟨?_, fun y hy => ?_, ?_, fun b hb => ?_, sub, s.fx⟩
  · rw [s.val, e]
    unfold valR
    rw [List.map_set]
    have ee : (Option.map Vl.val (some (x0.mod f p))) = some (Vl.val x0) := by
      show some (Vl.val (x0.mod f p)) = _
      rw [val_mod hx ev]
    rw [ee]
    have hv : (List.map (Option.map Vl.val) r)[i]? = some (some (Vl.val x0)) := by rw [List.getElem?_map, hi]; rfl
    exact (set_same hv).symm
  · rcases hset y hy with rfl | ⟨j, hj, hjy⟩
    · exact (s.slotOk hi).mod hx io (s.slotNd hi) ev ok' nb hf fun a ha hax => by
        have hin := Stt.own_sub hi a ha
        obtain ⟨h1, h2⟩ := s.own_there hin
        refine ⟨?_, fr a hin hax⟩
        cases q : H a with
        | none => exact absurd q h1
        | some u => exact hh a u hax q
    · have hyr : some y ∈ r := List.mem_of_getElem? hjy
      have oky := s.ok y hyr
      have hno : ∀ a ∈ own y, a ∉ own x := fun a ha hax => far j y hj hjy a ha (adr_get hx a hax)
      -- nothing of y stands at an address of x
      have key : ∀ n, ∀ z : A, sizeOf z < n → Ok X F H z → (∀ a ∈ own z, a ∈ adrR .o r ∧ a ∉ own x) → (∀ b ∈ bor z, b ∈ adrR .b r) → Ok X F' H' z := by
        intro n
        induction n with
        | zero => intro z h; exact absurd h (Nat.not_lt_zero _)
        | succ n ih =>
          intro z hn ok ho hbz
          cases z with
          | nd k m a xs =>
            obtain ⟨⟨sh, nn⟩, l⟩ := ok
            refine ⟨⟨sh, ?_⟩, OkL_iff.mpr fun w hw => ih w ?_ (OkL_iff.mp l w hw) (fun c hc => ho c (adr_nd_kids (adrL_mem hw hc))) fun c hc => hbz c (adr_nd_kids (adrL_mem hw hc))⟩
            · cases m with
              | c => exact ⟨nn.1.same hf, nn.2⟩
              | o =>
                have hh2 : ∀ c ∈ ndA k a, H' c = H c ∧ F' c = none := fun c hc => by
                  have w := ho c (List.mem_append_left _ (by rw [if_pos rfl]; exact hc))
                  refine ⟨?_, fr c w.1 w.2⟩
                  cases q : H c with
                  | none => exact absurd q (nn.1.there c hc)
                  | some u => exact hh c u w.2 q
                exact ⟨nn.1.keep fun c hc => (hh2 c hc).1, fun c hc => (hh2 c hc).2, nn.2.2⟩
              | b =>
                refine ⟨?_, nn.2.1, ?_⟩
                rotate_left
                · intro c hc
                  have w := hbz c (List.mem_append_left _ (by rw [if_pos rfl]; exact hc))
                  have nx : c ∉ own x := fun hcx => s.bd c w (Stt.own_sub hi c (adr_get hx c hcx))
                  cases e : H c with
                  | none => exact absurd e (nn.2.2 c hc)
                  | some u => rw [hh c u nx e]; exact fun z => by cases z
                have hb2 : ∀ c ∈ ndA k a, c ∉ own x := fun c hc hcx => by
                  have w := hbz c (List.mem_append_left _ (by rw [if_pos rfl]; exact hc))
                  exact s.bd c w (Stt.own_sub hi c (adr_get hx c hcx))
                have rd : ∀ {c u}, c ∉ own x → Rd H c u → Rd H' c u := fun {c u} hc h => by
                  rcases h with h | ⟨o, h⟩
                  · exact .inl (hh _ _ hc h)
                  · exact .inr ⟨o, hh _ _ hc h⟩
                have n1 := hb2 a.1 ndA_fst
                cases k with
                | lst => exact hh _ _ n1 nn.1
                | scr => exact nn.1.imp (rd n1) id
                | tup => exact nn.1.imp (rd n1) id
                | dct ks => exact rd n1 nn.1
                | ins C fs => exact ⟨hh _ _ n1 nn.1.1, hh _ _ (hb2 a.2 (by simp [ndA])) nn.1.2⟩
            · have h1 := List.sizeOf_lt_of_mem hw
              have h2 := T.nd.sizeOf_spec k m a xs
              omega
          | _ => trivial
      exact key _ y (Nat.lt_succ_self _) oky (fun a ha => ⟨mem_adrR.mpr ⟨y, hyr, ha⟩, hno a ha⟩) fun b hb => mem_adrR.mpr ⟨y, hyr, hb⟩
  · rw [hg]
    refine flat_nodup (x := some x0) hi s.nd (adr_mod_nodup hx (s.slotNd hi) nd' fun a ha => (ow a ha).imp id fun w z => w (Stt.own_sub hi a z)) fun a ha => ?_
    rcases adr_mod hx (s.slotNd hi) (fun _ _ _ _ => .inr trivial) a ha with w | w
    · rcases ow a w with v | v
      · exact .inl (adr_get hx a v)
      · exact .inr v
    · exact .inl w.1
  · have hb' : b ∈ adrR .b r := by
      obtain ⟨y, hy, hby⟩ := mem_adrR.mp hb
      rcases hset y hy with rfl | ⟨j, hj, hjy⟩
      · have q0 : adr .b (x0.mod f p) = [] := nob_bor (mod_nob rn hx nb)
        rw [q0] at hby; cases hby
      · exact mem_adrR.mpr ⟨y, List.mem_of_getElem? hjy, hby⟩
    intro hbo
    rw [hg] at hbo
    have hbx := s.bd b hb'
    rcases flat_mem (x := some x0) hi s.nd hbo with w | w
    · rcases adr_mod hx (s.slotNd hi) (fun _ _ _ _ => .inr trivial) b w with v | v
      · rcases bs b hb' with u | u
        · exact u v
        · exact hbx u
      · exact hbx (Stt.own_sub hi b v.1)
    · exact hbx w.1
theorem erR_mod {g : D → D} (hi : r[i]? = some (some x0)) (hx : getT x0 p = some x) (e : er (f x) = g (er x)) : erR (modS f r i p) = modS g (erR r) i p := by
  have hi' : (erR r)[i]? = some (some (er x0)) := by rw [erR_get, hi]; rfl
  rw [modS_at hi, modS_at hi']
  unfold erR
  rw [List.map_set]
  show (List.map (Option.map er) r).set i (some (er (x0.mod f p))) = _
  rw [show er (x0.mod f p) = T.mod g (er x0) p from mod_map _ hx e]
end
end Vl
/-! The value layer, 8: places as expressions, looks, settling; tests; subscripts; lengths; slices; displays. -/
namespace Vl
open PySem PySem.Spec PyProof.Rows L2

def PostP (X : Ctx) (W : WX) (σ : St) (F H : Hp) (r : AR) (res : R (Nat × List Nat)) (Q : VK) : Prop := match res with
  | .bad => False
  | .ok q ρ' => ∀ F' H' r' x0 x, Grow F H r F' H' r' → Stt X F' H' r' σ → erR r' = ρ' → r'[q.1]? = some (some x0) → getT x0 q.2 = some x → Q (val x) H'
  | .exc C fs ρ' => ∀ F' H' r' dx, Grow F H r F' H' r' → Stt X F' H' r' σ → erR r' = ρ' → XOk X F' H' dx fs → W (.ref (X.ca C)) dx σ H'
def rdP (X : Ctx) (W : WX) (f : Pv) (ρ : Env) : TE := fun σ H Q => ∃ F r, Stt X F H r σ ∧ erR r = ρ ∧ PostP X W σ F H r (f ρ) Q
/-- the expression e is the place f -/
structure CP (ca : Ca) (C : Cx) (W : WX) (e : Expr) (f : Pv) : Prop where
  run : ∀ ρ, PE C e (rdP ⟨C.K, ca.f, ca.fix⟩ W f ρ)
def E.tk (p : Pv) : Ev := fun ρ => (p ρ).bind fun q ρ1 => match getR ρ1 q.1 q.2 with
  | some d => if d.cold = true then .ok d ρ1 else if d.nob = true then .ok d.fz (modS T.fz ρ1 q.1 q.2) else .bad
  | none => .bad
theorem flat_set_eq {α : Type} {g : α → List Addr} : ∀ {L : List α} {i : Nat} {x y : α}, L[i]? = some x → g y = g x → (L.set i y).flatMap g = L.flatMap g
  | z :: L, 0, x, y, h, e => by
    have e1 : z = x := Option.some.inj h
    subst e1
    rw [List.set_cons_zero, List.flatMap_cons, List.flatMap_cons, e]
  | z :: L, i + 1, x, y, h, e => by
    rw [List.set_cons_succ, List.flatMap_cons, List.flatMap_cons, flat_set_eq (show L[i]? = some x from h) e]
section
variable {X : Ctx} {F F' H H' : Hp} {r : AR} {σ : St} {i : Nat} {p : List Nat} {x0 x : A}
theorem isO_of {x : A} (ok : Ok X F H x) (nb : x.nob = true) (nc : ¬ x.cold = true) : isO x = true := by
  cases x with
  | nd k m a xs =>
    cases m with
    | o => rfl
    | c => exact absurd (by rw [T.cold, T.all, Bool.and_eq_true]; exact ⟨rfl, ok.1.2.2⟩) nc
    | b => rw [T.nob, T.all, Bool.and_eq_true] at nb; exact absurd nb.1 Bool.false_ne_true
  | _ => exact absurd rfl nc
/-- an owned node of a slot is settled -/
theorem Stt.settle (s : Stt X F H r σ) (hi : r[i]? = some (some x0)) (hx : getT x0 p = some x) (io : isO x = true) (nb : x.nob = true) :
    Stt X (frz F H (own x)) H (modS T.fz r i p) σ ∧ Grow F H r (frz F H (own x)) H (modS T.fz r i p) ∧ Ok X (frz F H (own x)) H x.fz := by
  have okx := (s.slotOk hi).get hx
  have sub : ∀ a ∈ own x, a ∈ adrR .o r := fun a ha => Stt.own_sub hi a (adr_get hx a ha)
  have ff : ∀ a u, F a = some u → frz F H (own x) a = some u := fun a u q => by
    rw [frz_out (fun ha => by rw [(okx.own_there a ha).2] at q; cases q)]; exact q
  have okf : Ok X (frz F H (own x)) H x.fz := okx.fz nb ff fun a ha => frz_in ha
  have cf := fz_cold x
  have rn := root_nob (s.slotOk hi) hx io
  have sb : Sub (frz F H (own x)) H := fun a u q => by
    by_cases ha : a ∈ own x
    · rw [frz_in ha] at q; exact .inl q
    · rw [frz_out ha] at q; exact s.sub a u q
  have e := modS_at (f := T.fz) (p := p) hi
  refine ⟨s.mod hi hx io (val_mk _ x) okf (allL_isC_nob cf) (by rw [cold_own cf]; exact List.nodup_nil) (fun a ha => by rw [cold_own cf] at ha; cases ha) (fun b hb => .inl (by rw [cold_own cf]; exact fun z => by cases z)) ff (fun a u _ q => q) (fun a ha hax => by rw [frz_out hax]; exact (s.own_there ha).2) sb,
    ⟨fun _ _ q => q, ff, fun a q q' => ?_, fun a ha => ?_, fun b => ?_, ?_⟩, okf⟩
  · by_cases ha : a ∈ own x
    · exact .inr (sub a ha)
    · rw [frz_out ha] at q'; exact absurd q q'
  · rw [e] at ha
    have ha : a ∈ (r.set i (some (x0.mod T.fz p))).flatMap (adrO .o) := ha
    rcases flat_mem (x := some x0) hi s.nd ha with w | w
    · rcases adr_mod hx (s.slotNd hi) (fun _ _ _ _ => .inr trivial) a w with v | v
      · have v : a ∈ own x.fz := v
        rw [cold_own cf] at v; cases v
      · exact Stt.own_sub hi a v.1
    · exact w.1
  · rw [e]
    have q1 : adr .b (x0.mod T.fz p) = [] := nob_bor (mod_nob rn hx (allL_isC_nob cf))
    have q2 : adr .b x0 = [] := nob_bor rn
    have q : adrR .b (r.set i (some (x0.mod T.fz p))) = adrR .b r := flat_set_eq (g := adrO .b) (x := some x0) hi (by show adr .b _ = adr .b _; rw [q1, q2])
    rw [q]
  · rw [e]
    unfold fzR
    rw [List.map_set]
    have h1 : (List.map (Option.map T.fz) r)[i]? = some (some x0.fz) := by rw [List.getElem?_map, hi]; rfl
    have h2 : Option.map T.fz (some (x0.mod T.fz p)) = some x0.fz := by
      show some (T.fz (x0.mod T.fz p)) = some x0.fz
      rw [show T.fz (x0.mod T.fz p) = x0.fz from mod_mk hx (by
        show (x.mk calm).mk calm = x.mk calm
        exact T.mk_cold rfl cf)]
    rw [h2]
    exact set_same h1
where
  allL_isC_nob {x : A} (h : x.cold = true) : x.nob = true := T.all_imp (fun m hm => by cases m <;> first | rfl | exact absurd hm Bool.false_ne_true) h
end
section
variable {ca : Ca} {C : Cx} {W : WX} {e : Expr} {pv : Pv} {f : Ev}
/-- a place looked at -/
theorem ce_at (h : CP ca C W e pv) : CE ca C W e (E.at pv) := ⟨fun ρ => by
  refine PE.mono (h.run ρ) fun σ H Q ⟨F, r, s, e, p⟩ => ⟨F, r, s, e, ?_⟩
  unfold E.at at p
  cases hp : pv ρ with
  | bad => rw [hp] at p; exact p
  | exc c fs ρ1 => rw [hp] at p; exact p
  | ok q ρ1 =>
    rw [hp, R.ok_bind] at p
    intro F1 H1 r1 x0 x g1 s1 e1 hi hx
    have hg : getR ρ1 q.1 q.2 = some (er x) := by
      rw [← e1]
      unfold getR
      rw [erR_get, hi]
      show getT (er x0) q.2 = _
      rw [getT_map, hx]; rfl
    rw [hg] at p
    have okx := (s1.slotOk hi).get hx
    have := p F1 H1 r1 x.vw g1 s1 e1 okx.vw (T.map_mk _ _ x) ⟨by rw [adr_vw_o]; exact List.nodup_nil, by rw [adr_vw_o]; exact fun _ z => (by cases z), fun b hb => ?_⟩
    · rw [show val x.vw = val x from val_mk _ x] at this; exact this
    · rcases adr_vw_b x b hb with w | w
      · exact .inl (g1.ow b (Stt.own_sub hi b (adr_get hx b w)))
      · exact .inr ((g1.bo b).mp (mem_adrR.mpr ⟨x0, slot_mem hi, adr_get hx b w⟩))⟩
/-- a place settled -/
theorem ce_tk (h : CP ca C W e pv) : CE ca C W e (E.tk pv) := ⟨fun ρ => by
  refine PE.mono (h.run ρ) fun σ H Q ⟨F, r, s, e, p⟩ => ⟨F, r, s, e, ?_⟩
  unfold E.tk at p
  cases hp : pv ρ with
  | bad => rw [hp] at p; exact p
  | exc c fs ρ1 => rw [hp] at p; exact p
  | ok q ρ1 =>
    rw [hp, R.ok_bind] at p
    intro F1 H1 r1 x0 x g1 s1 e1 hi hx
    have hg : getR ρ1 q.1 q.2 = some (er x) := by
      rw [← e1]
      unfold getR
      rw [erR_get, hi]
      show getT (er x0) q.2 = _
      rw [getT_map, hx]; rfl
    rw [hg] at p
    have okx := (s1.slotOk hi).get hx
    have hc : (er x).cold = x.cold := T.all_map _ _ x
    have hn : (er x).nob = x.nob := T.all_map _ _ x
    dsimp only at p
    by_cases c : x.cold = true
    · rw [if_pos (hc.trans c)] at p
      exact p F1 H1 r1 x g1 s1 e1 okx rfl (VOk.cold c)
    · rw [if_neg (fun z => c (hc.symm.trans z))] at p
      by_cases n : x.nob = true
      · rw [if_pos (hn.trans n)] at p
        obtain ⟨s2, g2, ok2⟩ := s1.settle hi hx (isO_of okx n c) n
        have := p _ H1 _ x.fz (g1.trans s1 g2) s2 (by rw [erR_mod (g := T.fz) hi hx (T.map_mk _ _ x), e1]) ok2 (T.map_mk _ _ x) (VOk.cold (fz_cold x))
        rw [show val x.fz = val x from val_mk _ x] at this
        exact this
      · rw [if_neg (fun z => n (hn.symm.trans z))] at p
        exact p.elim⟩
theorem cp_var {i : Nat} {x : Str} {pos : Pos} (hN : C.N[i]? = some x := by rfl) (hv : Vis C.env.scope x := by first | exact Or.inl rfl | exact Or.inr (Or.inl rfl) | exact Or.inr (Or.inr rfl)) (hd : (x == ("__debug__" : Str)) = false := by decide)
    (hcd : (x == ("__classdict__" : Str)) = false := by decide) : CP ca C W (.Name x pos) (P.var i) := ⟨fun ρ => by
  refine PE.mono (pe_var hN hv hd hcd) fun σ H Q ⟨F, r, s, e, p⟩ => ?_
  unfold P.var at p
  have er' := erR_get (r := r) (i := i)
  rw [e] at er'
  cases hr : r[i]? with
  | none => rw [er', hr] at p; exact p.elim
  | some o =>
    cases o with
    | none => rw [er', hr] at p; exact p.elim
    | some x0 =>
      rw [er', hr] at p
      exact ⟨val x0, by rw [s.val]; unfold valR; rw [List.getElem?_map, hr]; rfl, p F H r x0 x0 .refl s e hr (getT_nil _)⟩⟩
end
end Vl
/-! The value layer, 9: tests, comparisons, subscripts, lengths, slices, displays, fields. -/
namespace Vl
open PySem PySem.Spec PyProof.Rows L2

/-- the expression e, as a test, is worth f -/
structure CT (ca : Ca) (C : Cx) (W : WX) (e : Expr) (f : Ev) : Prop where
  run : ∀ ρ, PT C e (tTest (rdE ⟨C.K, ca.f, ca.fix⟩ W f ρ))
/-- .. whatever its whole is -/
structure CW (ca : Ca) (C : Cx) (W : WX) (e : Expr) (f : Ev) : Prop where
  run : ∀ ρ, PW C e (tTest (rdE ⟨C.K, ca.f, ca.fix⟩ W f ρ))
def E.and (f g : Ev) : Ev := fun ρ => (f ρ).bind fun d ρ1 => match d with
  | .bl true => g ρ1
  | .bl false => .ok (.bl false) ρ1
  | _ => .bad
def E.or (f g : Ev) : Ev := fun ρ => (f ρ).bind fun d ρ1 => match d with
  | .bl true => .ok (.bl true) ρ1
  | .bl false => g ρ1
  | _ => .bad
def E.ite (c f g : Ev) : Ev := fun ρ => (c ρ).bind fun d ρ1 => match d with
  | .bl true => f ρ1
  | .bl false => g ρ1
  | _ => .bad
def D.not : D → Option D
  | .bl b => some (.bl (!b))
  | _ => none
def D.tru : D → Option D
  | .non => some (.bl false)
  | .bl b => some (.bl b)
  | .int i => some (.bl (i != 0))
  | .str x => if x.length ≤ sizeLine then some (.bl ((x.length : Int) != 0)) else none
  | .nd .lst _ _ xs => some (.bl (!xs.isEmpty))
  | .nd .tup _ _ xs => some (.bl (!xs.isEmpty))
  | .nd .scr _ _ xs => some (.bl (!xs.isEmpty))
  | _ => none
/-- a comparison behind a comparison -/
def E.chain (g g' : D → D → Option D) (f1 f2 f3 : Ev) : Ev := fun ρ => (f1 ρ).bind fun d1 ρ1 => (f2 ρ1).bind fun d2 ρ2 => match g d1 d2 with
  | some (.bl true) => (f3 ρ2).bind fun d3 ρ3 => R.of (g' d2 d3) ρ3
  | some (.bl false) => .ok (.bl false) ρ2
  | _ => .bad
section
variable {X : Ctx} {W : WX} {σ : St} {F H : Hp} {r : AR}
/-- a reading of a known plain value -/
theorem PostE.bl {k : Bool} {ρ' : Env} {Q : VK} {F1 H1 : Hp} {r1 : AR} (p : PostE X W σ F H r (.ok (.bl k) ρ') Q) (g : Grow F H r F1 H1 r1) (s : Stt X F1 H1 r1 σ) (e : erR r1 = ρ') : Q (.bl k) H1 :=
  p F1 H1 r1 (.bl k) g s e trivial rfl ⟨List.nodup_nil, fun _ z => (by cases z), fun _ z => (by cases z)⟩
theorem PostE.back {res : R D} {Q : VK} {F1 H1 : Hp} {r1 : AR} (g : Grow F H r F1 H1 r1) (s : Stt X F1 H1 r1 σ) (p : PostE X W σ F H r res Q) : PostE X W σ F1 H1 r1 res Q := by
  cases res with
  | bad => exact p
  | ok d ρ' => exact fun F' H' r' x g' s' e' ok ex v => p F' H' r' x (g.trans s g') s' e' ok ex (v.back g)
  | exc c fs ρ' => exact fun F' H' r' dx g' s' e' x => p F' H' r' dx (g.trans s g') s' e' x
theorem PostE.imp {res : R D} {Q Q' : VK} (p : PostE X W σ F H r res Q) (h : ∀ v H, Q v H → Q' v H) : PostE X W σ F H r res Q' := by
  cases res with
  | bad => exact p
  | ok d ρ' => exact fun F' H' r' x g' s' e' ok ex v => h _ _ (p F' H' r' x g' s' e' ok ex v)
  | exc c fs ρ' => exact p
end
theorem rdE.imp {X : Ctx} {W : WX} {f : Ev} {ρ : Env} {σ : St} {H : Hp} {Q Q' : VK} (h : rdE X W f ρ σ H Q) (i : ∀ v H, Q v H → Q' v H) : rdE X W f ρ σ H Q' := by
  obtain ⟨F, r, s, e, p⟩ := h
  exact ⟨F, r, s, e, p.imp i⟩
section
variable {ca : Ca} {C : Cx} {W : WX} {e a b c : Expr} {f g h : Ev} {rest : List Expr} {pos : Pos} {ρ : Env}
theorem ct_truth (ha : CE ca C W a f) (he : ∀ whole, isTrue a C.env whole = (do let v ← whole; standAt a.pos; holding [v] (truthy v)) := by intro _; rfl) : CT ca C W a (E.un D.tru f) := ⟨fun ρ => by
  refine PT.mono (pt_truth (ha.run ρ) he) fun σ H Q ⟨F, r, s, e, p⟩ => ⟨F, r, s, e, ?_⟩
  unfold E.un at p
  cases hf : f ρ with
  | bad => rw [hf] at p; exact p.elim
  | exc c fs ρ1 => rw [hf] at p; exact p
  | ok d ρ1 =>
    rw [hf, R.ok_bind] at p
    intro F1 H1 r1 x g1 s1 e1 ok1 ex1 v1
    subst ex1
    have fin : ∀ k, D.tru (er x) = some (.bl k) → Q k H1 := fun k hk => by
      rw [hk] at p
      obtain ⟨k', e', q⟩ := PostE.bl p g1 s1 e1
      cases e'
      exact q
    cases x with
    | non => exact ⟨false, rfl, fin _ rfl⟩
    | bl k => exact ⟨k, rfl, fin _ rfl⟩
    | int i => exact ⟨i != 0, rfl, fin _ rfl⟩
    | str z =>
      by_cases hz : z.length ≤ sizeLine
      · exact ⟨_, ⟨hz, rfl⟩, fin _ (by show (if z.length ≤ sizeLine then some (T.bl ((z.length : Int) != 0)) else none) = _; rw [if_pos hz])⟩
      · have : D.tru (er (.str z : A)) = none := by show (if z.length ≤ sizeLine then some (T.bl ((z.length : Int) != 0)) else none) = _; rw [if_neg hz]
        rw [this] at p; exact p.elim
    | nd k m ad xs =>
      have hem : (!(xs.map val).isEmpty) = !(mapL (fun _ => ()) xs).isEmpty := by rw [mapL_eq]; cases xs <;> rfl
      cases k with
      | lst => exact ⟨_, .inl ⟨_, SqL.of (ok1.at_ s1.sub), rfl⟩, by rw [hem]; exact fin _ rfl⟩
      | scr => exact ⟨_, .inl ⟨_, ok1.at_ s1.sub, rfl⟩, by rw [hem]; exact fin _ rfl⟩
      | tup => exact ⟨_, .inr (.inl ⟨_, ok1.at_ s1.sub, rfl⟩), by rw [hem]; exact fin _ rfl⟩
      | dct ks => exact p.elim
      | ins n fs => exact p.elim⟩
/-- what follows a test that is known -/
theorem test_step {X : Ctx} {σ : St} {H : Hp} {Q : Bool → Hp → Prop} {k : Bool} {ρ1 : Env} (hf : f ρ = .ok (.bl k) ρ1) (F : Hp) (r : AR) (s : Stt X F H r σ) (e : erR r = ρ) (q : ∀ F1 H1 r1, Grow F H r F1 H1 r1 → Stt X F1 H1 r1 σ → erR r1 = ρ1 → Q k H1) : tTest (rdE X W f ρ) σ H Q :=
  ⟨F, r, s, e, by rw [hf]; exact fun F1 H1 r1 x g1 s1 e1 ok ex v => ⟨k, by rw [er_bl ex]; rfl, q F1 H1 r1 g1 s1 e1⟩⟩
theorem test_exc {X : Ctx} {σ : St} {H : Hp} {Q : Bool → Hp → Prop} {n : Str} {fs : List (Str × D)} {ρ1 : Env} {Q' : VK} (hf : f ρ = .exc n fs ρ1) (F : Hp) (r : AR) (s : Stt X F H r σ) (e : erR r = ρ) (p : PostE X W σ F H r (.exc n fs ρ1) Q') : tTest (rdE X W f ρ) σ H Q :=
  ⟨F, r, s, e, by rw [hf]; exact p⟩
theorem cw_and1 (ha : CT ca C W a f) : CW ca C W (.BoolOp .And [a] pos) f := ⟨fun ρ => pw_and1 (ha.run ρ)⟩
theorem cw_or1 (ha : CT ca C W a f) : CW ca C W (.BoolOp .Or [a] pos) f := ⟨fun ρ => pw_or1 (ha.run ρ)⟩
theorem pw_false {e : Expr} : PW C e (fun _ _ _ => False) := ⟨fun _ _ _ _ _ _ _ h => h.elim⟩
theorem cw_and (ha : CT ca C W a f) (hb : CW ca C W (.BoolOp .And (b :: rest) pos) g) : CW ca C W (.BoolOp .And (a :: b :: rest) pos) (E.and f g) := ⟨fun ρ => by
  cases hf : f ρ with
  | bad => exact PW.mono pw_false fun σ H Q ⟨F, r, s, e, p⟩ => by unfold E.and at p; rw [hf] at p; exact p
  | exc n fs ρ1 =>
    refine PW.mono (pw_and (ha.run ρ) pw_false) fun σ H Q ⟨F, r, s, e, p⟩ => ?_
    unfold E.and at p; rw [hf] at p
    exact test_exc hf F r s e p
  | ok d ρ1 =>
    cases d with
    | bl k =>
      refine PW.mono (pw_and (ha.run ρ) (hb.run ρ1)) fun σ H Q ⟨F, r, s, e, p⟩ => ?_
      unfold E.and at p; rw [hf, R.ok_bind] at p
      refine test_step hf F r s e fun F1 H1 r1 g1 s1 e1 => ?_
      cases k with
      | true => rw [if_pos rfl]; exact ⟨F1, r1, s1, e1, p.back g1 s1⟩
      | false =>
        rw [if_neg (by decide)]
        obtain ⟨k', e', q⟩ := PostE.bl p g1 s1 e1
        cases e'; exact q
    | _ => exact PW.mono pw_false fun σ H Q ⟨F, r, s, e, p⟩ => by unfold E.and at p; rw [hf] at p; exact p⟩
theorem cw_or (ha : CT ca C W a f) (hb : CW ca C W (.BoolOp .Or (b :: rest) pos) g) : CW ca C W (.BoolOp .Or (a :: b :: rest) pos) (E.or f g) := ⟨fun ρ => by
  cases hf : f ρ with
  | bad => exact PW.mono pw_false fun σ H Q ⟨F, r, s, e, p⟩ => by unfold E.or at p; rw [hf] at p; exact p
  | exc n fs ρ1 =>
    refine PW.mono (pw_or (ha.run ρ) pw_false) fun σ H Q ⟨F, r, s, e, p⟩ => ?_
    unfold E.or at p; rw [hf] at p
    exact test_exc hf F r s e p
  | ok d ρ1 =>
    cases d with
    | bl k =>
      refine PW.mono (pw_or (ha.run ρ) (hb.run ρ1)) fun σ H Q ⟨F, r, s, e, p⟩ => ?_
      unfold E.or at p; rw [hf, R.ok_bind] at p
      refine test_step hf F r s e fun F1 H1 r1 g1 s1 e1 => ?_
      cases k with
      | false => rw [if_neg (by decide)]; exact ⟨F1, r1, s1, e1, p.back g1 s1⟩
      | true =>
        rw [if_pos rfl]
        obtain ⟨k', e', q⟩ := PostE.bl p g1 s1 e1
        cases e'; exact q
    | _ => exact PW.mono pw_false fun σ H Q ⟨F, r, s, e, p⟩ => by unfold E.or at p; rw [hf] at p; exact p⟩
theorem ct_w (h : CW ca C W a f) : CT ca C W a f := ⟨fun ρ => (h.run ρ).pt⟩
theorem ct_not (ha : CT ca C W a f) : CT ca C W (.UnaryOp .Not a pos) (E.un D.not f) := ⟨fun ρ => by
  refine PT.mono (pt_not (ha.run ρ)) fun σ H Q ⟨F, r, s, e, p⟩ => ?_
  unfold E.un at p
  cases hf : f ρ with
  | bad => rw [hf] at p; exact p.elim
  | exc n fs ρ1 => rw [hf] at p; exact test_exc hf F r s e p
  | ok d ρ1 =>
    rw [hf, R.ok_bind] at p
    cases d with
    | bl k =>
      refine test_step hf F r s e fun F1 H1 r1 g1 s1 e1 => ?_
      obtain ⟨k', e', q⟩ := PostE.bl (k := !k) p g1 s1 e1
      cases e'; exact q
    | _ => exact p.elim⟩
/-- .. as values -/
theorem ce_one {op : BoolOp} (ha : CE ca C W a f) : CE ca C W (.BoolOp op [a] pos) f := ⟨fun ρ => pe_one (ha.run ρ)⟩
theorem ce_and (ha : CE ca C W a f) (hb : CE ca C W (.BoolOp .And (b :: rest) pos) g) : CE ca C W (.BoolOp .And (a :: b :: rest) pos) (E.and f g) := ⟨fun ρ => by
  cases hf : f ρ with
  | bad => exact PE.mono pe_false fun σ H Q ⟨F, r, s, e, p⟩ => by unfold E.and at p; rw [hf] at p; exact p
  | exc n fs ρ1 =>
    refine PE.mono (pe_and (ha.run ρ) pe_false) fun σ H Q ⟨F, r, s, e, p⟩ => ?_
    unfold E.and at p; rw [hf] at p
    exact ⟨F, r, s, e, by rw [hf]; exact p⟩
  | ok d ρ1 =>
    cases d with
    | bl k =>
      refine PE.mono (pe_and (ha.run ρ) (hb.run ρ1)) fun σ H Q ⟨F, r, s, e, p⟩ => ⟨F, r, s, e, ?_⟩
      unfold E.and at p; rw [hf, R.ok_bind] at p
      rw [hf]
      intro F1 H1 r1 x g1 s1 e1 ok ex v
      refine ⟨k, by rw [er_bl ex]; rfl, ?_⟩
      cases k with
      | true => rw [if_pos rfl]; exact ⟨F1, r1, s1, e1, p.back g1 s1⟩
      | false => rw [if_neg (by decide)]; exact PostE.bl p g1 s1 e1
    | _ => exact PE.mono pe_false fun σ H Q ⟨F, r, s, e, p⟩ => by unfold E.and at p; rw [hf] at p; exact p⟩
theorem ce_or (ha : CE ca C W a f) (hb : CE ca C W (.BoolOp .Or (b :: rest) pos) g) : CE ca C W (.BoolOp .Or (a :: b :: rest) pos) (E.or f g) := ⟨fun ρ => by
  cases hf : f ρ with
  | bad => exact PE.mono pe_false fun σ H Q ⟨F, r, s, e, p⟩ => by unfold E.or at p; rw [hf] at p; exact p
  | exc n fs ρ1 =>
    refine PE.mono (pe_or (ha.run ρ) pe_false) fun σ H Q ⟨F, r, s, e, p⟩ => ?_
    unfold E.or at p; rw [hf] at p
    exact ⟨F, r, s, e, by rw [hf]; exact p⟩
  | ok d ρ1 =>
    cases d with
    | bl k =>
      refine PE.mono (pe_or (ha.run ρ) (hb.run ρ1)) fun σ H Q ⟨F, r, s, e, p⟩ => ⟨F, r, s, e, ?_⟩
      unfold E.or at p; rw [hf, R.ok_bind] at p
      rw [hf]
      intro F1 H1 r1 x g1 s1 e1 ok ex v
      refine ⟨k, by rw [er_bl ex]; rfl, ?_⟩
      cases k with
      | false => rw [if_neg (by decide)]; exact ⟨F1, r1, s1, e1, p.back g1 s1⟩
      | true => rw [if_pos rfl]; exact PostE.bl p g1 s1 e1
    | _ => exact PE.mono pe_false fun σ H Q ⟨F, r, s, e, p⟩ => by unfold E.or at p; rw [hf] at p; exact p⟩
theorem ce_not (ha : CE ca C W a f) : CE ca C W (.UnaryOp .Not a pos) (E.un D.not f) := ⟨fun ρ => by
  refine PE.mono (pe_not (ha.run ρ)) fun σ H Q ⟨F, r, s, e, p⟩ => ⟨F, r, s, e, ?_⟩
  unfold E.un at p
  cases hf : f ρ with
  | bad => rw [hf] at p; exact p.elim
  | exc n fs ρ1 => rw [hf] at p; exact p
  | ok d ρ1 =>
    rw [hf, R.ok_bind] at p
    cases d with
    | bl k => exact fun F1 H1 r1 x g1 s1 e1 ok ex v => ⟨k, by rw [er_bl ex]; rfl, PostE.bl (k := !k) p g1 s1 e1⟩
    | _ => exact p.elim⟩
theorem ce_ite (hc : CT ca C W c h) (ha : CE ca C W a f) (hb : CE ca C W b g) : CE ca C W (.IfExp c a b pos) (E.ite h f g) := ⟨fun ρ => by
  cases hf : h ρ with
  | bad => exact PE.mono pe_false fun σ H Q ⟨F, r, s, e, p⟩ => by unfold E.ite at p; rw [hf] at p; exact p
  | exc n fs ρ1 =>
    refine PE.mono (pe_ifExp (hc.run ρ) pe_false pe_false) fun σ H Q ⟨F, r, s, e, p⟩ => ?_
    unfold E.ite at p; rw [hf] at p
    exact test_exc hf F r s e p
  | ok d ρ1 =>
    cases d with
    | bl k =>
      refine PE.mono (pe_ifExp (hc.run ρ) (ha.run ρ1) (hb.run ρ1)) fun σ H Q ⟨F, r, s, e, p⟩ => ?_
      unfold E.ite at p; rw [hf, R.ok_bind] at p
      refine test_step hf F r s e fun F1 H1 r1 g1 s1 e1 => ?_
      cases k with
      | true => rw [if_pos rfl]; exact ⟨F1, r1, s1, e1, p.back g1 s1⟩
      | false => rw [if_neg (by decide)]; exact ⟨F1, r1, s1, e1, p.back g1 s1⟩
    | _ => exact PE.mono pe_false fun σ H Q ⟨F, r, s, e, p⟩ => by unfold E.ite at p; rw [hf] at p; exact p⟩
/-! ### comparisons -/
theorem cmp_both {op : CmpOp} {gg : D → D → Option D} (hg : Op2 (cx ca C) (OKc C op) gg) (ha : CE ca C W a f) (hb : CE ca C W b g) (hm : behindInMarks op b = false) :
    CE ca C W (.Compare a [op] [b] pos) (E.bin gg f g) ∧ CT ca C W (.Compare a [op] [b] pos) (E.bin gg f g) := by
  refine ⟨⟨fun ρ => ?_⟩, ⟨fun ρ => ?_⟩⟩
  · obtain ⟨ta, tb, r, pa, pb, ok, i⟩ := two_imp okc_false hg ha hb ρ
    exact PE.mono (ok.run pa pb hm).1 i
  · obtain ⟨ta, tb, r, pa, pb, ok, i⟩ := two_imp okc_false hg ha hb ρ
    exact PT.mono (ok.run pa pb hm).2 fun σ H Q q => i σ H _ q
theorem cb_lt (ha : CE ca C W a f) (hb : CE ca C W b g) : CE ca C W (.Compare a [.Lt] [b] pos) (E.bin D.lt f g) ∧ CT ca C W (.Compare a [.Lt] [b] pos) (E.bin D.lt f g) := cmp_both (op2_cmp op_lt) ha hb (nomark _)
theorem cb_le (ha : CE ca C W a f) (hb : CE ca C W b g) : CE ca C W (.Compare a [.LtE] [b] pos) (E.bin D.le f g) ∧ CT ca C W (.Compare a [.LtE] [b] pos) (E.bin D.le f g) := cmp_both (op2_cmp op_le) ha hb (nomark _)
theorem cb_gt (ha : CE ca C W a f) (hb : CE ca C W b g) : CE ca C W (.Compare a [.Gt] [b] pos) (E.bin D.gt f g) ∧ CT ca C W (.Compare a [.Gt] [b] pos) (E.bin D.gt f g) := cmp_both (op2_cmp op_gt) ha hb (nomark _)
theorem cb_ge (ha : CE ca C W a f) (hb : CE ca C W b g) : CE ca C W (.Compare a [.GtE] [b] pos) (E.bin D.ge f g) ∧ CT ca C W (.Compare a [.GtE] [b] pos) (E.bin D.ge f g) := cmp_both (op2_cmp op_ge) ha hb (nomark _)
theorem cb_eq (hu : C.A.units + 64 < cLine) (ha : CE ca C W a f) (hb : CE ca C W b g) : CE ca C W (.Compare a [.Eq] [b] pos) (E.bin D.eq f g) ∧ CT ca C W (.Compare a [.Eq] [b] pos) (E.bin D.eq f g) := cmp_both (op2_eq hu) ha hb (nomark _)
theorem cb_ne (hu : C.A.units + 64 < cLine) (ha : CE ca C W a f) (hb : CE ca C W b g) : CE ca C W (.Compare a [.NotEq] [b] pos) (E.bin D.ne f g) ∧ CT ca C W (.Compare a [.NotEq] [b] pos) (E.bin D.ne f g) := cmp_both (op2_ne hu) ha hb (nomark _)
theorem cb_is (ha : CE ca C W a f) (hb : CE ca C W b g) : CE ca C W (.Compare a [.Is] [b] pos) (E.bin D.isN f g) ∧ CT ca C W (.Compare a [.Is] [b] pos) (E.bin D.isN f g) := cmp_both op2_isN ha hb (nomark _)
theorem cb_isnot (ha : CE ca C W a f) (hb : CE ca C W b g) : CE ca C W (.Compare a [.IsNot] [b] pos) (E.bin D.notN f g) ∧ CT ca C W (.Compare a [.IsNot] [b] pos) (E.bin D.notN f g) := cmp_both op2_notN ha hb (nomark _)
theorem cb_in (hu : C.A.units + 64 < cLine) (ha : CE ca C W a f) (hb : CE ca C W b g) (hm : behindInMarks .In b = false := by rfl) : CE ca C W (.Compare a [.In] [b] pos) (E.bin D.in_ f g) ∧ CT ca C W (.Compare a [.In] [b] pos) (E.bin D.in_ f g) := cmp_both (op2_in (by omega)) ha hb hm
theorem cb_notin (hu : C.A.units + 64 < cLine) (ha : CE ca C W a f) (hb : CE ca C W b g) (hm : behindInMarks .NotIn b = false := by rfl) : CE ca C W (.Compare a [.NotIn] [b] pos) (E.bin D.notin f g) ∧ CT ca C W (.Compare a [.NotIn] [b] pos) (E.bin D.notin f g) := cmp_both (op2_notin (by omega)) ha hb hm
/-- a < b < c, of ints -/
theorem chain_imp {p p' : Int → Int → Bool} (ha : CE ca C W a f) (hb : CE ca C W b g) (hc : CE ca C W c h) (ρ : Env) :
    ∃ ta tb tc, PE C a ta ∧ PE C b tb ∧ PE C c tc ∧ ∀ σ H Q, rdE (cx ca C) W (E.chain (D.cmp p) (D.cmp p') f g h) ρ σ H Q → tChain (rI0 fun i j => .bl (p i j)) (rI0 fun i j => .bl (p' i j)) ta tb tc σ H Q := by
  cases hf : f ρ with
  | bad => exact ⟨_, _, _, pe_false, pe_false, pe_false, fun σ H Q ⟨F, r, s, e, q⟩ => by unfold E.chain at q; rw [hf] at q; exact q⟩
  | exc n fs ρ1 => exact ⟨_, _, _, ha.run ρ, pe_false, pe_false, fun σ H Q ⟨F, r, s, e, q⟩ => ⟨F, r, s, e, by unfold E.chain at q; rw [hf] at q ⊢; exact q⟩⟩
  | ok d1 ρ1 =>
    cases hg : g ρ1 with
    | bad => exact ⟨_, _, _, pe_false, pe_false, pe_false, fun σ H Q ⟨F, r, s, e, q⟩ => by unfold E.chain at q; rw [hf, R.ok_bind, hg] at q; exact q⟩
    | exc n fs ρ2 =>
      refine ⟨_, _, _, ha.run ρ, hb.run ρ1, pe_false, fun σ H Q ⟨F, r, s, e, q⟩ => ⟨F, r, s, e, ?_⟩⟩
      unfold E.chain at q; rw [hf, R.ok_bind, hg] at q
      rw [hf]
      intro F1 H1 r1 x g1 s1 e1 _ _ _
      exact ⟨F1, r1, s1, e1, by rw [hg]; exact PostE.back g1 s1 q⟩
    | ok d2 ρ2 =>
      by_cases hd : ∃ i j, d1 = .int i ∧ d2 = .int j
      · obtain ⟨i, j, rfl, rfl⟩ := hd
        refine ⟨_, _, _, ha.run ρ, hb.run ρ1, hc.run ρ2, fun σ H Q ⟨F, r, s, e, q⟩ => ⟨F, r, s, e, ?_⟩⟩
        unfold E.chain at q; rw [hf, R.ok_bind, hg, R.ok_bind] at q
        rw [hf]
        intro F1 H1 r1 x g1 s1 e1 ok1 ex1 v1
        refine ⟨F1, r1, s1, e1, ?_⟩
        rw [hg]
        intro F2 H2 r2 y g2 s2 e2 ok2 ex2 v2
        refine ⟨i, j, by rw [er_int ex1]; rfl, by rw [er_int ex2]; rfl, p i j, rfl, ?_⟩
        have g12 := g1.trans s1 g2
        show if p i j = true then _ else _
        cases hp : p i j with
        | false =>
          rw [if_neg (by decide)]
          have q : PostE (cx ca C) W σ F H r (match some (T.bl (p i j) : D) with | some (.bl true) => (h ρ2).bind fun d3 ρ3 => R.of (D.cmp p' (.int j) d3) ρ3 | some (.bl false) => .ok (.bl false) ρ2 | _ => .bad) Q := q
          rw [hp] at q
          exact PostE.bl q g12 s2 e2
        | true =>
          rw [if_pos rfl]
          have q : PostE (cx ca C) W σ F H r (match some (T.bl (p i j) : D) with | some (.bl true) => (h ρ2).bind fun d3 ρ3 => R.of (D.cmp p' (.int j) d3) ρ3 | some (.bl false) => .ok (.bl false) ρ2 | _ => .bad) Q := q
          rw [hp] at q
          have q := PostE.back g12 s2 q
          refine ⟨F2, r2, s2, e2, ?_⟩
          dsimp only at q
          cases hh : h ρ2 with
          | bad => rw [hh] at q; exact q.elim
          | exc n fs ρ3 => rw [hh] at q; exact q
          | ok d3 ρ3 =>
            rw [hh, R.ok_bind] at q
            intro F3 H3 r3 z g3 s3 e3 ok3 ex3 v3
            subst ex3
            cases z with
            | int k => exact ⟨j, k, by rw [er_int ex2]; rfl, rfl, PostE.bl q g3 s3 e3⟩
            | _ => exact q.elim
      · refine ⟨_, _, _, pe_false, pe_false, pe_false, fun σ H Q ⟨F, r, s, e, q⟩ => ?_⟩
        unfold E.chain at q; rw [hf, R.ok_bind, hg, R.ok_bind] at q
        have : D.cmp p d1 d2 = none := by
          unfold D.cmp
          split
          · exact absurd ⟨_, _, rfl, rfl⟩ hd
          · rfl
        rw [this] at q
        exact q
theorem chain_both {op op' : CmpOp} {p p' : Int → Int → Bool} (ho : OpR C (compareOp op) (rI0 fun i j => .bl (p i j))) (ho' : OpR C (compareOp op') (rI0 fun i j => .bl (p' i j))) (ha : CE ca C W a f) (hb : CE ca C W b g) (hc : CE ca C W c h)
    (hm : lastMarks [op, op'] [b, c] = false) : CE ca C W (.Compare a [op, op'] [b, c] pos) (E.chain (D.cmp p) (D.cmp p') f g h) ∧ CT ca C W (.Compare a [op, op'] [b, c] pos) (E.chain (D.cmp p) (D.cmp p') f g h) := by
  refine ⟨⟨fun ρ => ?_⟩, ⟨fun ρ => ?_⟩⟩
  · obtain ⟨ta, tb, tc, pa, pb, pc, i⟩ := chain_imp (p := p) (p' := p') ha hb hc ρ
    exact PE.mono (pe_chain ho ho' pa pb pc hm) i
  · obtain ⟨ta, tb, tc, pa, pb, pc, i⟩ := chain_imp (p := p) (p' := p') ha hb hc ρ
    exact PT.mono (pt_chain ho ho' pa pb pc hm) fun σ H Q q => i σ H _ q
end
end Vl
/-! The value layer, 10: subscripts, displays, built-in calls, slices, texts' methods. -/
namespace Vl
open PySem PySem.Spec PyProof.Rows L2

structure OKx (C : Cx) (r : R2) : Prop where
  run : ∀ {a b : Expr} {ta tb : TE} {pos : Pos}, PE C a ta → PE C b tb → PlainIx b → PE C (.Subscript a b pos) (tOp r ta tb)
def D.idx : D → D → Option D
  | .nd .lst _ _ xs, .int i => atI xs i
  | .nd .tup _ _ xs, .int i => atI xs i
  | .nd .scr _ _ xs, .int i => atI xs i
  | .nd (.dct ks) _ _ xs, k => k.key.bind fun k => look ks xs k
  | .str z, .int i => if z.length ≤ sizeLine then (atI z.cps.toList i).map fun c => .str ⟨#[c]⟩ else none
  | _, _ => none
theorem atI_map {α β : Type} (f : α → β) (xs : List α) (i : Int) : atI (xs.map f) i = (atI xs i).map f := by
  unfold atI
  rw [List.length_map]
  cases ixN xs.length i with
  | none => rfl
  | some j => show (xs.map f)[j]? = (xs[j]?).map f; rw [List.getElem?_map]
theorem atI_mem {α : Type} {xs : List α} {i : Int} {x : α} (h : atI xs i = some x) : x ∈ xs := by
  unfold atI at h
  cases e : ixN xs.length i with
  | none => rw [e] at h; cases h
  | some j => rw [e] at h; exact List.mem_of_getElem? h
section
variable {ca : Ca} {C : Cx} {W : WX} {e a b : Expr} {es : List Expr} {f g h : Ev} {fa : Env → R (List D)} {pos : Pos} {ρ : Env}
theorem okx_of {r : R2} (h : IxR C r) : OKx C r := ⟨fun ha hb hs => pe_ix h ha hb hs⟩
theorem okx_false : OKx C fun _ _ _ _ => False := ⟨fun ha hb hs => pe_ix (r := fun _ _ _ _ => False) (fun _ _ _ _ _ _ _ _ _ _ _ _ _ _ h _ => False.elim h) ha hb hs⟩
theorem okx_dget (hu : C.A.units + 1 < cLine) : OKx C (fun x y H Q => ∃ a v, x = .ref a ∧ DGet H a y (some v) ∧ Q v H) := ⟨fun ha hb hs => pe_dget hu ha hb hs⟩
theorem op2_idx (hu : C.A.units + 1 < cLine) : Op2 (cx ca C) (OKx C) D.idx := by
  intro d1 d2 d h
  unfold D.idx at h
  split at h
  · refine ⟨_, okx_of ix_list, fun F H x y Q s ok1 ok2 nd e1 e2 k => ?_⟩
    obtain ⟨a, xs, rfl, ex⟩ := er_nd e1
    subst ex
    rw [mapL_eq, atI_map] at h
    cases q : atI xs _ with
    | none => rw [q] at h; cases h
    | some z =>
      rw [q] at h
      cases h
      rw [er_int e2]
      exact ⟨a.1, xs.map val, _, val z, rfl, rfl, SqL.of (ok1.at_ s), by rw [atI_map, q]; rfl, k.kid s ok1 (List.nodup_append.mp nd).1 (atI_mem q) List.mem_cons_self⟩
  · refine ⟨_, okx_of ix_tup, fun F H x y Q s ok1 ok2 nd e1 e2 k => ?_⟩
    obtain ⟨a, xs, rfl, ex⟩ := er_nd e1
    subst ex
    rw [mapL_eq, atI_map] at h
    cases q : atI xs _ with
    | none => rw [q] at h; cases h
    | some z =>
      rw [q] at h
      cases h
      rw [er_int e2]
      exact ⟨a.1, xs.map val, _, val z, rfl, rfl, ok1.at_ s, by rw [atI_map, q]; rfl, k.kid s ok1 (List.nodup_append.mp nd).1 (atI_mem q) List.mem_cons_self⟩
  · refine ⟨_, okx_of ix_list, fun F H x y Q s ok1 ok2 nd e1 e2 k => ?_⟩
    obtain ⟨a, xs, rfl, ex⟩ := er_nd e1
    subst ex
    rw [mapL_eq, atI_map] at h
    cases q : atI xs _ with
    | none => rw [q] at h; cases h
    | some z =>
      rw [q] at h
      cases h
      rw [er_int e2]
      exact ⟨a.1, xs.map val, _, val z, rfl, rfl, ok1.at_ s, by rw [atI_map, q]; rfl, k.kid s ok1 (List.nodup_append.mp nd).1 (atI_mem q) List.mem_cons_self⟩
  · refine ⟨_, okx_dget hu, fun F H x y Q s ok1 ok2 nd e1 e2 k => ?_⟩
    obtain ⟨a, xs, rfl, ex⟩ := er_nd e1
    subst ex
    subst e2
    cases hk : D.key (er y) with
    | none => rw [hk] at h; cases h
    | some key =>
      rw [hk, Option.bind_some, mapL_eq, look_map] at h
      cases q : look _ xs key with
      | none => rw [q] at h; cases h
      | some z =>
        rw [q] at h
        cases h
        exact ⟨a.1, val z, rfl, .inl ⟨_, key, ok1.at_ s, key_val hk, by rw [valV_zip, look_map, q]; rfl⟩, k.kid s ok1 (List.nodup_append.mp nd).1 (look_mem q) List.mem_cons_self⟩
  · split at h
    · rename_i hz
      refine ⟨_, okx_of ix_str, fun F H x y Q s ok1 ok2 nd e1 e2 k => ?_⟩
      rw [er_str e1, er_int e2]
      cases q : atI (Array.toList _) _ with
      | none => rw [q] at h; cases h
      | some c =>
        rw [q] at h
        cases h
        exact ⟨_, _, c, rfl, rfl, hz, q, k.plain s rfl⟩
    · cases h
  · cases h
theorem ce_ix (hu : C.A.units + 64 < cLine) (ha : CE ca C W a f) (hb : CE ca C W b g) (hs : PlainIx b := by exact fun _ _ => rfl) : CE ca C W (.Subscript a b pos) (E.bin D.idx f g) := ⟨fun ρ => by
  obtain ⟨ta, tb, r, pa, pb, ok, i⟩ := two_imp okx_false (op2_idx (by omega)) ha hb ρ
  exact PE.mono (ok.run pa pb hs) i⟩

/-! ### displays -/
def D.mkl (ds : List D) : Option D := if allL notB ds = true ∧ ds.length ≤ sizeLine then some (.nd .lst .o () (mkL calm ds)) else none
def D.mkt (ds : List D) : Option D := if allL notB ds = true ∧ ds.length ≤ sizeLine then some (.nd .tup .c () (mkL calm ds)) else none
/-- a list that keeps what its items own -/
def D.mko (ds : List D) : Option D := if allL notB ds = true ∧ ds.length ≤ sizeLine then some (.nd .lst .o () ds) else none
theorem map_er {xs : List A} {ds : List D} (h : xs.map er = ds) : mapL (fun _ => ()) xs = ds := by rw [mapL_eq]; exact h
theorem PA.clos {C : Cx} {es : List Expr} {ta : TA} (h : PA C es ta) : PA C es (fun σ H Q => ∃ Q', ta σ H Q' ∧ ∀ vs H, Q' vs H → Q vs H) :=
  ⟨fun pos pins s σ H Q I ⟨Q', q, i⟩ => thn (h.run pos pins s σ H Q' I q) fun us s' ⟨vs, H', I', r, q'⟩ => ⟨vs, H', I', r, i _ _ q'⟩⟩
/-- a display, by the rule of its node -/
theorem ce_disp {gg : List D → Option D} {k : Kd} {mkE : List Expr → Expr} (hop : OpN (cx ca C) (fun r => ∀ ta, PA C es ta → PE C (mkE es) (tCB r ta)) gg) (hm : ∀ ta, PA C es ta → ∃ r0, PE C (mkE es) (tCB r0 ta)) (ha : CA ca C W es fa) : CE ca C W (mkE es) (E.args gg fa) := ⟨fun ρ => by
  obtain ⟨ta, r, pa, ok, i⟩ := args_imp (fun ta pa => by
    obtain ⟨r0, h0⟩ := hm _ (PA.clos pa)
    exact PE.mono h0 fun σ H Q q => ⟨_, q, fun vs H f => f.elim⟩) hop ha ρ
  exact PE.mono (ok ta pa) i⟩
theorem opn_lst {k : Kd} {m : Mk} {gg : List D → Option D} {mkE : List Expr → Expr} (hk : k = .lst ∨ k = .tup) (hm : m = .o ∨ m = .c) (hg : ∀ ds, gg ds = if allL notB ds = true ∧ ds.length ≤ sizeLine then some (.nd k m () (mkL calm ds)) else none)
    (hr : ∀ ta, PA C es ta → PE C (mkE es) (tCB (fun vs H Q => vs.length ≤ sizeLine ∧ ∀ p, H p = none → Q (.ref p) (upd H p (cont ca k (p, 0) vs))) ta)) : OpN (cx ca C) (fun r => ∀ ta, PA C es ta → PE C (mkE es) (tCB r ta)) gg := by
  intro ds d h
  rw [hg] at h
  split at h
  · rename_i hz
    cases h
    refine ⟨_, hr, fun F H xs Q s ok nd ex kk => ⟨by rw [List.length_map]; rw [← ex, List.length_map] at hz; exact hz.2, fun p hp => ?_⟩⟩
    have ex' := map_er ex
    exact kk.new hm s hp (by rcases hk with rfl | rfl <;> simp) (by rcases hk with rfl | rfl <;> trivial) ok (by rw [ex']) (by rw [← ex', allL_mapL] at hz; exact hz.1) fun a ha => ha
  · cases h
theorem ce_lst (ha : CA ca C W es fa) : CE ca C W (.List es pos) (E.args D.mkl fa) :=
  ce_disp (k := .lst) (gg := D.mkl) (mkE := fun es => .List es pos) (opn_lst (gg := D.mkl) (mkE := fun es => .List es pos) (k := .lst) (m := .o) (.inl rfl) (.inl rfl) (fun _ => rfl) fun ta pa => pe_lst pa) (fun ta pa => ⟨_, pe_lst pa⟩) ha
theorem ce_tup {x1} (ha : CA ca C W es fa) : CE ca C W (.Tuple es x1 pos) (E.args D.mkt fa) :=
  ce_disp (k := .tup) (gg := D.mkt) (mkE := fun es => .Tuple es x1 pos) (opn_lst (gg := D.mkt) (mkE := fun es => .Tuple es x1 pos) (k := .tup) (m := .c) (.inr rfl) (.inr rfl) (fun _ => rfl) fun ta pa => pe_tup pa) (fun ta pa => ⟨_, pe_tup pa⟩) ha
theorem ce_lsto (ha : CA ca C W es fa) : CE ca C W (.List es pos) (E.args D.mko fa) := by
  refine ce_disp (k := .lst) (mkE := fun es => .List es pos) ?_ (fun ta pa => ⟨_, pe_lst pa⟩) ha
  intro ds d h
  unfold D.mko at h
  split at h
  · rename_i hz
    cases h
    refine ⟨fun vs H Q => vs.length ≤ sizeLine ∧ ∀ p, H p = none → Q (.ref p) (upd H p (.lst vs)), fun ta pa => pe_lst pa, fun F H xs Q s ok nd ex kk => ⟨by rw [List.length_map]; rw [← ex, List.length_map] at hz; exact hz.2, fun p hp => ?_⟩⟩
    have ex' := map_er ex
    exact kk.newO s hp (.inl rfl) trivial ok ex' (by rw [← ex', allL_mapL] at hz; exact hz.1) nd fun a ha => ha
  · cases h
/-- *e among the items -/
def E.star (f : Ev) (g : Env → R (List D)) : Env → R (List D) := fun ρ => (f ρ).bind fun d ρ1 => match d with
  | .nd .lst _ _ xs => if allL isC xs = true then (g ρ1).bind fun ds ρ2 => .ok (xs ++ ds) ρ2 else .bad
  | .nd .tup _ _ xs => if allL isC xs = true then (g ρ1).bind fun ds ρ2 => .ok (xs ++ ds) ρ2 else .bad
  | _ => .bad

/-! ### built-in calls -/
theorem ce_callB {gg : List D → Option D} {x : Str} {id : String} {p : Pos} (h : OpN (cx ca C) (CallR C (.builtin id)) gg) (hg : Gl C x) (hm : C.mg x = none) (hv : bootBuiltins x = some (.builtin id)) (ha : CA ca C W (e :: es) fa) (hn : x ≠ "__name__" := by decide) (hdb : (x == ("__debug__" : Str)) = false := by decide)
    (he : starEach (e :: es) C.env = (false, eval e C.env) :: starEach es C.env := by rfl) (hpl : (backTo pos (starEach es C.env)).any (·.1) = false := by rfl) : CE ca C W (.Call (.Name x p) (e :: es) [] pos) (E.args gg fa) := ⟨fun ρ => by
  obtain ⟨ta, r, pa, ok, i⟩ := args_imp callR_false h ha ρ
  exact PE.mono (pe_callB ok hg hm hv pa hn hdb he hpl) i⟩
theorem ce_callTy {gg : List D → Option D} {x : Str} {T : String} {p : Pos} (h : OpN (cx ca C) (CallR C (.type T)) gg) (hg : Gl C x) (hm : C.mg x = none) (hv : bootBuiltins x = some (.type T)) (ha : CA ca C W (e :: es) fa) (hn : x ≠ "__name__" := by decide) (hdb : (x == ("__debug__" : Str)) = false := by decide)
    (he : starEach (e :: es) C.env = (false, eval e C.env) :: starEach es C.env := by rfl) (hpl : (backTo pos (starEach es C.env)).any (·.1) = false := by rfl) : CE ca C W (.Call (.Name x p) (e :: es) [] pos) (E.args gg fa) := ⟨fun ρ => by
  obtain ⟨ta, r, pa, ok, i⟩ := args_imp callR_false h ha ρ
  exact PE.mono (pe_callTy ok hg hm hv pa hn hdb he hpl) i⟩
theorem one_of {xs : List A} {d : D} (h : xs.map er = [d]) : ∃ x, xs = [x] ∧ er x = d := by
  cases xs with
  | nil => cases h
  | cons x r =>
    cases r with
    | nil => exact ⟨x, rfl, (List.cons.inj h).1⟩
    | cons y r => have := (List.cons.inj h).2; cases this
theorem two_of {xs : List A} {d d' : D} (h : xs.map er = [d, d']) : ∃ x y, xs = [x, y] ∧ er x = d ∧ er y = d' := by
  cases xs with
  | nil => cases h
  | cons x r =>
    obtain ⟨y, rfl, e⟩ := one_of (List.cons.inj h).2
    exact ⟨x, y, rfl, (List.cons.inj h).1, e⟩
def D.len : List D → Option D
  | [.str x] => if x.length ≤ sizeLine then some (.int x.length) else none
  | [.nd .lst _ _ xs] => some (.int xs.length)
  | [.nd .tup _ _ xs] => some (.int xs.length)
  | [.nd .scr _ _ xs] => some (.int xs.length)
  | [.nd (.dct ks) _ _ _] => some (.int ks.length)
  | _ => none
theorem call_lenR : CallR C (.builtin "len") (fun xs H Q => ∃ a kvs, xs = [V.ref a] ∧ Rd H a (.dK kvs) ∧ Q (.int kvs.length) H) := by
  intro pins s σ H xs us Q I r h
  obtain ⟨a, kvs, rfl, ha, q⟩ := h
  obtain ⟨u, rfl, ru⟩ := vals1 r
  cases ru
  exact d_len I ha fun t s' I' => ⟨.int kvs.length, H, I', ⟨t, rfl⟩, q⟩
theorem opn_len : OpN (cx ca C) (CallR C (.builtin "len")) D.len := by
  intro ds d h
  unfold D.len at h
  split at h
  · split at h
    · rename_i hz
      cases h
      refine ⟨_, call_len, fun F H xs Q s ok nd ex k => ?_⟩
      obtain ⟨x, rfl, e⟩ := one_of ex
      rw [er_str e] at k ⊢
      exact ⟨_, _, rfl, ⟨hz, rfl⟩, k.plain s rfl⟩
    · cases h
  · cases h
    refine ⟨_, call_len_seq, fun F H xs Q s ok nd ex k => ?_⟩
    obtain ⟨x, rfl, e⟩ := one_of ex
    obtain ⟨a, ys, rfl, ey⟩ := er_nd e
    refine ⟨a.1, ys.map val, rfl, .inl (SqL.of (ok.1.at_ s)), ?_⟩
    rw [← ey, mapL_len] at k
    rw [List.length_map]; exact k.plain s rfl
  · cases h
    refine ⟨_, call_len_seq, fun F H xs Q s ok nd ex k => ?_⟩
    obtain ⟨x, rfl, e⟩ := one_of ex
    obtain ⟨a, ys, rfl, ey⟩ := er_nd e
    refine ⟨a.1, ys.map val, rfl, .inr (ok.1.at_ s), ?_⟩
    rw [← ey, mapL_len] at k
    rw [List.length_map]; exact k.plain s rfl
  · cases h
    refine ⟨_, call_len_seq, fun F H xs Q s ok nd ex k => ?_⟩
    obtain ⟨x, rfl, e⟩ := one_of ex
    obtain ⟨a, ys, rfl, ey⟩ := er_nd e
    refine ⟨a.1, ys.map val, rfl, .inl (ok.1.at_ s), ?_⟩
    rw [← ey, mapL_len] at k
    rw [List.length_map]; exact k.plain s rfl
  · cases h
    refine ⟨_, call_lenR, fun F H xs Q s ok nd ex k => ?_⟩
    obtain ⟨x, rfl, e⟩ := one_of ex
    obtain ⟨a, ys, rfl, ey⟩ := er_nd e
    have hl := ok.1.shp.1
    refine ⟨a.1, _, rfl, ok.1.at_ s, ?_⟩
    rw [List.length_zip, List.length_map, ← hl, Nat.min_self]
    exact k.plain s rfl
  · cases h
def D.int_ : List D → Option D
  | [.int i] => some (.int i)
  | [.bl k] => some (.int (if k then 1 else 0))
  | _ => none
theorem opn_int : OpN (cx ca C) (CallR C (.type "int")) D.int_ := by
  intro ds d h
  unfold D.int_ at h
  split at h
  · cases h
    refine ⟨_, call_int1, fun F H xs Q s ok nd ex k => ?_⟩
    obtain ⟨x, rfl, e⟩ := one_of ex
    rw [er_int e] at k ⊢
    exact .inl ⟨_, rfl, k.plain s rfl⟩
  · cases h
    refine ⟨_, call_int1, fun F H xs Q s ok nd ex k => ?_⟩
    obtain ⟨x, rfl, e⟩ := one_of ex
    rw [er_bl e] at k ⊢
    exact .inr ⟨_, rfl, k.plain s rfl⟩
  · cases h
def D.abs : List D → Option D
  | [.int i] => some (.int (if i < 0 then -i else i))
  | _ => none
theorem opn_abs : OpN (cx ca C) (CallR C (.builtin "abs")) D.abs := by
  intro ds d h
  unfold D.abs at h
  split at h
  · cases h
    refine ⟨_, call_abs, fun F H xs Q s ok nd ex k => ?_⟩
    obtain ⟨x, rfl, e⟩ := one_of ex
    rw [er_int e] at k ⊢
    exact ⟨_, rfl, k.plain s rfl⟩
  · cases h
/-- list(xs), tuple(xs) -/
def D.list_ : List D → Option D
  | [.nd .lst _ _ xs] => if allL isC xs = true then some (.nd .lst .o () xs) else none
  | [.nd .tup _ _ xs] => if allL isC xs = true then some (.nd .lst .o () xs) else none
  | _ => none
def D.tuple_ : List D → Option D
  | [.nd .lst _ _ xs] => if allL isC xs = true then some (.nd .tup .c () xs) else none
  | [.nd .tup .c _ xs] => some (.nd .tup .c () xs)
  | _ => none
theorem er_cold {ys : List A} (h : allL isC (mapL (fun _ => ()) ys) = true) : allL isC ys = true := by rw [← allL_mapL]; exact h
theorem opn_list : OpN (cx ca C) (CallR C (.type "list")) D.list_ := by
  intro ds d h
  unfold D.list_ at h
  split at h
  · split at h
    · rename_i hz
      cases h
      refine ⟨_, call_list_of, fun F H xs Q s ok nd ex k => ?_⟩
      obtain ⟨x, rfl, e⟩ := one_of ex
      obtain ⟨a, ys, rfl, ey⟩ := er_nd e
      subst ey
      have c := er_cold hz
      exact ⟨a.1, ys.map val, rfl, .inl (SqL.of (ok.1.at_ s)), fun l hl => k.new (.inl rfl) s hl (.inl rfl) trivial ok.1.kids (by rw [← mapL_mkL, mkL_cold rfl c]) (allC_notB c) (by rw [adrL_nil rfl c]; exact fun _ z => (by cases z))⟩
    · cases h
  · split at h
    · rename_i hz
      cases h
      refine ⟨_, call_list_of, fun F H xs Q s ok nd ex k => ?_⟩
      obtain ⟨x, rfl, e⟩ := one_of ex
      obtain ⟨a, ys, rfl, ey⟩ := er_nd e
      subst ey
      have c := er_cold hz
      exact ⟨a.1, ys.map val, rfl, .inr (ok.1.at_ s), fun l hl => k.new (.inl rfl) s hl (.inl rfl) trivial ok.1.kids (by rw [← mapL_mkL, mkL_cold rfl c]) (allC_notB c) (by rw [adrL_nil rfl c]; exact fun _ z => (by cases z))⟩
    · cases h
  · cases h
theorem opn_tuple : OpN (cx ca C) (CallR C (.type "tuple")) D.tuple_ := by
  intro ds d h
  unfold D.tuple_ at h
  split at h
  · split at h
    · rename_i hz
      cases h
      refine ⟨_, call_tuple_of, fun F H xs Q s ok nd ex k => ?_⟩
      obtain ⟨x, rfl, e⟩ := one_of ex
      obtain ⟨a, ys, rfl, ey⟩ := er_nd e
      subst ey
      have c := er_cold hz
      exact ⟨a.1, ys.map val, rfl, .inl ⟨SqL.of (ok.1.at_ s), fun l hl => k.new (.inr rfl) s hl (.inr (.inl rfl)) trivial ok.1.kids (by rw [← mapL_mkL, mkL_cold rfl c]) (allC_notB c) (by rw [adrL_nil rfl c]; exact fun _ z => (by cases z))⟩⟩
    · cases h
  · cases h
    refine ⟨_, call_tuple_of, fun F H xs Q s ok nd ex k => ?_⟩
    obtain ⟨x, rfl, e⟩ := one_of ex
    obtain ⟨a, ys, rfl, ey⟩ := er_nd e
    subst ey
    refine ⟨a.1, ys.map val, rfl, .inr ⟨ok.1.at_ s, ?_⟩⟩
    rw [adrL_one] at nd
    exact LPost.part (z := .nd .tup .c a ys) k s ok.1 nd (fun p hp => by rw [adrL_one]; exact hp) fun p hp => by rw [adrL_one]; exact hp
  · cases h
end
end Vl
/-! The value layer, 11: fields, places by index, slices, texts, isinstance, f-strings, stars. -/
namespace Vl
open PySem PySem.Spec PyProof.Rows L2

def posG {κ : Type} [DecidableEq κ] : List κ → κ → Option Nat
  | [], _ => none
  | k' :: ks, k => if k' = k then some 0 else (posG ks k).map (· + 1)
theorem lookup_pos {β : Type} (f : Str) : ∀ (fs : List Str) (vs : List β), fs.length = vs.length → (fs.zip vs).lookup f = (posG fs f).bind fun j => vs[j]?
  | [], vs, h => by cases vs <;> rfl
  | k :: fs, [], h => by cases h
  | k :: fs, v :: vs, h => by
    have ih := lookup_pos f fs vs (by simpa using h)
    rw [List.zip_cons_cons, List.lookup]
    by_cases e : k = f
    · subst e
      have : (k == k) = true := by simp
      rw [this]
      unfold posG
      rw [if_pos rfl]; rfl
    · have : (f == k) = false := by simpa using fun z : f = k => e z.symm
      rw [this]
      unfold posG
      rw [if_neg e, ih]
      cases posG fs f <;> rfl
theorem pos_lt {κ : Type} [DecidableEq κ] {k : κ} : ∀ {ks : List κ} {j : Nat}, posG ks k = some j → j < ks.length
  | [], _, h => by cases h
  | k' :: ks, j, h => by
    unfold posG at h
    split at h
    · cases h; exact Nat.succ_pos _
    · cases q : posG ks k with
      | none => rw [q] at h; cases h
      | some i => rw [q] at h; cases h; exact Nat.succ_lt_succ (pos_lt q)
/-- p.f -/
def P.fld (Cs : List Str) (f : Str) (p : Pv) : Pv := fun ρ => (p ρ).bind fun q ρ1 => match getR ρ1 q.1 q.2 with
  | some (.nd (.ins n fs) _ _ _) => if n ∈ Cs then match posG fs f with
    | some j => .ok (q.1, q.2 ++ [j]) ρ1
    | none => .bad
    else .bad
  | _ => .bad
/-- p[e] -/
def P.ix (p : Pv) (f : Ev) : Pv := fun ρ => (p ρ).bind fun q ρ1 => (f ρ1).bind fun i ρ2 => match getR ρ2 q.1 q.2, i with
  | some (.nd .lst _ _ xs), .int i => match ixN xs.length i with
    | some j => .ok (q.1, q.2 ++ [j]) ρ2
    | none => .bad
  | some (.nd (.dct ks) _ _ _), k => match k.key.bind fun k => posG ks k with
    | some j => .ok (q.1, q.2 ++ [j]) ρ2
    | none => .bad
  | _, _ => .bad
/-- a class of one's own, and an attribute of its objects -/
structure FldOk (K : PySem.W.Frag) (ca : Ca) (Cs : List Str) (f : Str) : Prop where
  cls : ∀ n ∈ Cs, Cls K (ca n)
  no : ∀ n ∈ Cs, NoAttr K (ca n) f
theorem getR_at {r : AR} {i : Nat} {p : List Nat} {x0 x : A} (hi : r[i]? = some (some x0)) (hx : getT x0 p = some x) : getR (erR r) i p = some (er x) := by
  unfold getR
  rw [erR_get, hi]
  show getT (er x0) p = _
  rw [getT_map, hx]; rfl
section
variable {ca : Ca} {C : Cx} {W : WX} {e a b : Expr} {es : List Expr} {f g h : Ev} {fa : Env → R (List D)} {pos : Pos} {ρ : Env} {pv : Pv}
theorem zip_map_lookup {fs : List Str} {xs : List A} {n : Str} {j : Nat} (hl : fs.length = xs.length) (h : posG fs n = some j) : ∃ y, xs[j]? = some y ∧ (fs.zip (xs.map val)).lookup n = some (val y) := by
  have hj : j < xs.length := by rw [← hl]; exact pos_lt h
  refine ⟨xs[j], List.getElem?_eq_getElem hj, ?_⟩
  rw [lookup_pos n fs _ (by rw [List.length_map]; exact hl), h]
  show (xs.map val)[j]? = _
  rw [List.getElem?_map, List.getElem?_eq_getElem hj]; rfl
theorem cp_fld {Cs : List Str} {n : Str} (k : FldOk C.K ca Cs n) (h : CP ca C W e pv) (hb : attributeBase e n C.env (eval e C.env) = eval e C.env := by rfl) : CP ca C W (.Attribute e n pos) (P.fld Cs n pv) := ⟨fun ρ => by
  refine PE.mono (pe_fld (h.run ρ) hb) fun σ H Q ⟨F, r, s, e, p⟩ => ⟨F, r, s, e, ?_⟩
  unfold P.fld at p
  cases hp : pv ρ with
  | bad => rw [hp] at p; exact p
  | exc c fs ρ1 => rw [hp] at p; exact p
  | ok q ρ1 =>
    rw [hp, R.ok_bind] at p
    intro F1 H1 r1 x0 x g1 s1 e1 hi hx
    have hg := getR_at hi hx
    rw [e1] at hg
    rw [hg] at p
    cases x with
    | nd kd m ad xs =>
      cases kd with
      | ins c fs =>
        dsimp only [er, T.map] at p
        split at p
        · rename_i hc
          cases hj : posG fs n with
          | none => rw [hj] at p; exact p.elim
          | some j =>
            rw [hj] at p
            have ok := (s1.slotOk hi).get hx
            obtain ⟨y, hy, hl⟩ := zip_map_lookup (ok.shp.1) hj
            have at1 := ok.at_ s1.sub
            exact ⟨ad.1, ca c, ad.2, _, val y, rfl, at1.1, k.cls c hc, k.no c hc, hl, p F1 H1 r1 x0 y g1 s1 e1 hi (by rw [getT_append hx]; exact (getT_nd hy).trans (getT_nil y))⟩
        · exact p.elim
      | _ => exact p.elim
    | _ => exact p.elim⟩
/-- a way stays over a further step -/
theorem way_stays {r1 r2 : AR} {i : Nat} {p : List Nat} {x0 x : A} (un : fzR r2 = fzR r1) (hi : r1[i]? = some (some x0)) (hx : getT x0 p = some x) : ∃ y0 y, r2[i]? = some (some y0) ∧ getT y0 p = some y ∧ y.fz = x.fz := by
  have h1 : (fzR r1)[i]? = some (some x0.fz) := by unfold fzR; rw [List.getElem?_map, hi]; rfl
  rw [← un] at h1
  unfold fzR at h1
  rw [List.getElem?_map] at h1
  cases e : r2[i]? with
  | none => rw [e] at h1; cases h1
  | some o =>
    cases o with
    | none => rw [e] at h1; cases h1
    | some y0 =>
      rw [e] at h1
      have h2 : y0.fz = x0.fz := Option.some.inj (Option.some.inj h1)
      have h3 : getT y0.fz p = some x.fz := by rw [h2]; show getT (x0.mk calm) p = _; rw [getT_mk, hx]; rfl
      have h4 : getT (y0.mk calm) p = some x.fz := h3
      rw [getT_mk] at h4
      cases q : getT y0 p with
      | none => rw [q] at h4; cases h4
      | some y => rw [q] at h4; exact ⟨y0, y, rfl, q, Option.some.inj h4⟩
theorem fz_val {x y : A} (h : y.fz = x.fz) : val y = val x := by
  have h1 : val y.fz = val y := val_mk _ y
  have h2 : val x.fz = val x := val_mk _ x
  rw [← h1, h, h2]
theorem zip_look {ks : List Key} {xs : List A} {k : Key} {j : Nat} (hl : ks.length = xs.length) (h : posG ks k = some j) : ∃ y, xs[j]? = some y ∧ valV (ks.zip (xs.map val)) k = some (val y) := by
  have hj : j < xs.length := by rw [← hl]; exact pos_lt h
  refine ⟨xs[j], List.getElem?_eq_getElem hj, ?_⟩
  rw [valV_zip, look_map]
  have key : ∀ (ks : List Key) (xs : List A) (j : Nat) (y : A), posG ks k = some j → xs[j]? = some y → look ks xs k = some y := by
    intro ks
    induction ks with
    | nil => intro xs j y h; cases h
    | cons k' ks ih =>
      intro xs j y h hy
      unfold posG at h
      cases xs with
      | nil => cases hy
      | cons x xs =>
        show (if k' = k then some x else look ks xs k) = some y
        split at h
        · rename_i e
          cases h
          rw [if_pos e]; exact hy
        · rename_i e
          cases q : posG ks k with
          | none => rw [q] at h; cases h
          | some i =>
            rw [q] at h
            cases h
            rw [if_neg e]
            exact ih xs i y q hy
  rw [key ks xs j _ h (List.getElem?_eq_getElem hj)]; rfl
theorem cp_ix (hu : C.A.units + 64 < cLine) (h : CP ca C W a pv) (hb : CE ca C W b f) (hs : PlainIx b := by exact fun _ _ => rfl) : CP ca C W (.Subscript a b pos) (P.ix pv f) := ⟨fun ρ => by
  cases hp : pv ρ with
  | bad => exact PE.mono pe_false fun σ H Q ⟨F, r, s, e, p⟩ => by unfold P.ix at p; rw [hp] at p; exact p
  | exc c fs ρ1 => exact PE.mono (okx_false.run (h.run ρ) pe_false hs) fun σ H Q ⟨F, r, s, e, p⟩ => ⟨F, r, s, e, by unfold P.ix at p; rw [hp] at p ⊢; exact p⟩
  | ok q ρ1 =>
    cases hf : f ρ1 with
    | bad => exact PE.mono pe_false fun σ H Q ⟨F, r, s, e, p⟩ => by unfold P.ix at p; rw [hp, R.ok_bind, hf] at p; exact p
    | exc c fs ρ2 =>
      refine PE.mono (okx_false.run (h.run ρ) (hb.run ρ1) hs) fun σ H Q ⟨F, r, s, e, p⟩ => ⟨F, r, s, e, ?_⟩
      unfold P.ix at p; rw [hp, R.ok_bind, hf] at p
      rw [hp]
      intro F1 H1 r1 x0 x g1 s1 e1 hi hx
      refine ⟨F1, r1, s1, e1, ?_⟩
      rw [hf]
      exact fun F2 H2 r2 dx g2 s2 e2 x2 => p F2 H2 r2 dx (g1.trans s1 g2) s2 e2 x2
    | ok ix ρ2 =>
      have hu' : C.A.units + 1 < cLine := by omega
      by_cases hd : ∃ ks m u xs, getR ρ2 q.1 q.2 = some (.nd (.dct ks) m u xs)
      · obtain ⟨ks, m, u, xs, hg⟩ := hd
        refine PE.mono ((okx_dget hu').run (h.run ρ) (hb.run ρ1) hs) fun σ H Q ⟨F, r, s, e, p⟩ => ⟨F, r, s, e, ?_⟩
        unfold P.ix at p; rw [hp, R.ok_bind, hf, R.ok_bind, hg] at p
        rw [hp]
        intro F1 H1 r1 x0 x g1 s1 e1 hi hx
        refine ⟨F1, r1, s1, e1, ?_⟩
        rw [hf]
        intro F2 H2 r2 y g2 s2 e2 ok2 ex2 v2
        obtain ⟨z0, z, hi2, hx2, ez⟩ := way_stays g2.un hi hx
        have hg2 := getR_at hi2 hx2
        rw [e2, hg] at hg2
        obtain ⟨az, zs, rfl, ezs⟩ := er_nd (Option.some.inj hg2).symm
        have okz := (s2.slotOk hi2).get hx2
        subst ex2
        dsimp only at p
        cases hk : D.key (er y) with
        | none => rw [hk] at p; exact p.elim
        | some key =>
          rw [hk, Option.bind_some] at p
          cases hj : posG ks key with
          | none => rw [hj] at p; exact p.elim
          | some j =>
            rw [hj] at p
            obtain ⟨w, hw, hl⟩ := zip_look okz.shp.1 hj
            refine ⟨az.1, val w, (fz_val ez).symm.trans rfl, .inl ⟨_, key, okz.at_ s2.sub, key_val hk, hl.symm⟩, ?_⟩
            exact p F2 H2 r2 z0 w (g1.trans s1 g2) s2 e2 hi2 (by rw [getT_append hx2]; exact (getT_nd hw).trans (getT_nil w))
      · refine PE.mono ((okx_of ix_list).run (h.run ρ) (hb.run ρ1) hs) fun σ H Q ⟨F, r, s, e, p⟩ => ⟨F, r, s, e, ?_⟩
        unfold P.ix at p; rw [hp, R.ok_bind, hf, R.ok_bind] at p
        rw [hp]
        intro F1 H1 r1 x0 x g1 s1 e1 hi hx
        refine ⟨F1, r1, s1, e1, ?_⟩
        rw [hf]
        intro F2 H2 r2 y g2 s2 e2 ok2 ex2 v2
        obtain ⟨z0, z, hi2, hx2, ez⟩ := way_stays g2.un hi hx
        have hg2 := getR_at hi2 hx2
        rw [e2] at hg2
        rw [hg2] at p hd
        have okz := (s2.slotOk hi2).get hx2
        subst ex2
        cases z with
        | nd kd m az zs =>
          cases kd with
          | lst =>
            cases y with
            | int i =>
              dsimp only [er, T.map] at p
              cases hj : ixN (mapL (fun _ => ()) zs).length i with
              | none => rw [hj] at p; exact p.elim
              | some j =>
                rw [hj] at p
                rw [mapL_len] at hj
                have hlt : j < zs.length := (ixN_seq hj).2.1
                refine ⟨az.1, zs.map val, i, val zs[j], (fz_val ez).symm.trans rfl, rfl, SqL.of (okz.at_ s2.sub), ?_, ?_⟩
                · unfold atI
                  rw [List.length_map, hj]
                  show (zs.map val)[j]? = _
                  rw [List.getElem?_map, List.getElem?_eq_getElem hlt]; rfl
                · exact p F2 H2 r2 z0 zs[j] (g1.trans s1 g2) s2 e2 hi2 (by rw [getT_append hx2]; exact (getT_nd (List.getElem?_eq_getElem hlt)).trans (getT_nil _))
            | _ => exact p.elim
          | dct ks => exact absurd ⟨ks, m, (), _, rfl⟩ hd
          | _ => cases y <;> exact p.elim
        | _ => cases y <;> exact p.elim⟩

/-! ### slices -/
def cutG {α : Type} (xs : List α) (lo hi : Option Int) : List α := (xs.drop (HT.sIx xs.length 0 lo)).take (HT.sIx xs.length xs.length hi - HT.sIx xs.length 0 lo)
theorem cutG_map {α β : Type} (f : α → β) (xs : List α) (lo hi : Option Int) : cutG (xs.map f) lo hi = (cutG xs lo hi).map f := by
  unfold cutG
  rw [List.length_map, List.map_take, List.map_drop]
theorem cutV_eq (xs : List V) (lo hi : Option Int) : cutV xs lo hi = cutG xs lo hi := rfl
theorem cutG_mem {α : Type} {xs : List α} {lo hi : Option Int} : ∀ x ∈ cutG xs lo hi, x ∈ xs := fun x h => List.mem_of_mem_drop (List.mem_of_mem_take h)
def D.slice (d : D) (lo hi : Option Int) : Option D := match d with
  | .nd .lst _ _ xs => if allL isC xs = true then some (.nd .lst .o () (cutG xs lo hi)) else none
  | .nd .scr _ _ xs => if allL isC xs = true then some (.nd .lst .o () (cutG xs lo hi)) else none
  | .nd .tup _ _ xs => if allL isC xs = true ∧ ¬ (HT.sIx xs.length 0 lo = 0 ∧ HT.sIx xs.length xs.length hi = xs.length) then some (.nd .tup .c () (cutG xs lo hi)) else none
  | .str z => if z.length ≤ sizeLine then some (.str (cutS z lo hi)) else none
  | _ => none
/-- a slice's part -/
abbrev Eo := Env → R (Option Int)
def PostO (X : Ctx) (W : WX) (σ : St) (F H : Hp) (r : AR) (res : R (Option Int)) (Q : Option Int → Hp → Prop) : Prop := match res with
  | .bad => False
  | .ok o ρ' => ∀ F' H' r', Grow F H r F' H' r' → Stt X F' H' r' σ → erR r' = ρ' → Q o H'
  | .exc C fs ρ' => ∀ F' H' r' dx, Grow F H r F' H' r' → Stt X F' H' r' σ → erR r' = ρ' → XOk X F' H' dx fs → W (.ref (X.ca C)) dx σ H'
def rdO (X : Ctx) (W : WX) (f : Eo) (ρ : Env) : TO := fun σ H Q => ∃ F r, Stt X F H r σ ∧ erR r = ρ ∧ PostO X W σ F H r (f ρ) Q
structure CO (ca : Ca) (C : Cx) (W : WX) (e : Option Expr) (f : Eo) : Prop where
  run : ∀ ρ, PO C e (rdO ⟨C.K, ca.f, ca.fix⟩ W f ρ)
def E.no : Eo := fun ρ => .ok none ρ
def E.part (f : Ev) : Eo := fun ρ => (f ρ).bind fun d ρ1 => match d with
  | .int i => .ok (some i) ρ1
  | _ => .bad
theorem PO.mono {C : Cx} {e : Option Expr} {t t' : TO} (h : PO C e t) (i : ∀ σ H Q, t' σ H Q → t σ H Q) : PO C e t' := ⟨fun pins s σ H Q I q => h.run pins s σ H Q I (i σ H Q q)⟩
theorem co_none : CO ca C W none E.no := ⟨fun ρ => PO.mono po_none fun σ H Q ⟨F, r, s, e, p⟩ => p F H r .refl s e⟩
theorem co_some (h : CE ca C W e f) : CO ca C W (some e) (E.part f) := ⟨fun ρ => PO.mono (po_some (h.run ρ)) fun σ H Q ⟨F, r, s, e, p⟩ => ⟨F, r, s, e, by
  unfold E.part at p
  cases hf : f ρ with
  | bad => rw [hf] at p; exact p
  | exc c fs ρ1 => rw [hf] at p; exact p
  | ok d ρ1 =>
    rw [hf, R.ok_bind] at p
    intro F1 H1 r1 x g1 s1 e1 ok1 ex1 v1
    subst ex1
    cases x with
    | int i => exact ⟨i, rfl, p F1 H1 r1 g1 s1 e1⟩
    | _ => exact p.elim⟩⟩
def E.sl (f : Ev) (lo hi : Eo) : Ev := fun ρ => (f ρ).bind fun d ρ1 => (lo ρ1).bind fun l ρ2 => (hi ρ2).bind fun h ρ3 => R.of (D.slice d l h) ρ3
def Sl1 (X : Ctx) (C : Cx) (d0 : D) (lo hi : Option Int) (d : D) : Prop := ∃ r, SlR C r ∧ ∀ F H x Q, Sub F H → Ok X F H x → (own x).Nodup → er x = d0 → LPost X F H [x] d Q → r (val x) lo hi H Q
theorem slice_rule {d0 d : D} {lo hi : Option Int} (h : D.slice d0 lo hi = some d) : Sl1 (cx ca C) C d0 lo hi d := by
  unfold D.slice at h
  split at h
  · split at h
    · rename_i hz
      cases h
      refine ⟨_, sl_list, fun F H x Q s ok nd e k => ?_⟩
      obtain ⟨a, xs, rfl, ex⟩ := er_nd e
      subst ex
      have c := er_cold hz
      have c2 := allL_sub c (cutG_mem (lo := lo) (hi := hi))
      refine ⟨a.1, xs.map val, rfl, SqL.of (ok.at_ s), fun p hp => ?_⟩
      have := k.new (xs := cutG xs lo hi) (.inl rfl) s hp (.inl rfl) trivial (ok.kids.sub cutG_mem) (by rw [← mapL_mkL, mkL_cold rfl c2, mapL_eq, mapL_eq, cutG_map]) (allC_notB c2) (by rw [adrL_nil rfl c2]; exact fun _ z => (by cases z))
      rw [cutV_eq, cutG_map]; exact this
    · cases h
  · split at h
    · rename_i hz
      cases h
      refine ⟨_, sl_list, fun F H x Q s ok nd e k => ?_⟩
      obtain ⟨a, xs, rfl, ex⟩ := er_nd e
      subst ex
      have c := er_cold hz
      have c2 := allL_sub c (cutG_mem (lo := lo) (hi := hi))
      refine ⟨a.1, xs.map val, rfl, ok.at_ s, fun p hp => ?_⟩
      have := k.new (xs := cutG xs lo hi) (.inl rfl) s hp (.inl rfl) trivial (ok.kids.sub cutG_mem) (by rw [← mapL_mkL, mkL_cold rfl c2, mapL_eq, mapL_eq, cutG_map]) (allC_notB c2) (by rw [adrL_nil rfl c2]; exact fun _ z => (by cases z))
      rw [cutV_eq, cutG_map]; exact this
    · cases h
  · split at h
    · rename_i hz
      cases h
      refine ⟨_, sl_tup, fun F H x Q s ok nd e k => ?_⟩
      obtain ⟨a, xs, rfl, ex⟩ := er_nd e
      subst ex
      have c := er_cold hz.1
      have c2 := allL_sub c (cutG_mem (lo := lo) (hi := hi))
      refine ⟨a.1, xs.map val, rfl, ok.at_ s, by rw [List.length_map]; rw [mapL_len] at hz; exact hz.2, fun p hp => ?_⟩
      have := k.new (xs := cutG xs lo hi) (.inr rfl) s hp (.inr (.inl rfl)) trivial (ok.kids.sub cutG_mem) (by rw [← mapL_mkL, mkL_cold rfl c2, mapL_eq, mapL_eq, cutG_map]) (allC_notB c2) (by rw [adrL_nil rfl c2]; exact fun _ z => (by cases z))
      rw [cutV_eq, cutG_map]; exact this
    · cases h
  · split at h
    · rename_i hz
      cases h
      refine ⟨_, sl_str, fun F H x Q s ok nd e k => ?_⟩
      rw [er_str e]
      exact ⟨_, rfl, hz, k.plain s rfl⟩
    · cases h
  · cases h
theorem sl_false : SlR C fun _ _ _ _ _ => False := fun _ _ _ _ _ _ _ _ _ _ _ _ _ _ _ _ _ h => h.elim
theorem po_false {e : Option Expr} : PO C e fun _ _ _ => False := ⟨fun _ _ _ _ _ _ h => h.elim⟩
theorem ce_sl {l u : Option Expr} {lo hi : Eo} {p2 : Pos} (ha : CE ca C W a f) (hl : CO ca C W l lo) (hh : CO ca C W u hi) : CE ca C W (.Subscript a (.Slice l u none p2) pos) (E.sl f lo hi) := ⟨fun ρ => by
  cases hf : f ρ with
  | bad => exact PE.mono pe_false fun σ H Q ⟨F, r, s, e, p⟩ => by unfold E.sl at p; rw [hf] at p; exact p
  | exc c fs ρ1 => exact PE.mono (pe_slice sl_false (ha.run ρ) po_false po_false) fun σ H Q ⟨F, r, s, e, p⟩ => ⟨F, r, s, e, by unfold E.sl at p; rw [hf] at p ⊢; exact p⟩
  | ok d ρ1 =>
    cases hlo : lo ρ1 with
    | bad => exact PE.mono pe_false fun σ H Q ⟨F, r, s, e, p⟩ => by unfold E.sl at p; rw [hf, R.ok_bind, hlo] at p; exact p
    | exc c fs ρ2 =>
      refine PE.mono (pe_slice sl_false (ha.run ρ) (hl.run ρ1) po_false) fun σ H Q ⟨F, r, s, e, p⟩ => ⟨F, r, s, e, ?_⟩
      unfold E.sl at p; rw [hf, R.ok_bind, hlo] at p
      rw [hf]
      intro F1 H1 r1 x g1 s1 e1 ok1 ex1 v1
      exact ⟨F1, r1, s1, e1, by rw [hlo]; exact fun F2 H2 r2 dx g2 s2 e2 x2 => p F2 H2 r2 dx (g1.trans s1 g2) s2 e2 x2⟩
    | ok l' ρ2 =>
      cases hhi : hi ρ2 with
      | bad => exact PE.mono pe_false fun σ H Q ⟨F, r, s, e, p⟩ => by unfold E.sl at p; rw [hf, R.ok_bind, hlo, R.ok_bind, hhi] at p; exact p
      | exc c fs ρ3 =>
        refine PE.mono (pe_slice sl_false (ha.run ρ) (hl.run ρ1) (hh.run ρ2)) fun σ H Q ⟨F, r, s, e, p⟩ => ⟨F, r, s, e, ?_⟩
        unfold E.sl at p; rw [hf, R.ok_bind, hlo, R.ok_bind, hhi] at p
        rw [hf]
        intro F1 H1 r1 x g1 s1 e1 ok1 ex1 v1
        refine ⟨F1, r1, s1, e1, ?_⟩
        rw [hlo]
        intro F2 H2 r2 g2 s2 e2
        exact ⟨F2, r2, s2, e2, by rw [hhi]; exact fun F3 H3 r3 dx g3 s3 e3 x3 => p F3 H3 r3 dx ((g1.trans s1 g2).trans s2 g3) s3 e3 x3⟩
      | ok h' ρ3 =>
        cases hd : D.slice d l' h' with
        | none => exact PE.mono pe_false fun σ H Q ⟨F, r, s, e, p⟩ => by unfold E.sl at p; rw [hf, R.ok_bind, hlo, R.ok_bind, hhi, R.ok_bind, hd] at p; exact p
        | some d' =>
          obtain ⟨r0, ho, hr⟩ := slice_rule (ca := ca) (C := C) hd
          refine PE.mono (pe_slice ho (ha.run ρ) (hl.run ρ1) (hh.run ρ2)) fun σ H Q ⟨F, r, s, e, p⟩ => ⟨F, r, s, e, ?_⟩
          unfold E.sl at p; rw [hf, R.ok_bind, hlo, R.ok_bind, hhi, R.ok_bind, hd] at p
          rw [hf]
          intro F1 H1 r1 x g1 s1 e1 ok1 ex1 v1
          refine ⟨F1, r1, s1, e1, ?_⟩
          rw [hlo]
          intro F2 H2 r2 g2 s2 e2
          refine ⟨F2, r2, s2, e2, ?_⟩
          rw [hhi]
          intro F3 H3 r3 g3 s3 e3
          have n1 : ∀ a ∈ own x, a ∉ adrR .o r1 := fun a ha hr1 => (s.own_there (g1.ow a hr1)).1 (v1.new a ha)
          have g123 := (g1.trans s1 g2).trans s2 g3
          exact hr F3 H3 x Q s3.sub (ok1.grow s1 n1 (g2.trans s2 g3)) v1.nd ex1 (fin_leaf s s3 g123 e3 (fun a ha => by rw [adrL_one] at ha; exact v1.new a ha) (fun b hb => by rw [adrL_one] at hb; exact v1.bo b hb) p)⟩
end
end Vl
/-! The value layer, 12: statements. -/
namespace Vl
open PySem PySem.Spec PyProof.Rows L2

inductive SR where
  | nx (ρ : Env) | ret (d : D) (ρ : Env) | bk (ρ : Env) | ct (ρ : Env) | exc (C : Str) (fs : List (Str × D)) (ρ : Env) | bad
abbrev Sv := Env → SR
/-- from one state to another, the slots' objects changed -/
structure GrowS (F H : Hp) (r : AR) (F' H' : Hp) (r' : AR) : Prop where
  same : ∀ a u, a ∉ adrR .o r → H a = some u → H' a = some u
  fs : ∀ a u, F a = some u → F' a = some u
  fr : ∀ a, F a = none → F' a ≠ none → H a = none ∨ a ∈ adrR .o r
  ow : ∀ a ∈ adrR .o r', H a = none ∨ a ∈ adrR .o r
  bo : ∀ b ∈ adrR .b r', b ∈ adrR .b r
  there : ∀ a, H a ≠ none → H' a ≠ none
section
variable {X : Ctx} {F F1 F2 H H1 H2 : Hp} {r r1 r2 : AR} {σ σ1 : St}
theorem Grow.toS (g : Grow F H r F1 H1 r1) : GrowS F H r F1 H1 r1 where
  same := fun a u _ h => g.same a u h
  fs := g.fs
  fr := g.fr
  ow := fun a h => .inr (g.ow a h)
  bo := fun b h => (g.bo b).mp h
  there := fun a h => by
    cases e : H a with
    | none => exact absurd e h
    | some u => rw [g.same a u e]; exact fun z => by cases z
theorem GrowS.refl : GrowS F H r F H r := Grow.refl.toS
theorem GrowS.trans (g : GrowS F H r F1 H1 r1) (g' : GrowS F1 H1 r1 F2 H2 r2) : GrowS F H r F2 H2 r2 where
  same := fun a u ha h => by
    refine g'.same a u (fun h1 => ?_) (g.same a u ha h)
    rcases g.ow a h1 with q | q
    · rw [q] at h; cases h
    · exact ha q
  fs := fun a u h => g'.fs a u (g.fs a u h)
  fr := fun a h h' => by
    cases e : F1 a with
    | some u => exact g.fr a h (by rw [e]; exact fun z => by cases z)
    | none =>
      rcases g'.fr a e h' with q | q
      · refine .inl ?_
        cases e2 : H a with
        | none => rfl
        | some u => exact absurd q (g.there a (by rw [e2]; exact fun z => by cases z))
      · exact g.ow a q
  ow := fun a h => by
    rcases g'.ow a h with q | q
    · refine .inl ?_
      cases e2 : H a with
      | none => rfl
      | some u => exact absurd q (g.there a (by rw [e2]; exact fun z => by cases z))
    · exact g.ow a q
  bo := fun b h => g.bo b (g'.bo b h)
  there := fun a h => g'.there a (g.there a h)
end
/-- a value handed on -/
structure VRet (X : Ctx) (F' H' : Hp) (r' : AR) (x : A) : Prop where
  ok : Ok X F' H' x
  nd : (own x).Nodup
  out : ∀ a ∈ own x, a ∉ adrR .o r'
def PostS (X : Ctx) (W : WX) (F H : Hp) (r : AR) (res : SR) (D : Ends) : Prop := match res with
  | .bad => False
  | .nx ρ' => ∀ F' H' r' σ', GrowS F H r F' H' r' → Stt X F' H' r' σ' → erR r' = ρ' → D.nx σ' H'
  | .bk ρ' => ∀ F' H' r' σ', GrowS F H r F' H' r' → Stt X F' H' r' σ' → erR r' = ρ' → D.bk σ' H'
  | .ct ρ' => ∀ F' H' r' σ', GrowS F H r F' H' r' → Stt X F' H' r' σ' → erR r' = ρ' → D.ct σ' H'
  | .ret d ρ' => ∀ F' H' r' σ' x, GrowS F H r F' H' r' → Stt X F' H' r' σ' → erR r' = ρ' → VRet X F' H' r' x → (∀ a ∈ own x, H a = none ∨ a ∈ adrR .o r) → er x = d → D.rt (val x) H'
  | .exc C fs ρ' => ∀ F' H' r' σ' dx, GrowS F H r F' H' r' → Stt X F' H' r' σ' → erR r' = ρ' → XOk X F' H' dx fs → W (.ref (X.ca C)) dx σ' H'
def rdS (X : Ctx) (W : WX) (f : Sv) (ρ : Env) : TS := fun D σ H => ∃ F r, Stt X F H r σ ∧ erR r = ρ ∧ PostS X W F H r (f ρ) D
/-- the statement st does f -/
structure CS (ca : Ca) (C : Cx) (W : WX) (st : Stmt) (f : Sv) : Prop where
  run : ∀ ρ, PS C st (rdS ⟨C.K, ca.f, ca.fix⟩ W f ρ)
structure CSs (ca : Ca) (C : Cx) (W : WX) (sts : List Stmt) (f : Sv) : Prop where
  run : ∀ ρ, PSs C sts (rdS ⟨C.K, ca.f, ca.fix⟩ W f ρ)
theorem PS.mono {C : Cx} {e : Stmt} {t t' : TS} (h : PS C e t) (i : ∀ D σ H, t' D σ H → t D σ H) : PS C e t' := ⟨fun pins s σ H D I q => h.run pins s σ H D I (i D σ H q)⟩
theorem PSs.mono {C : Cx} {e : List Stmt} {t t' : TS} (h : PSs C e t) (i : ∀ D σ H, t' D σ H → t D σ H) : PSs C e t' := ⟨fun pins s σ H D I q => h.run pins s σ H D I (i D σ H q)⟩
theorem ps_false {C : Cx} {e : Stmt} : PS C e (fun _ _ _ => False) := ⟨fun _ _ _ _ _ _ h => h.elim⟩
theorem pss_false {C : Cx} {e : List Stmt} : PSs C e (fun _ _ _ => False) := ⟨fun _ _ _ _ _ _ h => h.elim⟩
theorem PostS.back {X : Ctx} {W : WX} {F H F1 H1 : Hp} {r r1 : AR} {res : SR} {D : Ends} (g : GrowS F H r F1 H1 r1) (p : PostS X W F H r res D) : PostS X W F1 H1 r1 res D := by
  cases res with
  | bad => exact p
  | nx ρ' => exact fun F' H' r' σ' g' s' e' => p F' H' r' σ' (g.trans g') s' e'
  | bk ρ' => exact fun F' H' r' σ' g' s' e' => p F' H' r' σ' (g.trans g') s' e'
  | ct ρ' => exact fun F' H' r' σ' g' s' e' => p F' H' r' σ' (g.trans g') s' e'
  | ret d ρ' =>
    refine fun F' H' r' σ' x g' s' e' v o ex => p F' H' r' σ' x (g.trans g') s' e' v (fun a ha => ?_) ex
    rcases o a ha with q | q
    · refine .inl ?_
      cases e2 : H a with
      | none => rfl
      | some u => exact absurd q (g.there a (by rw [e2]; exact fun z => by cases z))
    · exact g.ow a q
  | exc c fs ρ' => exact fun F' H' r' σ' dx g' s' e' x => p F' H' r' σ' dx (g.trans g') s' e' x
theorem PostS.imp {X : Ctx} {W : WX} {F H : Hp} {r : AR} {res : SR} {D D' : Ends} (p : PostS X W F H r res D) (hn : ∀ σ H, D.nx σ H → D'.nx σ H) (hr : ∀ v H, D.rt v H → D'.rt v H) (hb : ∀ σ H, D.bk σ H → D'.bk σ H) (hc : ∀ σ H, D.ct σ H → D'.ct σ H) : PostS X W F H r res D' := by
  cases res with
  | bad => exact p
  | nx ρ' => exact fun F' H' r' σ' g' s' e' => hn _ _ (p F' H' r' σ' g' s' e')
  | bk ρ' => exact fun F' H' r' σ' g' s' e' => hb _ _ (p F' H' r' σ' g' s' e')
  | ct ρ' => exact fun F' H' r' σ' g' s' e' => hc _ _ (p F' H' r' σ' g' s' e')
  | ret d ρ' => exact fun F' H' r' σ' x g' s' e' v o ex => hr _ _ (p F' H' r' σ' x g' s' e' v o ex)
  | exc c fs ρ' => exact p

def SR.andThen (x : SR) (k : Sv) : SR := match x with
  | .nx ρ => k ρ
  | y => y
def R.toS {β : Type} (x : R β) (k : β → Env → SR) : SR := match x with
  | .ok v ρ => k v ρ
  | .exc C fs ρ => .exc C fs ρ
  | .bad => .bad
theorem R.ok_toS {β : Type} (v : β) (ρ : Env) (k : β → Env → SR) : (R.ok v ρ).toS k = k v ρ := rfl
def S.nil : Sv := fun ρ => .nx ρ
def S.seq (f g : Sv) : Sv := fun ρ => (f ρ).andThen g
def S.brk : Sv := fun ρ => .bk ρ
def S.cont : Sv := fun ρ => .ct ρ
def S.ret (f : Ev) : Sv := fun ρ => (f ρ).toS fun d ρ1 => if d.nob = true then .ret d ρ1 else .bad
def S.retN : Sv := fun ρ => .ret .non ρ
def S.ite (c : Ev) (f g : Sv) : Sv := fun ρ => (c ρ).toS fun d ρ1 => match d with
  | .bl true => f ρ1
  | .bl false => g ρ1
  | _ => .bad
def S.ex (f : Ev) : Sv := fun ρ => (f ρ).toS fun _ ρ1 => .nx ρ1
abbrev Gv := D → Env → Option Env
def G.name (i : Nat) : Gv := fun d ρ => if i < ρ.length then some (ρ.set i (some d)) else none
def S.asg (f : Ev) (g : Gv) : Sv := fun ρ => (f ρ).toS fun d ρ1 => if d.nob = true then match g d ρ1 with
  | some ρ2 => .nx ρ2
  | none => .bad
  else .bad
/-- only the slots ss differ -/
def Only (ss : List Nat) (σ σ' : St) : Prop := σ'.length = σ.length ∧ ∀ j, j ∉ ss → σ'[j]? = σ[j]?
theorem Only.trans {s1 s2 : List Nat} {σ σ1 σ2 : St} (h : Only s1 σ σ1) (h' : Only s2 σ1 σ2) : Only (s1 ++ s2) σ σ2 :=
  ⟨h'.1.trans h.1, fun j hj => (h'.2 j fun z => hj (List.mem_append_right _ z)).trans (h.2 j fun z => hj (List.mem_append_left _ z))⟩
/-- a target -/
def rdG (X : Ctx) (ss : List Nat) (d : D) (ρ ρ' : Env) : TG := fun v σ H Q => ∃ F r x, Stt X F H r σ ∧ erR r = ρ ∧ val x = v ∧ er x = d ∧ Ok X F H x ∧ (own x).Nodup ∧ (∀ a ∈ own x, a ∉ adrR .o r) ∧ (∀ a ∈ own x, a ∉ adrR .b r) ∧ (∀ b ∈ bor x, b ∈ adrR .b r) ∧
  ∀ r' σ', Stt X F H r' σ' → erR r' = ρ' → (∀ a ∈ adrR .o r', a ∈ adrR .o r ∨ a ∈ own x) → (∀ b ∈ adrR .b r', b ∈ adrR .b r) → Only ss σ σ' → Q σ' H
structure CG (ca : Ca) (C : Cx) (t : Expr) (ss : List Nat) (g : Gv) : Prop where
  run : ∀ d ρ ρ', g d ρ = some ρ' → PG C t (rdG ⟨C.K, ca.f, ca.fix⟩ ss d ρ ρ')
section
variable {ca : Ca} {C : Cx} {W : WX} {e a b t : Expr} {st : Stmt} {rest : List Stmt} {f f' : Ev} {g : Gv} {u v : Sv} {pos : Pos} {ρ : Env}
theorem css_nil : CSs ca C W [] S.nil := ⟨fun ρ => PSs.mono pss_nil fun D σ H ⟨F, r, s, e, p⟩ => p F H r σ .refl s e⟩
theorem css_cons (h : CS ca C W st u) (k : CSs ca C W rest v) : CSs ca C W (st :: rest) (S.seq u v) := ⟨fun ρ => by
  cases hu : u ρ with
  | nx ρ1 =>
    refine PSs.mono (pss_cons (h.run ρ) (k.run ρ1)) fun D σ H ⟨F, r, s, e, p⟩ => ⟨F, r, s, e, ?_⟩
    unfold S.seq at p; rw [hu] at p
    rw [hu]
    exact fun F1 H1 r1 σ1 g1 s1 e1 => ⟨F1, r1, s1, e1, PostS.back g1 p⟩
  | bad => exact PSs.mono pss_false fun D σ H ⟨F, r, s, e, p⟩ => by unfold S.seq at p; rw [hu] at p; exact p
  | bk ρ1 => exact PSs.mono (pss_cons (h.run ρ) pss_false) fun D σ H ⟨F, r, s, e, p⟩ => ⟨F, r, s, e, by unfold S.seq at p; rw [hu] at p ⊢; exact p⟩
  | ct ρ1 => exact PSs.mono (pss_cons (h.run ρ) pss_false) fun D σ H ⟨F, r, s, e, p⟩ => ⟨F, r, s, e, by unfold S.seq at p; rw [hu] at p ⊢; exact p⟩
  | ret d ρ1 => exact PSs.mono (pss_cons (h.run ρ) pss_false) fun D σ H ⟨F, r, s, e, p⟩ => ⟨F, r, s, e, by unfold S.seq at p; rw [hu] at p ⊢; exact p⟩
  | exc c fs ρ1 => exact PSs.mono (pss_cons (h.run ρ) pss_false) fun D σ H ⟨F, r, s, e, p⟩ => ⟨F, r, s, e, by unfold S.seq at p; rw [hu] at p ⊢; exact p⟩⟩
theorem cs_pass : CS ca C W (.Pass pos) S.nil := ⟨fun ρ => PS.mono ps_pass fun D σ H ⟨F, r, s, e, p⟩ => p F H r σ .refl s e⟩
theorem cs_brk : CS ca C W (.Break pos) S.brk := ⟨fun ρ => PS.mono ps_break fun D σ H ⟨F, r, s, e, p⟩ => p F H r σ .refl s e⟩
theorem cs_cont : CS ca C W (.Continue pos) S.cont := ⟨fun ρ => PS.mono ps_continue fun D σ H ⟨F, r, s, e, p⟩ => p F H r σ .refl s e⟩
theorem cs_retN : CS ca C W (.Return none pos) S.retN := ⟨fun ρ => PS.mono ps_retN fun D σ H ⟨F, r, s, e, p⟩ => p F H r σ .non .refl s e ⟨trivial, List.nodup_nil, fun _ z => (by cases z)⟩ (fun _ z => (by cases z)) rfl⟩
/-- an exception of an expression is the statement's -/
theorem exc_toS {X : Ctx} {F H : Hp} {r : AR} {σ : St} {n : Str} {fs : List (Str × D)} {ρ1 : Env} {D : Ends} {Q : VK} (p : PostS X W F H r (.exc n fs ρ1) D) : PostE X W σ F H r (.exc n fs ρ1) Q :=
  fun F' H' r' dx g s e x => p F' H' r' σ dx g.toS s e x
theorem cs_ret (h : CE ca C W e f) : CS ca C W (.Return (some e) pos) (S.ret f) := ⟨fun ρ => by
  refine PS.mono (ps_ret (h.run ρ)) fun D σ H ⟨F, r, s, e, p⟩ => ⟨F, r, s, e, ?_⟩
  unfold S.ret at p
  cases hf : f ρ with
  | bad => rw [hf] at p; exact p
  | exc c fs ρ1 => rw [hf] at p; exact exc_toS p
  | ok d ρ1 =>
    rw [hf, R.ok_toS] at p
    split at p
    · rename_i hn
      intro F1 H1 r1 x g1 s1 e1 ok1 ex1 v1
      exact p F1 H1 r1 σ x g1.toS s1 e1 ⟨ok1, v1.nd, fun a ha hr => (s.own_there (g1.ow a hr)).1 (v1.new a ha)⟩ (fun a ha => .inl (v1.new a ha)) ex1
    · exact p.elim⟩
theorem cs_ex (h : CE ca C W e f) (hs : swapsWith e none pos.line C.env = pure false := by rfl) : CS ca C W (.Expr e pos) (S.ex f) := ⟨fun ρ => by
  refine PS.mono (ps_expr (h.run ρ) hs) fun D σ H ⟨F, r, s, e, p⟩ => ⟨F, r, s, e, ?_⟩
  unfold S.ex at p
  cases hf : f ρ with
  | bad => rw [hf] at p; exact p
  | exc c fs ρ1 => rw [hf] at p; exact exc_toS p
  | ok d ρ1 =>
    rw [hf, R.ok_toS] at p
    exact fun F1 H1 r1 x g1 s1 e1 ok1 ex1 v1 => p F1 H1 r1 σ g1.toS s1 e1⟩
theorem cs_ite {tt ee : List Stmt} {c : Expr} {h : Ev} (hc : CT ca C W c h) (ht : CSs ca C W tt u) (he : CSs ca C W ee v) : CS ca C W (.If c tt ee pos) (S.ite h u v) := ⟨fun ρ => by
  cases hf : h ρ with
  | bad => exact PS.mono ps_false fun D σ H ⟨F, r, s, e, p⟩ => by unfold S.ite at p; rw [hf] at p; exact p
  | exc n fs ρ1 =>
    refine PS.mono (ps_if (hc.run ρ) pss_false pss_false) fun D σ H ⟨F, r, s, e, p⟩ => ?_
    unfold S.ite at p; rw [hf] at p
    exact test_exc (Q' := fun _ _ => True) hf F r s e (exc_toS p)
  | ok d ρ1 =>
    cases d with
    | bl k =>
      refine PS.mono (ps_if (hc.run ρ) (ht.run ρ1) (he.run ρ1)) fun D σ H ⟨F, r, s, e, p⟩ => ?_
      unfold S.ite at p; rw [hf, R.ok_toS] at p
      refine test_step hf F r s e fun F1 H1 r1 g1 s1 e1 => ?_
      cases k with
      | true => rw [if_pos rfl]; exact ⟨F1, r1, s1, e1, PostS.back g1.toS p⟩
      | false => rw [if_neg (by decide)]; exact ⟨F1, r1, s1, e1, PostS.back g1.toS p⟩
    | _ => exact PS.mono ps_false fun D σ H ⟨F, r, s, e, p⟩ => by unfold S.ite at p; rw [hf] at p; exact p⟩
theorem PG.mono {C : Cx} {e : Expr} {t t' : TG} (h : PG C e t) (i : ∀ v σ H Q, t' v σ H Q → t v σ H Q) : PG C e t' := ⟨fun pins s σ H x u Q I r q => h.run pins s σ H x u Q I r (i x σ H Q q)⟩
theorem pg_false {C : Cx} {e : Expr} : PG C e (fun _ _ _ _ => False) := ⟨fun _ _ _ _ _ _ _ _ _ h => h.elim⟩
theorem cs_asg {ss : List Nat} (h : CE ca C W e f) (k : CG ca C t ss g) (hs : swapsWithSole [t] e pos.line C.env = pure false := by rfl) (hw : swappedStores [t] e C.env = pure none := by rfl) (h1 : List.map (·.2) (assignEach [t] C.env) = [assign t C.env] := by rfl) : CS ca C W (.Assign [t] e pos) (S.asg f g) := ⟨fun ρ => by
  cases hf : f ρ with
  | bad => exact PS.mono ps_false fun D σ H ⟨F, r, s, e, p⟩ => by unfold S.asg at p; rw [hf] at p; exact p
  | exc c fs ρ1 => exact PS.mono (ps_asg (h.run ρ) pg_false hs hw h1) fun D σ H ⟨F, r, s, e, p⟩ => ⟨F, r, s, e, by unfold S.asg at p; rw [hf] at p ⊢; exact exc_toS p⟩
  | ok d ρ1 =>
    by_cases hn : d.nob = true
    · cases hg : g d ρ1 with
      | none => exact PS.mono ps_false fun D σ H ⟨F, r, s, e, p⟩ => by unfold S.asg at p; rw [hf, R.ok_toS, if_pos hn, hg] at p; exact p
      | some ρ2 =>
        refine PS.mono (ps_asg (h.run ρ) (k.run d ρ1 ρ2 hg) hs hw h1) fun D σ H ⟨F, r, s, e, p⟩ => ⟨F, r, s, e, ?_⟩
        unfold S.asg at p; rw [hf, R.ok_toS, if_pos hn, hg] at p
        rw [hf]
        intro F1 H1 r1 x g1 s1 e1 ok1 ex1 v1
        have nb : x.nob = true := by rw [← hn, ← ex1]; exact (T.all_map _ _ x).symm
        refine ⟨F1, r1, x, s1, e1, rfl, ex1, ok1, v1.nd, fun a ha hr => (s.own_there (g1.ow a hr)).1 (v1.new a ha), fun a ha hr => s.bor_there ((g1.bo a).mp hr) (v1.new a ha), fun b hb => (by have q0 : bor x = [] := nob_bor nb; rw [q0] at hb; cases hb), fun r2 σ2 s2 e2 ow bo _ => ?_⟩
        refine p F1 H1 r2 σ2 ⟨g1.toS.same, g1.fs, g1.fr, fun a ha => ?_, fun b hb => (g1.bo b).mp (bo b hb), g1.toS.there⟩ s2 e2
        rcases ow a ha with q | q
        · exact .inr (g1.ow a q)
        · exact .inl (v1.new a q)
    · exact PS.mono ps_false fun D σ H ⟨F, r, s, e, p⟩ => by unfold S.asg at p; rw [hf, R.ok_toS, if_neg hn] at p; exact p⟩
/-- a slot is given another value -/
theorem Stt.setSlot {X : Ctx} {F H : Hp} {r : AR} {σ : St} {i : Nat} {x : A} (s : Stt X F H r σ) (hfx : ∀ p ∈ X.fix, p.1 ≠ i) (hi : i < r.length) (ok : Ok X F H x) (nd : (own x).Nodup) (out : ∀ a ∈ own x, a ∉ adrR .o r) (outb : ∀ a ∈ own x, a ∉ adrR .b r) (bo : ∀ b ∈ bor x, b ∈ adrR .b r) :
    Stt X F H (r.set i (some x)) (σ.set i (some (Vl.val x))) ∧ (∀ a ∈ adrR .o (r.set i (some x)), a ∈ adrR .o r ∨ a ∈ own x) ∧ (∀ b ∈ adrR .b (r.set i (some x)), b ∈ adrR .b r) := by
  obtain ⟨o, ho⟩ : ∃ o, r[i]? = some o := ⟨r[i], List.getElem?_eq_getElem hi⟩
  have mo : ∀ a ∈ adrR .o (r.set i (some x)), a ∈ adrR .o r ∨ a ∈ own x := fun a ha => by
    rcases flat_mem (g := adrO .o) (y := some x) ho s.nd ha with q | q
    · exact .inr q
    · exact .inl q.1
  have mb : ∀ b ∈ adrR .b (r.set i (some x)), b ∈ adrR .b r := fun b hb => by
    obtain ⟨y, hy, hby⟩ := mem_adrR.mp hb
    obtain ⟨j, hj⟩ := List.mem_iff_getElem?.mp hy
    by_cases q : j = i
    · subst q
      rw [List.getElem?_set_self hi] at hj
      have e : x = y := Option.some.inj (Option.some.inj hj)
      subst e
      exact bo b hby
    · rw [List.getElem?_set_ne (Ne.symm q)] at hj
      exact mem_adrR.mpr ⟨y, List.mem_of_getElem? hj, hby⟩
  refine ⟨⟨?_, fun y hy => ?_, flat_nodup (g := adrO .o) ho s.nd nd fun a ha => .inr (out a ha), fun b hb h => ?_, s.sub, fun p hp => (by rw [List.getElem?_set_ne (fun z => hfx p hp z.symm)]; exact s.fx p hp)⟩, mo, mb⟩
  · rw [s.val]
    unfold valR
    rw [List.map_set]
    rfl
  · obtain ⟨j, hj⟩ := List.mem_iff_getElem?.mp hy
    by_cases q : j = i
    · subst q
      rw [List.getElem?_set_self hi] at hj
      have e : x = y := Option.some.inj (Option.some.inj hj)
      subst e
      exact ok
    · rw [List.getElem?_set_ne (Ne.symm q)] at hj
      exact s.ok y (List.mem_of_getElem? hj)
  · have hb' := mb b hb
    rcases mo b h with q | q
    · exact s.bd b hb' q
    · exact outb b q hb'
theorem cg_name {i : Nat} {x : Str} (hfx : ∀ p ∈ ca.fix, p.1 ≠ i) (hd : C.N.Nodup) (hN : C.N[i]? = some x := by rfl) (hl : C.env.scope.names.lookup x = some .local ∨ C.env.scope.names.lookup x = some .cell := by first | exact Or.inl rfl | exact Or.inr rfl) (hf : C.fn x = true ∨ C.env.scope.names.lookup x = some .local := by first | exact .inl rfl | exact .inr rfl) {pos : Pos} : CG ca C (.Name x pos) [i] (G.name i) := ⟨fun d ρ ρ' hg => by
  unfold G.name at hg
  split at hg
  · rename_i hi
    cases hg
    refine PG.mono (pg_name hd hN hl hf) fun v σ H Q ⟨F, r, y, s, e, ev, ex, ok, nd, out, outb, bo, k⟩ => ?_
    have hi' : i < r.length := by rw [← e] at hi; unfold erR at hi; rw [List.length_map] at hi; exact hi
    obtain ⟨s2, mo, mb⟩ := s.setSlot hfx hi' ok nd out outb bo
    rw [← ev]
    refine k _ _ s2 ?_ mo mb ⟨List.length_set, fun j hj => List.getElem?_set_ne fun z => hj (by rw [z]; exact List.mem_singleton.mpr rfl)⟩
    unfold erR
    rw [List.map_set, ← e]
    show (List.map (Option.map er) r).set i (some (er y)) = (erR r).set i (some d)
    rw [ex]; rfl
  · cases hg⟩
end
end Vl
/-! The value layer, 13: what a loop walks; for. -/
namespace Vl
open PySem PySem.Spec PyProof.Rows L2

/-- J hands out the items ds, one a turn, in any later state -/
def ItOk (X : Ctx) (J : It) (F' H' : Hp) (r' : AR) (ds : List D) : Prop := ∀ i F2 H2 r2 σ2, GrowS F' H' r' F2 H2 r2 → Stt X F2 H2 r2 σ2 →
  (∀ d, ds[i]? = some d → J.go i H2 ∧ ∀ x H3, J.yld i H2 x H3 → ∃ F3 z, Grow F2 H2 r2 F3 H3 r2 ∧ Stt X F3 H3 r2 σ2 ∧ Ok X F3 H3 z ∧ er z = d ∧ val z = x ∧ z.cold = true) ∧ (ds.length ≤ i → J.stop i H2)
def PostI (X : Ctx) (W : WX) (σ : St) (F H : Hp) (r : AR) (res : R (List D)) (Q : It → Hp → Prop) : Prop := match res with
  | .bad => False
  | .ok ds ρ' => ∀ F' H' r' J, Grow F H r F' H' r' → Stt X F' H' r' σ → erR r' = ρ' → ItOk X J F' H' r' ds → Q J H'
  | .exc C fs ρ' => ∀ F' H' r' dx, Grow F H r F' H' r' → Stt X F' H' r' σ → erR r' = ρ' → XOk X F' H' dx fs → W (.ref (X.ca C)) dx σ H'
abbrev Iv := Env → R (List D)
def rdI (X : Ctx) (W : WX) (f : Iv) (ρ : Env) : TI := fun σ H Q => ∃ F r, Stt X F H r σ ∧ erR r = ρ ∧ PostI X W σ F H r (f ρ) Q
structure CI (ca : Ca) (C : Cx) (W : WX) (tg e : Expr) (f : Iv) : Prop where
  run : ∀ ρ, PI C tg e (rdI ⟨C.K, ca.f, ca.fix⟩ W f ρ)
theorem PI.mono {C : Cx} {tg e : Expr} {t t' : TI} (h : PI C tg e t) (i : ∀ σ H Q, t' σ H Q → t σ H Q) : PI C tg e t' := ⟨fun pins s σ H R I q => h.run pins s σ H R I (i σ H R q)⟩
theorem pi_false {C : Cx} {tg e : Expr} : PI C tg e (fun _ _ _ => False) := ⟨fun _ _ _ _ _ _ h => h.elim⟩
/-- what a value that is walked hands out -/
def D.its : D → Option (List D)
  | .nd .lst m _ xs => if m ≠ .b ∧ allL isC xs = true then some xs else none
  | .nd .scr .c _ xs => some xs
  | .nd .tup .c _ xs => some xs
  | .str z => some (z.cps.toList.map fun c => .str ⟨#[c]⟩)
  | _ => none
def I.of (f : Ev) : Iv := fun ρ => (f ρ).bind fun d ρ1 => match D.its d with
  | some ds => .ok ds ρ1
  | none => .bad
/-- range(n), range(a, b) -/
def rangeD (lo : Int) (n : Nat) : List D := (List.range n).map fun (i : Nat) => .int (lo + i)
def okRg (i : Int) : Bool := decide (-(2 ^ 62) ≤ i ∧ i < 2 ^ 62)
def I.range1 (f : Env → R (List D)) : Iv := fun ρ => (f ρ).bind fun ds ρ1 => match ds with
  | [.int j] => if okRg j = true then .ok (rangeD 0 j.toNat) ρ1 else .bad
  | _ => .bad
def I.range2 (f : Env → R (List D)) : Iv := fun ρ => (f ρ).bind fun ds ρ1 => match ds with
  | [.int i, .int j] => if okRg i = true ∧ okRg j = true then .ok (rangeD i (j - i).toNat) ρ1 else .bad
  | _ => .bad
def forL (g : Gv) (body : Sv) : List D → Env → SR
  | [], ρ => .nx ρ
  | d :: ds, ρ => match g d ρ with
    | none => .bad
    | some ρ1 => match body ρ1 with
      | .nx ρ2 => forL g body ds ρ2
      | .ct ρ2 => forL g body ds ρ2
      | .bk ρ2 => .nx ρ2
      | y => y
def S.for_ (f : Iv) (g : Gv) (body : Sv) : Sv := fun ρ => (f ρ).toS fun ds ρ1 => forL g body ds ρ1
section
variable {X : Ctx} {F F' H H' : Hp} {r r' : AR} {σ : St} {W : WX}
theorem Grow.same_ (s : Stt X F H r σ) : Grow F H r F H r := .refl
theorem ItOk.of_static {J : It} {ds : List D} (zs : List A) (hz : zs.map er = ds) (hc : ∀ z ∈ zs, z.cold = true) (hok : ∀ z ∈ zs, Ok X F' H' z)
    (hgo : ∀ i F2 H2 r2 σ2, GrowS F' H' r' F2 H2 r2 → Stt X F2 H2 r2 σ2 → (∀ z, zs[i]? = some z → J.go i H2 ∧ ∀ x H3, J.yld i H2 x H3 → H3 = H2 ∧ val z = x) ∧ (zs.length ≤ i → J.stop i H2)) : ItOk X J F' H' r' ds := by
  intro i F2 H2 r2 σ2 g s
  obtain ⟨h1, h2⟩ := hgo i F2 H2 r2 σ2 g s
  refine ⟨fun d hd => ?_, fun h => h2 (by rw [← hz, List.length_map] at h; exact h)⟩
  rw [← hz, List.getElem?_map] at hd
  cases e : zs[i]? with
  | none => rw [e] at hd; cases hd
  | some z =>
    rw [e] at hd
    obtain ⟨a, b⟩ := h1 z e
    refine ⟨a, fun x H3 y => ?_⟩
    obtain ⟨rfl, ev⟩ := b x H3 y
    have hm := List.mem_of_getElem? e
    have c := hc z hm
    have ok2 : Ok X F2 H3 z := cold_move (hok z hm) c g.fs
    exact ⟨F2, z, .refl, s, ok2, Option.some.inj hd, ev, c⟩
where
  cold_move {X : Ctx} {F H F' H' : Hp} {z : A} (ok : Ok X F H z) (c : z.cold = true) (fs : ∀ a u, F a = some u → F' a = some u) : Ok X F' H' z :=
    Ok.stay ok (T.all_imp (fun m hm => by cases m <;> first | rfl | exact absurd hm Bool.false_ne_true) c) fs fun a ha => by rw [cold_own c] at ha; cases ha
end
section
variable {ca : Ca} {C : Cx} {W : WX} {e a b tg : Expr} {es body : List Stmt} {f : Ev} {fi : Iv} {fa : Env → R (List D)} {g : Gv} {u : Sv} {pos : Pos} {ρ : Env}
theorem ci_of (h : CE ca C W e f) : CI ca C W tg e (I.of f) := ⟨fun ρ => by
  cases hf : f ρ with
  | bad => exact PI.mono pi_false fun σ H Q ⟨F, r, s, e, p⟩ => by unfold I.of at p; rw [hf] at p; exact p
  | exc c fs ρ1 => exact PI.mono (pi_list (h.run ρ)) fun σ H Q ⟨F, r, s, e, p⟩ => ⟨F, r, s, e, by unfold I.of at p; rw [hf] at p ⊢; exact p⟩
  | ok d ρ1 =>
    cases hi : D.its d with
    | none => exact PI.mono pi_false fun σ H Q ⟨F, r, s, e, p⟩ => by unfold I.of at p; rw [hf, R.ok_bind, hi] at p; exact p
    | some ds =>
      unfold D.its at hi
      split at hi
      · -- a list
        rename_i m u0 xs0
        split at hi
        · rename_i hz
          cases hi
          refine PI.mono (pi_list (h.run ρ)) fun σ H Q ⟨F, r, s, e, p⟩ => ⟨F, r, s, e, ?_⟩
          unfold I.of at p; rw [hf, R.ok_bind, show D.its (.nd .lst m u0 ds) = some ds from if_pos hz] at p
          rw [hf]
          intro F1 H1 r1 x g1 s1 e1 ok1 ex1 v1
          obtain ⟨ad, xs, rfl, exs⟩ := er_nd ex1
          subst exs
          have c := er_cold hz.2
          have call : ∀ z ∈ xs, z.cold = true := fun z hz => by rw [allL_eq, List.all_eq_true] at c; exact c z hz
          refine ⟨ad.1, rfl, ⟨_, SqL.of (ok1.at_ s1.sub)⟩, ?_⟩
          -- the list is settled ahead of the walk
          have noB : (T.nd .lst m ad xs : A).nob = true := by
            rw [T.nob, T.all, Bool.and_eq_true]
            exact ⟨by cases m <;> first | rfl | exact absurd rfl hz.1, allC_notB c⟩
          have hown : ∀ q ∈ own (T.nd .lst m ad xs), q ∉ adrR .o r1 := fun q hq hr => (s.own_there (g1.ow q hr)).1 (v1.new q hq)
          have ff : ∀ q w, F1 q = some w → frz F1 H1 (own (T.nd .lst m ad xs)) q = some w := fun q w hw => by
            rw [frz_out (fun hq => by rw [(ok1.own_there q hq).2] at hw; cases hw)]; exact hw
          have sb : Sub (frz F1 H1 (own (T.nd .lst m ad xs))) H1 := fun q w hw => by
            by_cases hq : q ∈ own (T.nd .lst m ad xs)
            · rw [frz_in hq] at hw; exact .inl hw
            · rw [frz_out hq] at hw; exact s1.sub q w hw
          have fr : ∀ q, F1 q = none → frz F1 H1 (own (T.nd .lst m ad xs)) q ≠ none → H1 q = none ∨ q ∉ adrR .o r1 := fun q h1 h2 => by
            by_cases hq : q ∈ own (T.nd .lst m ad xs)
            · exact .inr (hown q hq)
            · rw [frz_out hq] at h2; exact absurd h1 h2
          have s2 := s1.grow0 (fun _ _ h => h) ff fr sb
          have okz : Ok (cx ca C) (frz F1 H1 (own (T.nd .lst m ad xs))) H1 (T.nd .lst m ad xs).fz := ok1.fz noB ff fun q hq => frz_in hq
          have g2 : Grow F H r (frz F1 H1 (own (T.nd .lst m ad xs))) H1 r1 := ⟨g1.same, fun q w hw => ff q w (g1.fs q w hw), fun q h1 h2 => (by
            cases e : F1 q with
            | some w => exact g1.fr q h1 (by rw [e]; exact fun z => by cases z)
            | none =>
              by_cases hq : q ∈ own (T.nd .lst m ad xs)
              · exact .inl (v1.new q hq)
              · rw [frz_out hq, e] at h2; exact absurd rfl h2), g1.ow, g1.bo, g1.un⟩
          have hlst : ∀ F2 H2 r2 σ2, GrowS (frz F1 H1 (own (T.nd .lst m ad xs))) H1 r1 F2 H2 r2 → Stt (cx ca C) F2 H2 r2 σ2 → SqL C.K H2 ad.1 (xs.map val) := fun F2 H2 r2 σ2 gg ss => by
            have a0 := okz.1.2.1
            have a1 : At C.K ca F2 .lst ad ((mkL calm xs).map val) := a0.same gg.fs
            rw [valL_mk] at a1
            exact SqL.of (ss.sub.at_ a1)
          refine p _ H1 r1 _ g2 s2 e1 (ItOk.of_static xs (by rw [mapL_eq]) call (fun z hz => ?_) fun i F2 H2 r2 σ2 gg ss => ?_)
          · have := OkL_iff.mp okz.2 z (by rw [mkL_cold rfl c]; exact hz)
            exact this
          · have hq := hlst F2 H2 r2 σ2 gg ss
            refine ⟨fun z hz => ⟨⟨xs.map val, val z, hq, by rw [List.getElem?_map, hz]; rfl⟩, fun x H3 y => ⟨y.1, ?_⟩⟩, fun hl => ⟨xs.map val, hq, by rw [List.length_map]; exact hl⟩⟩
            have := y.2 _ hq
            rw [List.getElem?_map, hz] at this
            exact Option.some.inj this
        · cases hi
      · -- the script, a written list
        rename_i u0 xs0
        cases hi
        refine PI.mono (pi_list (h.run ρ)) fun σ H Q ⟨F, r, s, e, p⟩ => ⟨F, r, s, e, ?_⟩
        unfold I.of at p; rw [hf, R.ok_bind, show D.its (.nd .scr .c u0 ds) = some ds from rfl] at p
        rw [hf]
        intro F1 H1 r1 x g1 s1 e1 ok1 ex1 v1
        obtain ⟨ad, xs, rfl, exs⟩ := er_nd ex1
        subst exs
        have c := ok1.1.2.2
        have call : ∀ z ∈ xs, z.cold = true := fun z hz => by rw [allL_eq, List.all_eq_true] at c; exact c z hz
        refine ⟨ad.1, rfl, ⟨_, ok1.at_ s1.sub⟩, ?_⟩
        have hlst : ∀ F2 H2 r2 σ2, GrowS F1 H1 r1 F2 H2 r2 → Stt (cx ca C) F2 H2 r2 σ2 → SqL C.K H2 ad.1 (xs.map val) := fun F2 H2 r2 σ2 gg ss => by
          have a1 : At C.K ca F2 .scr ad (xs.map val) := At.same ok1.1.2.1 gg.fs
          exact ss.sub.at_ a1
        refine p _ H1 r1 _ g1 s1 e1 (ItOk.of_static xs (by rw [mapL_eq]) call (fun z hz => OkL_iff.mp ok1.2 z hz) fun i F2 H2 r2 σ2 gg ss => ?_)
        have hq := hlst F2 H2 r2 σ2 gg ss
        refine ⟨fun z hz => ⟨⟨xs.map val, val z, hq, by rw [List.getElem?_map, hz]; rfl⟩, fun x H3 y => ⟨y.1, ?_⟩⟩, fun hl => ⟨xs.map val, hq, by rw [List.length_map]; exact hl⟩⟩
        have := y.2 _ hq
        rw [List.getElem?_map, hz] at this
        exact Option.some.inj this
      · -- a tuple
        rename_i u0 xs0
        cases hi
        refine PI.mono (pi_tup (h.run ρ)) fun σ H Q ⟨F, r, s, e, p⟩ => ⟨F, r, s, e, ?_⟩
        unfold I.of at p; rw [hf, R.ok_bind, show D.its (.nd .tup .c u0 ds) = some ds from rfl] at p
        rw [hf]
        intro F1 H1 r1 x g1 s1 e1 ok1 ex1 v1
        obtain ⟨ad, xs, rfl, exs⟩ := er_nd ex1
        subst exs
        have c := ok1.1.2.2
        have call : ∀ z ∈ xs, z.cold = true := fun z hz => by rw [allL_eq, List.all_eq_true] at c; exact c z hz
        refine ⟨ad.1, rfl, ⟨_, ok1.at_ s1.sub⟩, ?_⟩
        have hlst : ∀ F2 H2 r2 σ2, GrowS F1 H1 r1 F2 H2 r2 → Stt (cx ca C) F2 H2 r2 σ2 → SqT C.K H2 ad.1 (xs.map val) := fun F2 H2 r2 σ2 gg ss => by
          have a1 : At C.K ca F2 .tup ad (xs.map val) := At.same ok1.1.2.1 gg.fs
          exact ss.sub.at_ a1
        refine p _ H1 r1 _ g1 s1 e1 (ItOk.of_static xs (by rw [mapL_eq]) call (fun z hz => OkL_iff.mp ok1.2 z hz) fun i F2 H2 r2 σ2 gg ss => ?_)
        have hq := hlst F2 H2 r2 σ2 gg ss
        refine ⟨fun z hz => ⟨⟨xs.map val, val z, hq, by rw [List.getElem?_map, hz]; rfl⟩, fun x H3 y => ⟨y.1, ?_⟩⟩, fun hl => ⟨xs.map val, hq, by rw [List.length_map]; exact hl⟩⟩
        have := y.2 _ hq
        rw [List.getElem?_map, hz] at this
        exact Option.some.inj this
      · -- a text
        rename_i z
        cases hi
        refine PI.mono (pi_str (h.run ρ)) fun σ H Q ⟨F, r, s, e, p⟩ => ⟨F, r, s, e, ?_⟩
        unfold I.of at p; rw [hf, R.ok_bind, show D.its (.str z) = some (z.cps.toList.map fun c => .str ⟨#[c]⟩) from rfl] at p
        rw [hf]
        intro F1 H1 r1 x g1 s1 e1 ok1 ex1 v1
        refine ⟨z, by rw [er_str ex1]; rfl, ?_⟩
        refine p F1 H1 r1 _ g1 s1 e1 (ItOk.of_static (z.cps.toList.map fun c => (.str ⟨#[c]⟩ : A)) (by rw [List.map_map]; rfl) (fun w hw => ?_) (fun w hw => ?_) fun i F2 H2 r2 σ2 gg ss => ?_)
        · obtain ⟨c, _, rfl⟩ := List.mem_map.mp hw; rfl
        · obtain ⟨c, _, rfl⟩ := List.mem_map.mp hw; trivial
        · refine ⟨fun w hw => ?_, fun hl => by rw [List.length_map, Array.length_toList] at hl; exact hl⟩
          rw [List.getElem?_map, Array.getElem?_toList] at hw
          cases hc : z.cps[i]? with
          | none => rw [hc] at hw; cases hw
          | some c =>
            rw [hc] at hw
            have hw : (.str ⟨#[c]⟩ : A) = w := Option.some.inj hw
            subst hw
            refine ⟨(Array.getElem?_eq_some_iff.mp hc).1, fun x H3 y => ⟨y.1, ?_⟩⟩
            obtain ⟨c', hc', rfl⟩ := y.2
            rw [hc] at hc'
            cases hc'
            rfl
      · cases hi⟩
theorem itOk_range {X : Ctx} {F' H' : Hp} {r' : AR} (lo : Int) (n : Nat) : ItOk X (Itr lo n) F' H' r' (rangeD lo n) := by
  refine ItOk.of_static ((List.range n).map fun (i : Nat) => (.int (lo + i) : A)) (by rw [List.map_map]; rfl) (fun w hw => ?_) (fun w hw => ?_) fun i F2 H2 r2 σ2 gg ss => ?_
  · obtain ⟨c, _, rfl⟩ := List.mem_map.mp hw; rfl
  · obtain ⟨c, _, rfl⟩ := List.mem_map.mp hw; trivial
  · refine ⟨fun w hw => ?_, fun hl => by rw [List.length_map, List.length_range] at hl; exact hl⟩
    rw [List.getElem?_map] at hw
    cases hc : (List.range n)[i]? with
    | none => rw [hc] at hw; cases hw
    | some c =>
      rw [hc] at hw
      have hi : i < n := by have := (List.getElem?_eq_some_iff.mp hc).1; rw [List.length_range] at this; exact this
      rw [List.getElem?_range hi] at hc
      cases hc
      cases hw
      exact ⟨hi, fun x H3 y => ⟨y.1, y.2.symm⟩⟩
theorem ci_range1 {p : Pos} {e : Expr} (hg : Gl C "range") (hm : C.mg "range" = none) (ha : CA ca C W [e] fa) (hs : starEach [e] C.env = (false, eval e C.env) :: starEach [] C.env := by rfl) : CI ca C W tg (.Call (.Name "range" p) [e] [] pos) (I.range1 fa) := ⟨fun ρ => by
  refine PI.mono (pi_range1 hg hm (ha.run ρ) hs) fun σ H Q ⟨F, r, s, e, p⟩ => ⟨F, r, s, e, ?_⟩
  unfold I.range1 at p
  cases hf : fa ρ with
  | bad => rw [hf] at p; exact p
  | exc c fs ρ1 => rw [hf] at p; exact p
  | ok ds ρ1 =>
    rw [hf, R.ok_bind] at p
    intro F1 H1 r1 xs g1 s1 e1 ok1 ex1 nd1 new1 bo1
    split at p
    · rename_i j
      split at p
      · rename_i hz
        obtain ⟨x, rfl, ex⟩ := one_of ex1
        have hz := of_decide_eq_true (show decide (_ ∧ _) = true from hz)
        exact ⟨j, by rw [er_int ex]; rfl, hz.1, hz.2, p F1 H1 r1 _ g1 s1 e1 (itOk_range 0 _)⟩
      · exact p.elim
    · exact p.elim⟩
theorem ci_range2 {p : Pos} {e e2 : Expr} (hg : Gl C "range") (hm : C.mg "range" = none) (ha : CA ca C W [e, e2] fa) (hs : starEach [e, e2] C.env = [(false, eval e C.env), (false, eval e2 C.env)] := by rfl) (hs2 : starEach [e2] C.env = [(false, eval e2 C.env)] := by rfl) :
    CI ca C W tg (.Call (.Name "range" p) [e, e2] [] pos) (I.range2 fa) := ⟨fun ρ => by
  refine PI.mono (pi_range2 hg hm (ha.run ρ) hs hs2) fun σ H Q ⟨F, r, s, e, p⟩ => ⟨F, r, s, e, ?_⟩
  unfold I.range2 at p
  cases hf : fa ρ with
  | bad => rw [hf] at p; exact p
  | exc c fs ρ1 => rw [hf] at p; exact p
  | ok ds ρ1 =>
    rw [hf, R.ok_bind] at p
    intro F1 H1 r1 xs g1 s1 e1 ok1 ex1 nd1 new1 bo1
    split at p
    · rename_i i j
      split at p
      · rename_i hz
        obtain ⟨x, y, rfl, ex, ey⟩ := two_of ex1
        have h1 := of_decide_eq_true (show decide (_ ∧ _) = true from hz.1)
        have h2 := of_decide_eq_true (show decide (_ ∧ _) = true from hz.2)
        exact ⟨i, j, by rw [er_int ex, er_int ey]; rfl, ⟨h1.1, h1.2, h2.1, h2.2⟩, p F1 H1 r1 _ g1 s1 e1 (itOk_range i _)⟩
      · exact p.elim
    · exact p.elim⟩
/-- the loop -/
theorem cs_for {ss : List Nat} (hp : PassesOwn (model C.prog C.w) C.A C.env C.xe) (hc : C.calm = true) (hi : CI ca C W tg e fi) (hg : CG ca C tg ss g) (hb : CSs ca C W body u) (hs : ∀ x, foldedSetIterable e C.env x = pure x := by intro _; rfl) : CS ca C W (.For tg e body [] pos) (S.for_ fi g u) := ⟨fun ρ => by
  cases hf : fi ρ with
  | bad => exact PS.mono ps_false fun D σ H ⟨F, r, s, e, p⟩ => by unfold S.for_ at p; rw [hf] at p; exact p
  | exc c fs ρ1 =>
    refine PS.mono (ps_for hp hc (hi.run ρ) pg_false pss_false hs) fun D σ H ⟨F, r, s, e, p⟩ => ⟨F, r, s, e, ?_⟩
    unfold S.for_ at p; rw [hf] at p ⊢
    exact fun F' H' r' dx g s e x => p F' H' r' σ dx g.toS s e x
  | ok ds ρ1 =>
    -- the turns' readings: any state in which the rest of the items is walked
    have hgT : PG C tg (fun v σ H Q => ∃ d ρ ρ', g d ρ = some ρ' ∧ rdG (cx ca C) ss d ρ ρ' v σ H Q) := ⟨fun pins s σ H x w Q I r ⟨d, ρ, ρ', hgd, q⟩ => (hg.run d ρ ρ' hgd).run pins s σ H x w Q I r q⟩
    have hbT : PSs C body (fun D σ H => ∃ ρ, rdS (cx ca C) W u ρ D σ H) := ⟨fun pins s σ H D I ⟨ρ, q⟩ => (hb.run ρ).run pins s σ H D I q⟩
    refine PS.mono (ps_for hp hc (hi.run ρ) hgT hbT hs) fun D σ H ⟨F, r, s, e, p⟩ => ⟨F, r, s, e, ?_⟩
    unfold S.for_ at p; rw [hf, R.ok_toS] at p
    rw [hf]
    intro F1 H1 r1 J g1 s1 e1 it
    refine ⟨fun i m σ2 H2 => m = ds.length - i ∧ i ≤ ds.length ∧ ∃ F2 r2, Stt (cx ca C) F2 H2 r2 σ2 ∧ GrowS F1 H1 r1 F2 H2 r2 ∧ PostS (cx ca C) W F2 H2 r2 (forL g u (ds.drop i) (erR r2)) D, ⟨ds.length, by simp, Nat.zero_le _, F1, r1, s1, .refl, ?_⟩, ?_⟩
    · rw [List.drop_zero, e1]; exact PostS.back g1.toS p
    · rintro i m σ2 H2 ⟨rfl, hi2, F2, r2, s2, gs, q⟩
      obtain ⟨h1, h2⟩ := it i F2 H2 r2 σ2 gs s2
      by_cases hlt : i < ds.length
      · have hd : ds[i]? = some ds[i] := List.getElem?_eq_getElem hlt
        obtain ⟨go, yl⟩ := h1 _ hd
        have hdrop : ds.drop i = ds[i] :: ds.drop (i + 1) := List.drop_eq_getElem_cons hlt
        rw [hdrop] at q
        refine .inr ⟨go, fun σ' H' => (i + 1 ≤ ds.length ∧ ∃ F3 r3, Stt (cx ca C) F3 H' r3 σ' ∧ GrowS F1 H1 r1 F3 H' r3 ∧ PostS (cx ca C) W F3 H' r3 (forL g u (ds.drop (i + 1)) (erR r3)) D), fun σ' H' hN => ⟨ds.length - (i + 1), by omega, rfl, hN.1, hN.2⟩, fun x H3 y => ?_⟩
        obtain ⟨F3, z, g3, s3, okz, ez, evz, cz⟩ := yl x H3 y
        have gs3 := gs.trans g3.toS
        have q := PostS.back g3.toS q
        unfold forL at q
        cases hgz : g ds[i] (erR r2) with
        | none => rw [hgz] at q; exact q.elim
        | some ρ2 =>
          rw [hgz] at q
          refine ⟨ds[i], erR r2, ρ2, hgz, F3, r2, z, s3, rfl, evz, ez, okz, by rw [cold_own cz]; exact List.nodup_nil, by rw [cold_own cz]; exact fun _ h => (by cases h), by rw [cold_own cz]; exact fun _ h => (by cases h), by rw [cold_bor cz]; exact fun _ h => (by cases h), fun r4 σ4 s4 e4 ow4 bo4 _ => ?_⟩
          have g4 : GrowS F3 H3 r2 F3 H3 r4 := ⟨fun _ _ _ h => h, fun _ _ h => h, fun _ h h' => absurd h h', fun a ha => .inr ((ow4 a ha).elim id fun h => by rw [cold_own cz] at h; cases h), bo4, fun _ h => h⟩
          have gs4 := gs3.trans g4
          have q := PostS.back g4 q
          refine ⟨ρ2, F3, r4, s4, e4, ?_⟩
          dsimp only at q
          cases hu : u ρ2 with
          | bad => rw [hu] at q; exact q.elim
          | nx ρ5 =>
            rw [hu] at q
            exact fun F5 H5 r5 σ5 g5 s5 e5 => ⟨hlt, F5, r5, s5, gs4.trans g5, by rw [e5]; exact PostS.back g5 q⟩
          | ct ρ5 =>
            rw [hu] at q
            exact fun F5 H5 r5 σ5 g5 s5 e5 => ⟨hlt, F5, r5, s5, gs4.trans g5, by rw [e5]; exact PostS.back g5 q⟩
          | bk ρ5 => rw [hu] at q; exact q
          | ret d ρ5 => rw [hu] at q; exact q
          | exc c fs ρ5 => rw [hu] at q; exact q
      · have e5 : i = ds.length := by omega
        subst e5
        rw [List.drop_length] at q
        exact .inl ⟨h2 (Nat.le_refl _), q F2 H2 r2 σ2 .refl s2 rfl⟩⟩
end
end Vl
/-! The value layer, 14: what changes an owned object: append, extend, pop, stores by place, key, field. -/
namespace Vl
open PySem PySem.Spec PyProof.Rows L2

section
variable {X : Ctx} {F F' H H0 F0 : Hp} {r r0 : AR} {σ : St} {i : Nat} {p : List Nat} {x0 : A} {k k' : Kd} {a : AA} {xs ys : List A}
/-- an owned node's content is another one: its kids are old ones, or settled -/
theorem Stt.put (s0 : Stt X F0 H0 r0 σ) (g : Grow F0 H0 r0 F H r) (s : Stt X F H r σ) (hi : r[i]? = some (some x0)) (hx : getT x0 p = some (.nd k .o a xs)) (hnd : ndA k' a = ndA k a) (hshp : shp k' ys.length) (hins : ∀ C fs, k' = .ins C fs → H a.2 = some (.own a.1) ∧ a.2 ≠ a.1)
    (ff : ∀ q u, F q = some u → F' q = some u) (fo : ∀ q ∈ adrR .o r, F' q = none) (fr : ∀ q, F q = none → F' q ≠ none → H0 q = none) (sub : Sub F' H) (hys : ∀ y ∈ ys, y ∈ xs ∨ (Ok X F' H y ∧ y.nob = true ∧ ∀ q ∈ own y, H0 q = none ∧ q ∉ adrR .o r ∧ q ∉ adrR .b r ∧ F' q = none)) (hn : (adrL .o ys).Nodup) :
    Stt X F' (upd H a.1 (cont X.ca k' a (ys.map Vl.val))) (modS (fun _ => .nd k' .o a ys) r i p) σ ∧ GrowS F0 H0 r0 F' (upd H a.1 (cont X.ca k' a (ys.map Vl.val))) (modS (fun _ => .nd k' .o a ys) r i p) := by
  have okx := (s.slotOk hi).get hx
  have ndx : (own (T.nd k .o a xs)).Nodup := by
    have nd0 := s.slotNd hi
    have key : ∀ {p : List Nat} {t x : A}, (own t).Nodup → getT t p = some x → (own x).Nodup := by
      intro p
      induction p with
      | nil => intro t x h e; rw [getT_nil] at e; cases e; exact h
      | cons j p ih =>
        intro t x h e
        obtain ⟨k, m, b, zs, y, rfl, hy, hx⟩ := getT_cons e
        exact ih (nodup_of_mem (nodup_kids h) (List.mem_of_getElem? hy)) hx
    exact key nd0 hx
  have ndx' : (ndA k a ++ adrL .o xs).Nodup := by
    have h : ((if Mk.o = .o then ndA k a else []) ++ adrL .o xs).Nodup := ndx
    rw [if_pos rfl] at h; exact h
  have hin : ∀ q ∈ own (T.nd k .o a xs), q ∈ adrR .o r := fun q hq => Stt.own_sub hi q (adr_get hx q hq)
  have own_node : ∀ q, q ∈ ndA k a ∨ q ∈ adrL .o xs → q ∈ own (T.nd k .o a xs) := fun q hq => by
    show q ∈ (if Mk.o = .o then ndA k a else []) ++ adrL .o xs
    rw [if_pos rfl]; exact List.mem_append.mpr hq
  have hko : ∀ q ∈ adrL .o ys, q ∈ adrL .o xs ∨ (H0 q = none ∧ q ∉ adrR .o r ∧ q ∉ adrR .b r ∧ F' q = none) := fun q hq => by
    rw [adrL_eq] at hq
    obtain ⟨y, hy, hqy⟩ := List.mem_flatMap.mp hq
    rcases hys y hy with h | h
    · exact .inl (adrL_mem h hqy)
    · exact .inr (h.2.2 q hqy)
  have hnew : ∀ q ∈ own (T.nd k' .o a ys), q ∈ own (T.nd k .o a xs) ∨ (H0 q = none ∧ q ∉ adrR .o r ∧ q ∉ adrR .b r ∧ F' q = none) := fun q hq => by
    have hq : q ∈ (if Mk.o = .o then ndA k' a else []) ++ adrL .o ys := hq
    rw [if_pos rfl, hnd] at hq
    rcases List.mem_append.mp hq with h | h
    · exact .inl (own_node q (.inl h))
    · exact (hko q h).imp (fun w => own_node q (.inr w)) id
  have a1in : a.1 ∈ own (T.nd k .o a xs) := own_node _ (.inl ndA_fst)
  have hFa : ∀ q ∈ ndA k a, F' q = none := fun q hq => fo q (hin q (own_node q (.inl hq)))
  have nbx := okx.1.2.2.2
  rw [allL_eq, List.all_eq_true] at nbx
  have nby : allL notB ys = true := by
    rw [allL_eq, List.all_eq_true]
    intro y hy
    rcases hys y hy with h | h
    · exact nbx y h
    · exact h.2.1
  have hkid : ∀ q ∈ adrL .o xs, q ∉ ndA k a := fun q hq h => (List.nodup_append.mp ndx').2.2 q h q hq rfl
  have oky : ∀ y ∈ ys, Ok X F' (upd H a.1 (cont X.ca k' a (ys.map Vl.val))) y := fun y hy => by
    rcases hys y hy with h | h
    · refine Ok.stay (OkL_iff.mp okx.2 y h) (nbx y h) ff fun q hq => ⟨?_, fo q (hin q (own_node q (.inr (adrL_mem h hq))))⟩
      rw [upd_ne (fun e => hkid q (adrL_mem h hq) (by rw [e]; exact ndA_fst))]
    · exact Ok.stay h.1 h.2.1 (fun _ _ h => h) fun q hq => ⟨upd_ne (fun e => (h.2.2 q hq).2.1 (by rw [e]; exact hin _ a1in)), (h.2.2 q hq).2.2.2⟩
  have okn : Ok X F' (upd H a.1 (cont X.ca k' a (ys.map Vl.val))) (.nd k' .o a ys) := by
    refine ⟨⟨hshp, ⟨upd_same, ?_⟩, fun q hq => hFa q (by rw [← hnd]; exact hq), nby⟩, OkL_iff.mpr oky⟩
    cases k' with
    | ins C fs =>
      obtain ⟨h1, h2⟩ := hins C fs rfl
      show upd H a.1 _ a.2 = some (.own a.1)
      rw [upd_ne h2]; exact h1
    | _ => trivial
  have sub' : Sub F' (upd H a.1 (cont X.ca k' a (ys.map Vl.val))) := fun q u hq => by
    rw [upd_ne (fun e => by rw [e, hFa a.1 ndA_fst] at hq; cases hq)]
    exact sub q u hq
  have e := modS_at (f := fun _ => T.nd k' .o a ys) (p := p) hi
  have s' := s.mod (f := fun _ => T.nd k' .o a ys) hi hx rfl rfl okn (by rw [T.nob, T.all, Bool.and_eq_true]; exact ⟨rfl, nby⟩)
    (by
      show ((if Mk.o = .o then ndA k' a else []) ++ adrL .o ys).Nodup
      rw [if_pos rfl, hnd]
      refine List.nodup_append.mpr ⟨(List.nodup_append.mp ndx').1, hn, fun q hq q2 hq2 e => ?_⟩
      rcases hko q2 hq2 with w | w
      · exact (List.nodup_append.mp ndx').2.2 q hq q2 w e
      · exact w.2.1 (by rw [← e]; exact hin q (own_node q (.inl hq))))
    (fun q hq => (hnew q hq).imp id fun w => w.2.1) (fun b hb => .inl fun h => (hnew b h).elim (fun w => s.bd b hb (hin b w)) fun w => w.2.2.1 hb) ff
    (fun q u hq h => by rw [upd_ne (fun e => hq (by rw [e]; exact a1in))]; exact h) (fun q hq _ => fo q hq) sub'
  refine ⟨s', ⟨fun q u hq h => ?_, fun q u h => ff q u (g.fs q u h), fun q h h' => ?_, fun q hq => ?_, fun b hb => ?_, fun q h => ?_⟩⟩
  · rw [upd_ne (fun e => hq (by rw [e]; exact g.ow _ (hin _ a1in)))]
    exact g.same q u h
  · cases e2 : F q with
    | some u => exact g.fr q h (by rw [e2]; exact fun z => by cases z)
    | none => exact .inl (fr q e2 h')
  · rw [e] at hq
    have hq : q ∈ (r.set i (some (x0.mod (fun _ => T.nd k' .o a ys) p))).flatMap (adrO .o) := hq
    rcases flat_mem (x := some x0) hi s.nd hq with w | w
    · rcases adr_mod hx (s.slotNd hi) (fun _ _ _ _ => .inr trivial) q w with v | v
      · rcases hnew q v with u | u
        · exact .inr (g.ow q (hin q u))
        · exact .inl u.1
      · exact .inr (g.ow q (Stt.own_sub hi q v.1))
    · exact .inr (g.ow q w.1)
  · refine (g.bo b).mp ?_
    rw [e] at hb
    obtain ⟨y, hy, hby⟩ := mem_adrR.mp hb
    obtain ⟨j, hj⟩ := List.mem_iff_getElem?.mp hy
    by_cases q : j = i
    · subst q
      rw [List.getElem?_set_self (by exact (List.getElem?_eq_some_iff.mp hi).1)] at hj
      have e3 : x0.mod (fun _ => T.nd k' .o a ys) p = y := Option.some.inj (Option.some.inj hj)
      rw [← e3] at hby
      have nb3 : (x0.mod (fun _ => T.nd k' .o a ys) p).nob = true := mod_nob (root_nob (s.slotOk hi) hx rfl) hx (by rw [T.nob, T.all, Bool.and_eq_true]; exact ⟨rfl, nby⟩)
      have q0 : adr .b (x0.mod (fun _ => T.nd k' .o a ys) p) = [] := nob_bor nb3
      rw [q0] at hby; cases hby
    · rw [List.getElem?_set_ne (Ne.symm q)] at hj
      exact mem_adrR.mpr ⟨y, List.mem_of_getElem? hj, hby⟩
  · by_cases e2 : q = a.1
    · rw [e2, upd_same]; exact fun z => by cases z
    · rw [upd_ne e2]
      cases e3 : H0 q with
      | none => exact absurd e3 h
      | some u => rw [g.same q u e3]; exact fun z => by cases z
/-- a fresh value is settled beside a state -/
theorem settle_new {x : A} (s0 : Stt X F0 H0 r0 σ) (g : Grow F0 H0 r0 F H r) (s : Stt X F H r σ) (ok : Ok X F H x) (v : VOk H0 r0 x) (nb : x.nob = true) :
    (∀ q u, F q = some u → frz F H (own x) q = some u) ∧ (∀ q ∈ adrR .o r, frz F H (own x) q = none) ∧ (∀ q, F q = none → frz F H (own x) q ≠ none → H0 q = none) ∧ Sub (frz F H (own x)) H ∧ Ok X (frz F H (own x)) H x.fz := by
  have ff : ∀ q u, F q = some u → frz F H (own x) q = some u := fun q u h => by
    rw [frz_out (fun hq => by rw [(ok.own_there q hq).2] at h; cases h)]; exact h
  refine ⟨ff, fun q hq => ?_, fun q h h' => ?_, fun q u h => ?_, ok.fz nb ff fun q hq => frz_in hq⟩
  · rw [frz_out (fun h => (s0.own_there (g.ow q hq)).1 (v.new q h))]
    exact (s.own_there hq).2
  · by_cases hq : q ∈ own x
    · exact v.new q hq
    · rw [frz_out hq] at h'; exact absurd h h'
  · by_cases hq : q ∈ own x
    · rw [frz_in hq] at h; exact .inl h
    · rw [frz_out hq] at h; exact s.sub q u h
end
def T.kids {α : Type} (ys : List (T α)) : T α → T α
  | .nd k m a _ => .nd k m a ys
  | t => t
/-- a method of an owned list, of one argument, that gives None: gk: the kids behind it -/
def S.lm1 (gk : List D → D → Option (List D)) (p : Pv) (f : Ev) : Sv := fun ρ => (p ρ).toS fun q ρ1 => match getR ρ1 q.1 q.2 with
  | some (.nd .lst .o _ _) => (f ρ1).toS fun d ρ2 => match getR ρ2 q.1 q.2 with
    | some (.nd .lst .o _ xs) => match gk xs d with
      | some ys => .nx (modS (T.kids ys) ρ2 q.1 q.2)
      | none => .bad
    | _ => .bad
  | _ => .bad
def gAppend (xs : List D) (d : D) : Option (List D) := if d.nob = true ∧ xs.length < sizeLine then some (xs ++ [d.fz]) else none
def gExtend (xs : List D) (d : D) : Option (List D) := match d with
  | .nd .lst _ _ ys => if allL isC ys = true ∧ xs.length + ys.length ≤ sizeLine then some (xs ++ ys) else none
  | _ => none
/-- what a list's method of one argument owes -/
def LM1 (C : Cx) (ca : Ca) (r : V → List V → Hp → VK → Prop) (gk : List D → D → Option (List D)) : Prop := ∀ (F H : Hp) (xs : List A) (y : A) (ds : List D), gk (mapL (fun _ => ()) xs) (er y) = some ds → Ok (cx ca C) F H y → Sub F H →
  ∃ ys : List A, mapL (fun _ => ()) ys = ds ∧ (∀ z ∈ ys, z ∈ xs ∨ (y.nob = true ∧ z = y.fz) ∨ (z.cold = true ∧ Ok (cx ca C) F H z)) ∧ ((adrL .o xs).Nodup → (adrL .o ys).Nodup) ∧ ∀ l Q, H l = some (.lst (xs.map val)) → Q .non (upd H l (.lst (ys.map val))) → r (.ref l) [val y] H Q
section
variable {ca : Ca} {C : Cx} {W : WX} {e o : Expr} {f : Ev} {pv : Pv} {pos apos epos : Pos} {ρ : Env}
theorem lm_append : LM1 C ca rAppend gAppend := by
  intro F H xs y ds h ok s
  unfold gAppend at h
  split at h
  · rename_i hz
    cases h
    have nb : y.nob = true := by rw [← hz.1]; exact (T.all_map _ _ y).symm
    refine ⟨xs ++ [y.fz], by rw [mapL_append]; congr 1; show [er y.fz] = _; rw [show er y.fz = (er y).fz from T.map_mk _ _ y], fun z hz => ?_, fun nd => ?_, fun l Q hl q => ⟨l, _, val y, rfl, rfl, hl, by rw [List.length_map]; rw [mapL_len] at hz; exact hz.2, ?_⟩⟩
    · rcases List.mem_append.mp hz with h | h
      · exact .inl h
      · exact .inr (.inl ⟨nb, List.mem_singleton.mp h⟩)
    · rw [adrL_eq, List.flatMap_append]
      have q0 : adr .o y.fz = [] := cold_own (fz_cold y)
      simp only [List.flatMap_cons, List.flatMap_nil, q0, List.append_nil]
      rw [← adrL_eq]; exact nd
    · have : (xs ++ [y.fz]).map val = xs.map val ++ [val y] := by rw [List.map_append]; congr 1; show [val y.fz] = _; rw [show val y.fz = val y from val_mk _ y]
      rw [← this]; exact q
  · cases h
theorem lm_extend : LM1 C ca rExtend gExtend := by
  intro F H xs y ds h ok s
  unfold gExtend at h
  split at h
  · rename_i m u ys0 hy
    split at h
    · rename_i hz
      cases h
      obtain ⟨b, ys, rfl, ey⟩ := er_nd hy
      subst ey
      have c := er_cold hz.1
      have call := c
      rw [allL_eq, List.all_eq_true] at call
      refine ⟨xs ++ ys, by rw [mapL_append], fun z hz => ?_, fun nd => ?_, fun l Q hl q => ⟨l, b.1, _, _, rfl, rfl, hl, ok.at_ s, by rw [List.length_map, List.length_map]; rw [mapL_len, mapL_len] at hz; exact hz.2, by rw [← List.map_append]; exact q⟩⟩
      · rcases List.mem_append.mp hz with h | h
        · exact .inl h
        · exact .inr (.inr ⟨call z h, OkL_iff.mp ok.2 z h⟩)
      · rw [adrL_eq, List.flatMap_append, ← adrL_eq, ← adrL_eq, adrL_nil (p := isC) rfl c, List.append_nil]; exact nd
    · cases h
  · cases h
theorem cold_kid {X : Ctx} {F H F' H' : Hp} {z : A} (ok : Ok X F H z) (c : z.cold = true) (fs : ∀ a u, F a = some u → F' a = some u) : Ok X F' H' z :=
  Ok.stay ok (T.all_imp (fun m hm => by cases m <;> first | rfl | exact absurd hm Bool.false_ne_true) c) fs fun a ha => by rw [cold_own c] at ha; cases ha
theorem cold_new {X : Ctx} {F H H0 : Hp} {r : AR} {z : A} (c : z.cold = true) (ok : Ok X F H z) : Ok X F H z ∧ z.nob = true ∧ ∀ q ∈ own z, H0 q = none ∧ q ∉ adrR .o r ∧ q ∉ adrR .b r ∧ F q = none :=
  ⟨ok, T.all_imp (fun m hm => by cases m <;> first | rfl | exact absurd hm Bool.false_ne_true) c, fun q hq => by rw [cold_own c] at hq; cases hq⟩
theorem cs_lm1 {name : Str} {id : String} {r : V → List V → Hp → VK → Prop} {gk : List D → D → Option (List D)} (slot : Slot "list" name id) (hty : typeOf (.builtin id) = pure (.type "method_descriptor")) (mt : MtR C id r) (lm : LM1 C ca r gk)
    (h : CP ca C W o pv) (hv : CE ca C W e f) (hbase : attributeBase o name C.env (eval o C.env) = eval o C.env := by rfl)
    (hfew : ((backTo pos (starEach [e] C.env)).all (fun x => !x.1) && (backToKw pos (keywordEach [] C.env)).all (fun x => x.1.isSome) && decide (([e] : List Expr).length + ([] : List Keyword).length + (if ([] : List Keyword).isEmpty then 0 else 1) < 30)) = true := by rfl)
    (hline : (apos.endLine == pos.line) = true := by rfl) (hs : starEach [e] C.env = (false, eval e C.env) :: starEach [] C.env := by rfl) (hplain : (backTo pos (starEach [] C.env)).any (·.1) = false := by rfl)
    (hsw : swapsWith (.Call (.Attribute o name apos) [e] [] pos) none epos.line C.env = pure false := by rfl) : CS ca C W (.Expr (.Call (.Attribute o name apos) [e] [] pos) epos) (S.lm1 gk pv f) := ⟨fun ρ => by
  cases hp : pv ρ with
  | bad => exact PS.mono ps_false fun D σ H ⟨F, r, s, e, p⟩ => by unfold S.lm1 at p; rw [hp] at p; exact p
  | exc c fs ρ1 =>
    refine PS.mono (ps_expr (pe_bm PySem.F.plainAttrs_list slot hty mt (h.run ρ) (pa_cons pe_false pa_nil hs) hbase hfew hline hs hplain) hsw) fun D σ H ⟨F, r, s, e, p⟩ => ⟨F, r, s, e, ?_⟩
    unfold S.lm1 at p; rw [hp] at p ⊢
    exact fun F' H' r' dx g s e x => p F' H' r' σ dx g.toS s e x
  | ok q ρ1 =>
    refine PS.mono (ps_expr (pe_bm PySem.F.plainAttrs_list slot hty mt (h.run ρ) (pa_cons (hv.run ρ1) pa_nil hs) hbase hfew hline hs hplain) hsw) fun D σ H ⟨F, r, s, e, p⟩ => ⟨F, r, s, e, ?_⟩
    unfold S.lm1 at p; rw [hp, R.ok_toS] at p
    rw [hp]
    intro F1 H1 r1 x0 x g1 s1 e1 hi hx
    have hg1 := getR_at hi hx
    rw [e1] at hg1
    rw [hg1] at p
    split at p
    · rename_i hnd
      obtain ⟨a1, xs1, rfl, _⟩ := er_nd (Option.some.inj hnd)
      have okx1 := (s1.slotOk hi).get hx
      refine ⟨.inl ⟨rfl, _, SqL.of (okx1.at_ s1.sub)⟩, ?_⟩
      refine ⟨F1, r1, s1, e1, ?_⟩
      cases hf : f ρ1 with
      | bad => rw [hf] at p; exact p.elim
      | exc c fs ρ2 =>
        rw [hf] at p
        exact fun F2 H2 r2 dx g2 s2 e2 x2 => p F2 H2 r2 σ dx (g1.trans s1 g2).toS s2 e2 x2
      | ok d ρ2 =>
        rw [hf, R.ok_toS] at p
        intro F2 H2 r2 y g2 s2 e2 ok2 ex2 v2
        obtain ⟨z0, z, hi2, hx2, ez⟩ := way_stays g2.un hi hx
        have hg2 := getR_at hi2 hx2
        rw [e2] at hg2
        rw [hg2] at p
        split at p
        · rename_i u2 xsD hnd2
          obtain ⟨a2, xs2, rfl, exs2⟩ := er_nd (Option.some.inj hnd2)
          have okz := (s2.slotOk hi2).get hx2
          have ea : a2.1 = a1.1 := by have := fz_val ez; exact V.ref.inj this
          subst ex2
          cases hgk : gk xsD (er y) with
          | none => rw [hgk] at p; exact p.elim
          | some ds =>
            rw [hgk] at p
            rw [← exs2] at hgk
            obtain ⟨ys, eys, hys, hny, hr⟩ := lm F2 H2 xs2 y ds hgk ok2 s2.sub
            have g12 := g1.trans s1 g2
            have v02 := v2.back g1
            have full := okz.1.2.1.1
            refine hr a1.1 _ (by rw [← ea]; exact full) ?_
            show D.nx σ _
            by_cases nb : y.nob = true
            · obtain ⟨ff, fo, fr, sb, oky⟩ := settle_new s g12 s2 ok2 v02 nb
              have hk : ∀ z ∈ ys, z ∈ xs2 ∨ (Ok (cx ca C) (frz F2 H2 (own y)) H2 z ∧ z.nob = true ∧ ∀ q ∈ own z, H q = none ∧ q ∉ adrR .o r2 ∧ q ∉ adrR .b r2 ∧ frz F2 H2 (own y) q = none) := fun z hz => by
                rcases hys z hz with w | w | w
                · exact .inl w
                · rw [w.2]; exact .inr (cold_new (fz_cold y) oky)
                · exact .inr (cold_new w.1 (cold_kid w.2 w.1 ff))
              obtain ⟨s3, g3⟩ := Stt.put (k' := .lst) (ys := ys) s g12 s2 hi2 hx2 rfl trivial (fun _ _ z => by cases z) ff fo fr sb hk (hny (nodup_kids (slot_nd s2 hi2 hx2)))
              have := p _ _ _ σ g3 s3 (by rw [erR_mod (f := fun _ => T.nd .lst .o a2 ys) (g := T.kids ds) hi2 hx2 (by show T.nd .lst .o () (mapL (fun _ => ()) ys) = T.nd .lst .o () ds; rw [eys]), e2])
              rw [ea] at this
              exact this
            · have hk : ∀ z ∈ ys, z ∈ xs2 ∨ (Ok (cx ca C) F2 H2 z ∧ z.nob = true ∧ ∀ q ∈ own z, H q = none ∧ q ∉ adrR .o r2 ∧ q ∉ adrR .b r2 ∧ F2 q = none) := fun z hz => by
                rcases hys z hz with w | w | w
                · exact .inl w
                · exact absurd w.1 nb
                · exact .inr (cold_new w.1 w.2)
              obtain ⟨s3, g3⟩ := Stt.put (k' := .lst) (ys := ys) s g12 s2 hi2 hx2 rfl trivial (fun _ _ z => by cases z) (fun _ _ h => h) (fun q hq => (s2.own_there hq).2) (fun _ h h' => absurd h h') s2.sub hk (hny (nodup_kids (slot_nd s2 hi2 hx2)))
              have := p _ _ _ σ g3 s3 (by rw [erR_mod (f := fun _ => T.nd .lst .o a2 ys) (g := T.kids ds) hi2 hx2 (by show T.nd .lst .o () (mapL (fun _ => ()) ys) = T.nd .lst .o () ds; rw [eys]), e2])
              rw [ea] at this
              exact this
        · exact p.elim
    · exact p.elim⟩
where
  slot_nd {X : Ctx} {F H : Hp} {r : AR} {σ : St} {i : Nat} {p : List Nat} {x0 x : A} (s : Stt X F H r σ) (hi : r[i]? = some (some x0)) (hx : getT x0 p = some x) : (own x).Nodup := by
    have nd0 := s.slotNd hi
    have key : ∀ {p : List Nat} {t x : A}, (own t).Nodup → getT t p = some x → (own x).Nodup := by
      intro p
      induction p with
      | nil => intro t x h e; rw [getT_nil] at e; cases e; exact h
      | cons j p ih =>
        intro t x h e
        obtain ⟨k, m, b, zs, y, rfl, hy, hx⟩ := getT_cons e
        exact ih (nodup_of_mem (nodup_kids h) (List.mem_of_getElem? hy)) hx
    exact key nd0 hx
abbrev S.append := S.lm1 gAppend
abbrev S.extend := S.lm1 gExtend
end
end Vl
/-! The value layer, 15: pop, stores by place, key and field; tuples as targets. -/
namespace Vl
open PySem PySem.Spec PyProof.Rows L2

def putG {κ α : Type} [DecidableEq κ] (ks : List κ) (xs : List α) (k : κ) (x : α) : List κ × List α := match posG ks k with
  | some j => (ks, xs.set j x)
  | none => (ks ++ [k], xs ++ [x])
section
variable {κ : Type} [DecidableEq κ]
theorem posG_none {k : κ} : ∀ {ks : List κ}, posG ks k = none → k ∉ ks
  | [], _, h => by cases h
  | k' :: ks, h, hm => by
    unfold posG at h
    split at h
    · cases h
    · rename_i ne
      rcases List.mem_cons.mp hm with e | hm
      · exact ne e.symm
      · refine posG_none (ks := ks) ?_ hm
        cases q : posG ks k with
        | none => rfl
        | some j => rw [q] at h; cases h
theorem posG_get {k : κ} : ∀ {ks : List κ} {j : Nat}, posG ks k = some j → ks[j]? = some k
  | [], _, h => by cases h
  | k' :: ks, j, h => by
    unfold posG at h
    split at h
    · rename_i e
      cases h
      exact congrArg some e
    · cases q : posG ks k with
      | none => rw [q] at h; cases h
      | some i =>
        rw [q] at h
        cases h
        show ks[i]? = some k
        exact posG_get q
theorem putG_map {α β : Type} (f : α → β) (ks : List κ) (xs : List α) (k : κ) (x : α) : putG ks (xs.map f) k (f x) = ((putG ks xs k x).1, (putG ks xs k x).2.map f) := by
  unfold putG
  cases posG ks k with
  | none => simp
  | some j => simp [List.map_set]
theorem putG_len {α : Type} (ks : List κ) (xs : List α) (k : κ) (x : α) (h : ks.length = xs.length) : (putG ks xs k x).1.length = (putG ks xs k x).2.length := by
  unfold putG
  cases posG ks k with
  | none => simp [h]
  | some j => simp [h]
theorem putG_nodup {α : Type} (ks : List κ) (xs : List α) (k : κ) (x : α) (h : ks.Nodup) : (putG ks xs k x).1.Nodup := by
  unfold putG
  cases e : posG ks k with
  | none => exact List.nodup_append.mpr ⟨h, by simp, fun a ha b hb q => by rw [List.mem_singleton.mp hb] at q; exact posG_none e (by rw [← q]; exact ha)⟩
  | some j => exact h
theorem putG_mem {α : Type} {ks : List κ} {xs : List α} {k : κ} {x y : α} (h : y ∈ (putG ks xs k x).2) : y ∈ xs ∨ y = x := by
  unfold putG at h
  cases e : posG ks k with
  | none =>
    rw [e] at h
    rcases List.mem_append.mp h with h | h
    · exact .inl h
    · exact .inr (List.mem_singleton.mp h)
  | some j =>
    rw [e] at h
    exact List.mem_or_eq_of_mem_set h
end
/-- what a store's kids own -/
theorem put_nodup {κ : Type} [DecidableEq κ] {ks : List κ} {xs : List A} {k : κ} {x : A} (h : (adrL .o xs).Nodup) (hx : (own x).Nodup) (hd : ∀ a ∈ own x, a ∉ adrL .o xs) : (adrL .o (putG ks xs k x).2).Nodup := by
  unfold putG
  cases posG ks k with
  | none =>
    show (adrL .o (xs ++ [x])).Nodup
    rw [adrL_eq, List.flatMap_append, ← adrL_eq]
    refine List.nodup_append.mpr ⟨h, by simpa using hx, fun a ha b hb e => ?_⟩
    subst e
    have hb : a ∈ own x := by simpa using hb
    exact hd a hb ha
  | some j =>
    show (adrL .o (xs.set j x)).Nodup
    by_cases hj : j < xs.length
    · rw [adrL_eq] at h hd ⊢
      exact flat_nodup (List.getElem?_eq_getElem hj) h hx fun a ha => .inr (hd a ha)
    · rw [List.set_eq_of_length_le (by omega)]; exact h
theorem putK_zip : ∀ (ks : List Key) (vs : List V) (k : Key) (v : V), ks.length = vs.length → ks.Nodup → putK (ks.zip vs) k v = (putG ks vs k v).1.zip (putG ks vs k v).2 := by
  intro ks vs k v hl nd
  have hv : valV (ks.zip vs) k = (posG ks k).bind fun j => vs[j]? := by
    rw [valV_zip]
    clear nd
    induction ks generalizing vs with
    | nil => cases vs <;> rfl
    | cons k' ks ih =>
      cases vs with
      | nil => cases hl
      | cons x vs =>
        show (if k' = k then some x else look ks vs k) = _
        unfold posG
        by_cases e : k' = k
        · rw [if_pos e, if_pos e]; rfl
        · rw [if_neg e, if_neg e, ih vs (by simpa using hl)]
          cases posG ks k <;> rfl
  cases e : posG ks k with
  | none =>
    rw [e] at hv
    rw [putK_new v hv]
    unfold putG
    rw [e]
    show ks.zip vs ++ [(k, v)] = (ks ++ [k]).zip (vs ++ [v])
    rw [List.zip_append hl]; rfl
  | some j =>
    unfold putK
    have hj := pos_lt e
    have hany : ((ks.zip vs).any fun kv => decide (kv.1 = k)) = true := by
      rw [valV_any, hv, e]
      show (vs[j]?).isSome = true
      rw [List.getElem?_eq_getElem (by omega)]; rfl
    rw [if_pos hany]
    unfold putG
    rw [e]
    show (ks.zip vs).map (fun kv => if kv.1 = k then (kv.1, v) else kv) = ks.zip (vs.set j v)
    clear hv hany
    induction ks generalizing vs j with
    | nil => cases e
    | cons k' ks ih =>
      cases vs with
      | nil => cases hl
      | cons x vs =>
        unfold posG at e
        by_cases ek : k' = k
        · rw [if_pos ek] at e
          cases e
          show (if k' = k then (k', v) else (k', x)) :: (ks.zip vs).map _ = (k', v) :: ks.zip vs
          rw [if_pos ek]
          congr 1
          have hn : k ∉ ks := by rw [← ek]; exact (List.nodup_cons.mp nd).1
          have key : ∀ l : List (Key × V), (∀ q ∈ l, q.1 ≠ k) → l.map (fun kv => if kv.1 = k then (kv.1, v) else kv) = l := by
            intro l
            induction l with
            | nil => intro _; rfl
            | cons q l ih2 =>
              intro hl2
              rw [List.map_cons, if_neg (hl2 q List.mem_cons_self), ih2 fun z hz => hl2 z (List.mem_cons_of_mem _ hz)]
          exact key _ fun q hq e => hn (by rw [← e]; exact (List.of_mem_zip hq).1)
        · rw [if_neg ek] at e
          cases q : posG ks k with
          | none => rw [q] at e; cases e
          | some i =>
            rw [q] at e
            cases e
            show (if k' = k then (k', v) else (k', x)) :: (ks.zip vs).map _ = (k', x) :: ks.zip (vs.set i v)
            rw [if_neg ek, ih vs (by simpa using hl) (List.nodup_cons.mp nd).2 i q (pos_lt q)]
theorem putF_zip : ∀ (fs : List Str) (vs : List V) (f : Str) (v : V), fs.length = vs.length → putF f v (fs.zip vs) = (putG fs vs f v).1.zip (putG fs vs f v).2
  | [], [], f, v, _ => rfl
  | [], _ :: _, f, v, h => by cases h
  | _ :: _, [], f, v, h => by cases h
  | g :: fs, x :: vs, f, v, h => by
    have ih := putF_zip fs vs f v (by simpa using h)
    show (if g = f then (g, v) :: fs.zip vs else (g, x) :: putF f v (fs.zip vs)) = _
    rw [ih]
    unfold putG
    rw [show posG (g :: fs) f = if g = f then some 0 else (posG fs f).map (· + 1) from rfl]
    by_cases e : g = f
    · rw [if_pos e, if_pos e]; rfl
    · rw [if_neg e, if_neg e]
      cases posG fs f <;> rfl
/-- p.f = e; what e owns stays owned -/
def S.setf (Cs : List Str) (n : Str) (p : Pv) (f : Ev) : Sv := fun ρ => (f ρ).toS fun d ρ1 => (p ρ1).toS fun q ρ2 => match getR ρ2 q.1 q.2 with
  | some (.nd (.ins c fs) .o _ xs) => if c ∈ Cs ∧ d.nob = true ∧ fs.length < 1000 then .nx (modS (fun _ => .nd (.ins c (putG fs xs n d).1) .o () (putG fs xs n d).2) ρ2 q.1 q.2) else .bad
  | _ => .bad
section
variable {ca : Ca} {C : Cx} {W : WX} {e o : Expr} {f g : Ev} {pv : Pv} {pos apos epos tpos : Pos} {ρ : Env}
theorem slot_nd {X : Ctx} {F H : Hp} {r : AR} {σ : St} {i : Nat} {p : List Nat} {x0 x : A} (s : Stt X F H r σ) (hi : r[i]? = some (some x0)) (hx : getT x0 p = some x) : (own x).Nodup := by
  have nd0 := s.slotNd hi
  have key : ∀ {p : List Nat} {t x : A}, (own t).Nodup → getT t p = some x → (own x).Nodup := by
    intro p
    induction p with
    | nil => intro t x h e; rw [getT_nil] at e; cases e; exact h
    | cons j p ih =>
      intro t x h e
      obtain ⟨k, m, b, zs, y, rfl, hy, hx⟩ := getT_cons e
      exact ih (nodup_of_mem (nodup_kids h) (List.mem_of_getElem? hy)) hx
  exact key nd0 hx
/-- a fresh value is kept beside a state: what it owns is of no slot -/
theorem fresh_new {X : Ctx} {F H F2 H2 : Hp} {r r2 : AR} {σ : St} {x : A} (s : Stt X F H r σ) (g : Grow F H r F2 H2 r2) (ok : Ok X F2 H2 x) (v : VOk H r x) (nb : x.nob = true) :
    Ok X F2 H2 x ∧ x.nob = true ∧ ∀ q ∈ own x, H q = none ∧ q ∉ adrR .o r2 ∧ q ∉ adrR .b r2 ∧ F2 q = none :=
  ⟨ok, nb, fun q hq => ⟨v.new q hq, fun h => (s.own_there (g.ow q h)).1 (v.new q hq), fun h => s.bor_there ((g.bo q).mp h) (v.new q hq), (ok.own_there q hq).2⟩⟩
theorem cs_setf {Cs : List Str} {n : Str} (k : FldOk C.K ca Cs n) (hv : CE ca C W e f) (h : CP ca C W o pv) (hs : swapsWith e (some (.Attribute o n tpos)) pos.line C.env = pure false := by rfl) : CS ca C W (.Assign [.Attribute o n tpos] e pos) (S.setf Cs n pv f) := ⟨fun ρ => by
  cases hf : f ρ with
  | bad => exact PS.mono ps_false fun D σ H ⟨F, r, s, e, p⟩ => by unfold S.setf at p; rw [hf] at p; exact p
  | exc c fs ρ1 =>
    refine PS.mono (ps_fld pe_false (hv.run ρ) hs) fun D σ H ⟨F, r, s, e, p⟩ => ⟨F, r, s, e, ?_⟩
    unfold S.setf at p; rw [hf] at p ⊢
    exact fun F' H' r' dx g s e x => p F' H' r' σ dx g.toS s e x
  | ok d ρ1 =>
    refine PS.mono (ps_fld (h.run ρ1) (hv.run ρ) hs) fun D σ H ⟨F, r, s, e, p⟩ => ⟨F, r, s, e, ?_⟩
    unfold S.setf at p; rw [hf, R.ok_toS] at p
    rw [hf]
    intro F1 H1 r1 x g1 s1 e1 ok1 ex1 v1
    refine ⟨F1, r1, s1, e1, ?_⟩
    cases hp : pv ρ1 with
    | bad => rw [hp] at p; exact p.elim
    | exc c fs ρ2 =>
      rw [hp] at p
      exact fun F2 H2 r2 dx g2 s2 e2 x2 => p F2 H2 r2 σ dx (g1.trans s1 g2).toS s2 e2 x2
    | ok q ρ2 =>
      rw [hp, R.ok_toS] at p
      intro F2 H2 r2 z0 z g2 s2 e2 hi hz
      have hg2 := getR_at hi hz
      rw [e2] at hg2
      rw [hg2] at p
      split at p
      · rename_i c fs u xsD hnd
        obtain ⟨a, xs, rfl, exs⟩ := er_nd (Option.some.inj hnd)
        split at p
        · rename_i hc
          have okz := (s2.slotOk hi).get hz
          have full := okz.1.2.1
          have shp := okz.shp
          have g12 := g1.trans s1 g2
          have n1 : ∀ b ∈ own x, b ∉ adrR .o r1 := fun b hb hr1 => (s.own_there (g1.ow b hr1)).1 (v1.new b hb)
          have okx := ok1.grow s1 n1 g2
          have nb : x.nob = true := by rw [← hc.2.1, ← ex1]; exact (T.all_map _ _ x).symm
          have new := fresh_new s g12 okx v1 nb
          have hlen : fs.length = (xs.map val).length := by rw [List.length_map]; exact shp.1
          refine ⟨a.1, ca c, a.2, _, rfl, full.1, k.cls c hc.1, k.no c hc.1, by rw [List.length_zip, ← hlen, Nat.min_self]; exact hc.2.2, ?_⟩
          rw [putF_zip fs _ n _ hlen, putG_map val fs xs n x]
          have ndx := slot_nd s2 hi hz
          have ndk := nodup_kids ndx
          have a12 : a.2 ≠ a.1 := fun e => by
            have h2 : H2 a.2 = some (.own a.1) := full.2
            rw [e, full.1] at h2
            cases h2
          have hdis : ∀ b ∈ own x, b ∉ adrL .o xs := fun b hb h => (new.2.2 b hb).2.1 (Stt.own_sub hi b (adr_get hz b (adr_nd_kids h)))
          have := Stt.put (k' := .ins c (putG fs xs n x).1) (ys := (putG fs xs n x).2) s g12 s2 hi hz rfl ⟨putG_len fs xs n x shp.1, putG_nodup fs xs n x shp.2⟩ (fun _ _ _ => ⟨full.2, a12⟩)
            (fun _ _ h => h) (fun b hb => (s2.own_there hb).2) (fun _ h h' => absurd h h') s2.sub (fun y hy => (putG_mem hy).imp id fun e => by rw [e]; exact new) (put_nodup ndk v1.nd hdis)
          obtain ⟨s3, g3⟩ := this
          refine p _ _ _ σ g3 s3 ?_
          rw [erR_mod (f := fun _ => T.nd (.ins c (putG fs xs n x).1) .o a (putG fs xs n x).2) (g := fun _ => T.nd (.ins c (putG fs xsD n d).1) .o () (putG fs xsD n d).2) hi hz ?_, e2]
          show T.nd (.ins c (putG fs xs n x).1) .o () (mapL (fun _ => ()) (putG fs xs n x).2) = _
          rw [← exs, ← ex1, mapL_eq, mapL_eq, putG_map er fs xs n x]
        · exact p.elim
      · exact p.elim⟩
end
end Vl
/-! The value layer, 16: tuples as targets; stores by key and by place; pop. -/
namespace Vl
open PySem PySem.Spec PyProof.Rows L2

def goG : List Gv → List D → Env → Option Env
  | [], [], ρ => some ρ
  | g :: gs, d :: ds, ρ => (g d ρ).bind fun ρ1 => goG gs ds ρ1
  | _, _, _ => none
def G.tup (gs : List Gv) : Gv := fun d ρ => match d with
  | .nd .tup .c _ xs => goG gs xs ρ
  | _ => none
def rdGs (X : Ctx) (ss : List Nat) (ds : List D) (ρ ρ' : Env) : TGs := fun vs σ H Q => ∃ (F : Hp) (r : AR) (xs : List A), Stt X F H r σ ∧ erR r = ρ ∧ xs.map val = vs ∧ xs.map er = ds ∧ (∀ x ∈ xs, x.cold = true ∧ Ok X F H x) ∧
  ∀ r' σ', Stt X F H r' σ' → erR r' = ρ' → (∀ a ∈ adrR .o r', a ∈ adrR .o r) → (∀ b ∈ adrR .b r', b ∈ adrR .b r) → Only ss σ σ' → Q σ' H
structure CGs (ca : Ca) (C : Cx) (ts : List Expr) (ss : List Nat) (gs : List Gv) : Prop where
  len : ts.length = gs.length
  run : ∀ ds ρ ρ', goG gs ds ρ = some ρ' → PGs C ts (rdGs ⟨C.K, ca.f, ca.fix⟩ ss ds ρ ρ')
theorem PGs.mono {C : Cx} {e : List Expr} {t t' : TGs} (h : PGs C e t) (i : ∀ v σ H Q, t' v σ H Q → t v σ H Q) : PGs C e t' := ⟨fun pins s σ H x u Q I r q => h.run pins s σ H x u Q I r (i x σ H Q q)⟩
theorem goG_len : ∀ {gs : List Gv} {ds : List D} {ρ ρ' : Env}, goG gs ds ρ = some ρ' → ds.length = gs.length
  | [], [], _, _, _ => rfl
  | [], _ :: _, _, _, h => by cases h
  | _ :: _, [], _, _, h => by cases h
  | g :: gs, d :: ds, ρ, ρ', h => by
    have h : ((g d ρ).bind fun ρ1 => goG gs ds ρ1) = some ρ' := h
    cases e : g d ρ with
    | none => rw [e] at h; cases h
    | some ρ1 => rw [e] at h; rw [List.length_cons, List.length_cons, goG_len h]
section
variable {ca : Ca} {C : Cx} {W : WX} {e o b t : Expr} {ts : List Expr} {f g : Ev} {gv : Gv} {gs : List Gv} {pv : Pv} {pos apos epos tpos : Pos} {ρ : Env}
theorem cgs_nil : CGs ca C [] [] [] := ⟨rfl, fun ds ρ ρ' h => PGs.mono pgs_nil fun v σ H Q ⟨F, r, xs, s, e, ev, ed, ok, k⟩ => by
  cases ds with
  | nil =>
    cases h
    have : xs = [] := List.map_eq_nil_iff.mp ed
    subst this
    exact ⟨ev.symm, k r σ s e (fun _ h => h) (fun _ h => h) ⟨rfl, fun _ _ => rfl⟩⟩
  | cons d ds => cases h⟩
theorem cgs_cons {s1 s2 : List Nat} (h1 : CG ca C t s1 gv) (h2 : CGs ca C ts s2 gs) (hs : (assignEach (t :: ts) C.env).map (·.2) = assign t C.env :: (assignEach ts C.env).map (·.2) := by rfl) : CGs ca C (t :: ts) (s1 ++ s2) (gv :: gs) := ⟨by rw [List.length_cons, List.length_cons, h2.len], fun ds ρ ρ' h => by
  cases ds with
  | nil => cases h
  | cons d ds =>
    have h : ((gv d ρ).bind fun ρ1 => goG gs ds ρ1) = some ρ' := h
    cases e : gv d ρ with
    | none => rw [e] at h; cases h
    | some ρ1 =>
      rw [e] at h
      refine PGs.mono (pgs_cons (h1.run d ρ ρ1 e) (h2.run ds ρ1 ρ' h) hs) fun v σ H Q ⟨F, r, xs, s, e, ev, ed, ok, k⟩ => ?_
      cases xs with
      | nil => cases ed
      | cons x xs =>
        subst ev
        have hd := List.cons.inj ed
        have okx := ok x List.mem_cons_self
        refine ⟨val x, xs.map val, rfl, F, r, x, s, e, rfl, hd.1, okx.2, by rw [cold_own okx.1]; exact List.nodup_nil, by rw [cold_own okx.1]; exact fun _ z => (by cases z), by rw [cold_own okx.1]; exact fun _ z => (by cases z), by rw [cold_bor okx.1]; exact fun _ z => (by cases z), fun r1 σ1 s1 e1 ow1 bo1 on1 => ?_⟩
        refine ⟨F, r1, xs, s1, e1, rfl, hd.2, fun y hy => ok y (List.mem_cons_of_mem _ hy), fun r2 σ2 s2 e2 ow2 bo2 on2 => k r2 σ2 s2 e2 (fun a ha => ?_) (fun b hb => bo1 b (bo2 b hb)) (on1.trans on2)⟩
        rcases ow1 a (ow2 a ha) with q | q
        · exact q
        · rw [cold_own okx.1] at q; cases q⟩
theorem cg_tup {k : Nat} {ss : List Nat} (hc : C.calm = true) (h : CGs ca C ts ss gs) (hn : (assignEach ts C.env).length = gs.length := by rfl) (hst : (assignEach ts C.env).findIdx? (·.1) = none := by rfl) : CG ca C (.Tuple ts k pos) ss (G.tup gs) := ⟨fun d ρ ρ' hg => by
  unfold G.tup at hg
  split at hg
  · rename_i u ds
    refine PG.mono (pg_tup hc (h.run ds ρ ρ' hg) hn hst) fun v σ H Q ⟨F, r, x, s, e, ev, ex, ok, nd, out, outb, bo, kk⟩ => ?_
    obtain ⟨a, xs, rfl, exs⟩ := er_nd ex
    subst ev
    have exs' : xs.map er = ds := by rw [← exs, mapL_eq]
    have c := ok.1.2.2
    rw [allL_eq, List.all_eq_true] at c
    have hl : xs.length = ds.length := by rw [← exs', List.length_map]
    refine ⟨a.1, xs.map val, rfl, ok.at_ s.sub, by rw [List.length_map, hl, goG_len hg], F, r, xs, s, e, rfl, exs', fun x hx => ⟨c x hx, OkL_iff.mp ok.2 x hx⟩, fun r' σ' s' e' ow bo' on => kk r' σ' s' e' (fun a ha => .inl (ow a ha)) bo' on⟩
  · cases hg⟩
/-- p[i] = e: a dict, a list; the value is settled -/
def S.seti (p : Pv) (g f : Ev) : Sv := fun ρ => (f ρ).toS fun d ρ1 => (p ρ1).toS fun q ρ2 => (g ρ2).toS fun k ρ3 => match getR ρ3 q.1 q.2, k with
  | some (.nd (.dct ks) .o _ xs), k => match k.key with
    | some key => if d.nob = true ∧ ks.length < sizeLine then .nx (modS (fun _ => .nd (.dct (putG ks xs key d.fz).1) .o () (putG ks xs key d.fz).2) ρ3 q.1 q.2) else .bad
    | none => .bad
  | _, _ => .bad
theorem cs_seti (hu : C.A.units + 64 < cLine) (hv : CE ca C W e f) (h : CP ca C W o pv) (hb : CE ca C W b g) (hs : swapsWith e (some (.Subscript o b tpos)) pos.line C.env = pure false := by rfl) : CS ca C W (.Assign [.Subscript o b tpos] e pos) (S.seti pv g f) := ⟨fun ρ => by
  have hu' : C.A.units + 1 < cLine := by omega
  cases hf : f ρ with
  | bad => exact PS.mono ps_false fun D σ H ⟨F, r, s, e, p⟩ => by unfold S.seti at p; rw [hf] at p; exact p
  | exc c fs ρ1 =>
    refine PS.mono (ps_dput hu' pe_false pe_false (hv.run ρ) hs) fun D σ H ⟨F, r, s, e, p⟩ => ⟨F, r, s, e, ?_⟩
    unfold S.seti at p; rw [hf] at p ⊢
    exact fun F' H' r' dx g s e x => p F' H' r' σ dx g.toS s e x
  | ok d ρ1 =>
    cases hp : pv ρ1 with
    | bad => exact PS.mono ps_false fun D σ H ⟨F, r, s, e, p⟩ => by unfold S.seti at p; rw [hf, R.ok_toS, hp] at p; exact p
    | exc c fs ρ2 =>
      refine PS.mono (ps_dput hu' (h.run ρ1) pe_false (hv.run ρ) hs) fun D σ H ⟨F, r, s, e, p⟩ => ⟨F, r, s, e, ?_⟩
      unfold S.seti at p; rw [hf, R.ok_toS, hp] at p
      rw [hf]
      intro F1 H1 r1 x g1 s1 e1 ok1 ex1 v1
      exact ⟨F1, r1, s1, e1, by rw [hp]; exact fun F2 H2 r2 dx g2 s2 e2 x2 => p F2 H2 r2 σ dx (g1.trans s1 g2).toS s2 e2 x2⟩
    | ok q ρ2 =>
      refine PS.mono (ps_dput hu' (h.run ρ1) (hb.run ρ2) (hv.run ρ) hs) fun D σ H ⟨F, r, s, e, p⟩ => ⟨F, r, s, e, ?_⟩
      unfold S.seti at p; rw [hf, R.ok_toS, hp, R.ok_toS] at p
      rw [hf]
      intro F1 H1 r1 x g1 s1 e1 ok1 ex1 v1
      refine ⟨F1, r1, s1, e1, ?_⟩
      rw [hp]
      intro F2 H2 r2 z0 z g2 s2 e2 hi hz
      refine ⟨F2, r2, s2, e2, ?_⟩
      cases hg : g ρ2 with
      | bad => rw [hg] at p; exact p.elim
      | exc c fs ρ3 =>
        rw [hg] at p
        exact fun F3 H3 r3 dx g3 s3 e3 x3 => p F3 H3 r3 σ dx ((g1.trans s1 g2).trans s2 g3).toS s3 e3 x3
      | ok kd ρ3 =>
        rw [hg, R.ok_toS] at p
        intro F3 H3 r3 y g3 s3 e3 ok3 ex3 v3
        obtain ⟨w0, w, hi3, hw, ew⟩ := way_stays g3.un hi hz
        have hg3 := getR_at hi3 hw
        rw [e3] at hg3
        rw [hg3] at p
        split at p
        · rename_i k0 ks u xsD hnd
          obtain ⟨a, xs, rfl, exs⟩ := er_nd (Option.some.inj hnd)
          subst ex3
          cases hk : Vl.D.key (er y) with
          | none => rw [hk] at p; exact p.elim
          | some key =>
            rw [hk] at p
            dsimp only at p
            split at p
            · rename_i hc
              have okw := (s3.slotOk hi3).get hw
              have full := okw.1.2.1
              have shp := okw.shp
              have g12 := g1.trans s1 g2
              have g123 := g12.trans s2 g3
              have n1 : ∀ b ∈ own x, b ∉ adrR .o r1 := fun b hb hr1 => (s.own_there (g1.ow b hr1)).1 (v1.new b hb)
              have okx := ok1.grow s1 n1 (g2.trans s2 g3)
              have nb : x.nob = true := by rw [← hc.1, ← ex1]; exact (T.all_map _ _ x).symm
              obtain ⟨ff, fo, fr, sb, okf⟩ := settle_new s g123 s3 okx v1 nb
              have hlen : ks.length = (xs.map val).length := by rw [List.length_map]; exact shp.1
              have ea : val z = .ref a.1 := (fz_val ew).symm
              have new : Ok (cx ca C) (frz F3 H3 (own x)) H3 x.fz ∧ x.fz.nob = true ∧ ∀ q ∈ own x.fz, H q = none ∧ q ∉ adrR .o r3 ∧ q ∉ adrR .b r3 ∧ frz F3 H3 (own x) q = none := cold_new (fz_cold x) okf
              have ndk := nodup_kids (slot_nd s3 hi3 hw)
              obtain ⟨s4, g4⟩ := Stt.put (k' := .dct (putG ks xs key x.fz).1) (ys := (putG ks xs key x.fz).2) s g123 s3 hi3 hw rfl ⟨putG_len ks xs key x.fz shp.1, putG_nodup ks xs key x.fz shp.2⟩ (fun _ _ z => by cases z)
                ff fo fr sb (fun y hy => (putG_mem hy).imp id fun e => by rw [e]; exact new) (put_nodup ndk (by rw [cold_own (fz_cold x)]; exact List.nodup_nil) (by rw [cold_own (fz_cold x)]; exact fun _ z => (by cases z)))
              refine ⟨a.1, upd H3 a.1 (cont ca (.dct (putG ks xs key x.fz).1) a ((putG ks xs key x.fz).2.map val)), ea, .inl ⟨_, key, full.1, key_val hk, by rw [List.length_zip, ← hlen, Nat.min_self]; exact hc.2, ?_⟩, ?_⟩
              · show upd H3 a.1 (.dK ((putG ks xs key x.fz).1.zip ((putG ks xs key x.fz).2.map val))) = _
                rw [putK_zip ks _ key _ hlen shp.2]
                have e1 := putG_map val ks xs key x.fz
                rw [show val x.fz = val x from val_mk _ x] at e1
                rw [e1]
              · refine p _ _ _ σ g4 s4 ?_
                rw [erR_mod (f := fun _ => T.nd (.dct (putG ks xs key x.fz).1) .o a (putG ks xs key x.fz).2) (g := fun _ => T.nd (.dct (putG ks xsD key d.fz).1) .o () (putG ks xsD key d.fz).2) hi3 hw ?_, e3]
                show T.nd (.dct (putG ks xs key x.fz).1) .o () (mapL (fun _ => ()) (putG ks xs key x.fz).2) = _
                rw [← exs, ← ex1, mapL_eq, mapL_eq, ← show er x.fz = (er x).fz from T.map_mk _ _ x, putG_map er ks xs key x.fz]
            · exact p.elim
        · exact p.elim⟩
/-- p.pop() as a statement: its last item goes -/
def S.pop (p : Pv) : Sv := fun ρ => (p ρ).toS fun q ρ1 => match getR ρ1 q.1 q.2 with
  | some (.nd .lst .o _ xs) => if xs ≠ [] then .nx (modS (fun _ => .nd .lst .o () xs.dropLast) ρ1 q.1 q.2) else .bad
  | _ => .bad
theorem cs_pop (h : CP ca C W o pv) (hbase : attributeBase o "pop" C.env (eval o C.env) = eval o C.env := by rfl) (hline : (apos.endLine == pos.line) = true := by rfl)
    (hsw : swapsWith (.Call (.Attribute o "pop" apos) [] [] pos) none epos.line C.env = pure false := by rfl) : CS ca C W (.Expr (.Call (.Attribute o "pop" apos) [] [] pos) epos) (S.pop pv) := ⟨fun ρ => by
  refine PS.mono (ps_expr (pe_bm0 PySem.F.plainAttrs_list PySem.F.slot_list_pop PySem.F.type_list_pop mt_pop (h.run ρ) hbase hline) hsw) fun D σ H ⟨F, r, s, e, p⟩ => ⟨F, r, s, e, ?_⟩
  unfold S.pop at p
  cases hp : pv ρ with
  | bad => rw [hp] at p; exact p
  | exc c fs ρ1 => rw [hp] at p; exact fun F' H' r' dx g s e x => p F' H' r' σ dx g.toS s e x
  | ok q ρ1 =>
    rw [hp, R.ok_toS] at p
    intro F1 H1 r1 x0 x g1 s1 e1 hi hx
    have hg1 := getR_at hi hx
    rw [e1] at hg1
    rw [hg1] at p
    split at p
    · rename_i u xsD hnd
      obtain ⟨a, xs, rfl, exs⟩ := er_nd (Option.some.inj hnd)
      have okx := (s1.slotOk hi).get hx
      split at p
      · rename_i hne
        have hne' : xs ≠ [] := fun z => hne (by rw [← exs, z]; rfl)
        have hpos : 0 < xs.length := List.length_pos_iff.mpr hne'
        refine ⟨.inl ⟨rfl, _, SqL.of (okx.at_ s1.sub)⟩, a.1, xs.map val, val xs[xs.length - 1], rfl, rfl, okx.1.2.1.1, ?_, ?_⟩
        · rw [List.length_map, List.getElem?_map, List.getElem?_eq_getElem (by omega)]; rfl
        · have hsub : ∀ y ∈ xs.dropLast, y ∈ xs := fun y hy => (List.dropLast_sublist xs).subset hy
          have ndk := nodup_kids (slot_nd s1 hi hx)
          have hn : (adrL .o xs.dropLast).Nodup := by
            have e3 : xs.dropLast ++ [xs.getLast hne'] = xs := List.dropLast_concat_getLast hne'
            rw [← e3, adrL_eq, List.flatMap_append] at ndk
            rw [adrL_eq]
            exact (List.nodup_append.mp ndk).1
          obtain ⟨s2, g2⟩ := Stt.put (k' := .lst) (ys := xs.dropLast) s g1 s1 hi hx rfl trivial (fun _ _ z => by cases z) (fun _ _ h => h) (fun b hb => (s1.own_there hb).2) (fun _ h h' => absurd h h') s1.sub (fun y hy => .inl (hsub y hy)) hn
          have := p _ _ _ σ g2 s2 (by rw [erR_mod (f := fun _ => T.nd .lst .o a xs.dropLast) (g := fun _ => T.nd .lst .o () xsD.dropLast) hi hx (by show T.nd .lst .o () (mapL (fun _ => ()) xs.dropLast) = _; rw [← exs, mapL_eq, mapL_eq, List.map_dropLast]), e1])
          rw [List.map_dropLast] at this
          exact this
      · exact p.elim
    · exact p.elim⟩
end
end Vl
/-! The value layer, 18: defs and calls. -/
namespace Vl
open PySem PySem.Spec PyProof.Rows L2

section
variable {X : Ctx} {F F' H H' : Hp} {r : AR} {σ : St}
/- changes elsewhere leave a tree as it is -/
mutual
theorem Ok.keep : ∀ {x : A}, Ok X F H x → (∀ a u, F a = some u → F' a = some u) → (∀ a ∈ own x, H' a = H a ∧ F' a = none) → (∀ b ∈ bor x, ∀ u, H b = some u → H' b = some u) → Ok X F' H' x
  | .non, _, _, _, _ => trivial
  | .bl _, _, _, _, _ => trivial
  | .int _, _, _, _, _ => trivial
  | .str _, _, _, _, _ => trivial
  | .nd k m a xs, h, hf, ho, hb => by
    obtain ⟨⟨sh, n⟩, l⟩ := h
    refine ⟨⟨sh, ?_⟩, OkL.keep l hf (fun p hp => ho p (List.mem_append_right _ hp)) fun p hp => hb p (List.mem_append_right _ hp)⟩
    cases m with
    | c => exact ⟨n.1.same hf, n.2⟩
    | o =>
      have h2 : ∀ c ∈ ndA k a, H' c = H c ∧ F' c = none := fun c hc => ho c (List.mem_append_left _ (by rw [if_pos rfl]; exact hc))
      exact ⟨n.1.keep fun c hc => (h2 c hc).1, fun c hc => (h2 c hc).2, n.2.2⟩
    | b =>
      have h2 : ∀ c ∈ ndA k a, ∀ u, H c = some u → H' c = some u := fun c hc => hb c (List.mem_append_left _ (by rw [if_pos rfl]; exact hc))
      have rd : ∀ {u}, Rd H a.1 u → Rd H' a.1 u := fun {u} h => by
        rcases h with h | ⟨o, h⟩
        · exact .inl (h2 _ ndA_fst _ h)
        · exact .inr ⟨o, h2 _ ndA_fst _ h⟩
      refine ⟨?_, n.2.1, fun c hc => ?_⟩
      · cases k with
        | lst => exact h2 _ ndA_fst _ n.1
        | scr => exact n.1.imp rd id
        | tup => exact n.1.imp rd id
        | dct ks => exact rd n.1
        | ins C fs => exact ⟨h2 _ ndA_fst _ n.1.1, h2 a.2 (by simp [ndA]) _ n.1.2⟩
      · cases e : H c with
        | none => exact absurd e (n.2.2 c hc)
        | some u => rw [h2 c hc u e]; exact fun z => by cases z
theorem OkL.keep : ∀ {xs : List A}, OkL X F H xs → (∀ a u, F a = some u → F' a = some u) → (∀ a ∈ adrL .o xs, H' a = H a ∧ F' a = none) → (∀ b ∈ adrL .b xs, ∀ u, H b = some u → H' b = some u) → OkL X F' H' xs
  | [], _, _, _, _ => trivial
  | x :: xs, h, hf, ho, hb => ⟨Ok.keep h.1 hf (fun p hp => ho p (List.mem_append_left _ hp)) (fun p hp => hb p (List.mem_append_left _ hp)),
      OkL.keep h.2 hf (fun p hp => ho p (List.mem_append_right _ hp)) fun p hp => hb p (List.mem_append_right _ hp)⟩
end
theorem Stt.keep (s : Stt X F H r σ) (hf : ∀ a u, F a = some u → F' a = some u) (ho : ∀ a ∈ adrR .o r, H' a = H a ∧ F' a = none) (hb : ∀ b ∈ adrR .b r, ∀ u, H b = some u → H' b = some u) (sub : Sub F' H') : Stt X F' H' r σ :=
  ⟨s.val, fun x hx => (s.ok x hx).keep hf (fun a ha => ho a (mem_adrR.mpr ⟨x, hx, ha⟩)) (fun b hb' => hb b (mem_adrR.mpr ⟨x, hx, hb'⟩)), s.nd, s.bd, sub, s.fx⟩
end
section
variable {K : PySem.W.Frag} {cf : Str → Addr} {fx fx' : List (Nat × V)} {F H : Hp}
/- the fixed slots don't matter to a tree -/
mutual
theorem Ok.ctx : ∀ {x : A}, Ok ⟨K, cf, fx⟩ F H x → Ok ⟨K, cf, fx'⟩ F H x
  | .non, _ => trivial
  | .bl _, _ => trivial
  | .int _, _ => trivial
  | .str _, _ => trivial
  | .nd k m a xs, h => ⟨h.1, OkL.ctx h.2⟩
theorem OkL.ctx : ∀ {xs : List A}, OkL ⟨K, cf, fx⟩ F H xs → OkL ⟨K, cf, fx'⟩ F H xs
  | [], _ => trivial
  | x :: xs, h => ⟨Ok.ctx h.1, OkL.ctx h.2⟩
end
theorem XOk.ctx {dx : Option Addr} {fs : List (Str × D)} (h : XOk ⟨K, cf, fx⟩ F H dx fs) : XOk ⟨K, cf, fx'⟩ F H dx fs := by
  cases dx with
  | none => exact h
  | some d =>
    obtain ⟨xs, gs, h1, h2, h3⟩ := h
    exact ⟨xs, gs, h1, fun p hp => ⟨(h2 p hp).1, (h2 p hp).2.ctx⟩, h3⟩
end

/-! ### what a call owes -/
inductive Out where
  | ok (d : D) (os : List D) | exc (C : Str) (fs : List (Str × D)) (os : List D) | bad
def pick {α : Type} : List Bool → List (Option α) → Option (List α)
  | [], _ => some []
  | true :: ms, some x :: r => (pick ms r).map (x :: ·)
  | false :: ms, _ :: r => pick ms r
  | _, _ => none
theorem pick_map {α β : Type} (f : α → β) : ∀ (ms : List Bool) (r : List (Option α)), pick ms (r.map (Option.map f)) = (pick ms r).map (List.map f)
  | [], r => rfl
  | true :: ms, [] => rfl
  | true :: ms, none :: r => rfl
  | true :: ms, some x :: r => by
    show (pick ms (r.map (Option.map f))).map (f x :: ·) = ((pick ms r).map (x :: ·)).map (List.map f)
    rw [pick_map f ms r]
    cases pick ms r <;> rfl
  | false :: ms, [] => rfl
  | false :: ms, o :: r => by
    show pick ms (r.map (Option.map f)) = (pick ms r).map (List.map f)
    exact pick_map f ms r
theorem pick_sub {q : Mk} : ∀ {ms : List Bool} {r : AR} {ys : List A}, pick ms r = some ys → (adrL q ys).Sublist (adrR q r)
  | [], r, ys, h => by cases h; exact List.nil_sublist _
  | true :: ms, [], ys, h => by cases h
  | true :: ms, none :: r, ys, h => by cases h
  | true :: ms, some x :: r, ys, h => by
    have h : (pick ms r).map (x :: ·) = some ys := h
    cases e : pick ms r with
    | none => rw [e] at h; cases h
    | some zs =>
      rw [e] at h; cases h
      exact (List.Sublist.refl (adr q x)).append (pick_sub e)
  | false :: ms, [], ys, h => by cases h
  | false :: ms, o :: r, ys, h => by
    have h : pick ms r = some ys := h
    exact (pick_sub h).trans (List.sublist_append_right (adrO q o) _)
theorem pick_mem {α : Type} : ∀ {ms : List Bool} {r : List (Option α)} {ys : List α}, pick ms r = some ys → ∀ y ∈ ys, some y ∈ r
  | [], r, ys, h => by cases h; exact fun _ z => (by cases z)
  | true :: ms, [], ys, h => by cases h
  | true :: ms, none :: r, ys, h => by cases h
  | true :: ms, some x :: r, ys, h => by
    have h : (pick ms r).map (x :: ·) = some ys := h
    cases e : pick ms r with
    | none => rw [e] at h; cases h
    | some zs =>
      rw [e] at h; cases h
      intro y hy
      rcases List.mem_cons.mp hy with rfl | hy
      · exact List.mem_cons_self
      · exact List.mem_cons_of_mem _ (pick_mem e y hy)
  | false :: ms, [], ys, h => by cases h
  | false :: ms, o :: r, ys, h => by
    have h : pick ms r = some ys := h
    exact fun y hy => List.mem_cons_of_mem _ (pick_mem h y hy)
/-- the values of the picked ones -/
def fixOf : Nat → List Bool → List A → List (Nat × V)
  | i, true :: ms, x :: xs => (i, val x) :: fixOf (i + 1) ms xs
  | i, false :: ms, _ :: xs => fixOf (i + 1) ms xs
  | _, _, _ => []
theorem fix_at : ∀ {i : Nat} {ms : List Bool} {as : List A}, ∀ p ∈ fixOf i ms as, ∃ j x, p.1 = i + j ∧ as[j]? = some x ∧ p.2 = val x ∧ ms[j]? = some true
  | i, [], as, p, h => by cases h
  | i, true :: ms, [], p, h => by cases h
  | i, false :: ms, [], p, h => by cases h
  | i, true :: ms, x :: xs, p, h => by
    rcases List.mem_cons.mp h with rfl | h
    · exact ⟨0, x, rfl, rfl, rfl, rfl⟩
    · obtain ⟨j, y, e1, e2, e3, e4⟩ := fix_at p h
      exact ⟨j + 1, y, by rw [e1]; omega, e2, e3, e4⟩
  | i, false :: ms, x :: xs, p, h => by
    obtain ⟨j, y, e1, e2, e3, e4⟩ := fix_at (i := i + 1) p h
    exact ⟨j + 1, y, by rw [e1]; omega, e2, e3, e4⟩
theorem pick_fix : ∀ {ms : List Bool} {as : List A} {σ : St} {ys : List V} {i : Nat}, pick ms σ = some ys → (∀ p ∈ fixOf i ms as, ∀ j, p.1 = i + j → σ[j]? = some (some p.2)) → ms.length ≤ as.length → pick ms (as.map fun x => some (val x)) = some ys
  | [], as, σ, ys, i, h, _, _ => by cases h; rfl
  | m :: ms, [], σ, ys, i, _, _, hl => absurd hl (by simp)
  | true :: ms, a :: as, [], ys, i, h, _, _ => by cases h
  | true :: ms, a :: as, none :: σ, ys, i, h, _, _ => by cases h
  | true :: ms, a :: as, some v :: σ, ys, i, h, k, hl => by
    have h : (pick ms σ).map (v :: ·) = some ys := h
    cases e : pick ms σ with
    | none => rw [e] at h; cases h
    | some zs =>
      rw [e] at h; cases h
      have e0 : v = val a := Option.some.inj (Option.some.inj (k _ List.mem_cons_self 0 rfl))
      subst e0
      have ih := pick_fix (i := i + 1) (as := as) e (fun p hp j ej => k p (List.mem_cons_of_mem _ hp) (j + 1) (by rw [ej]; omega)) (Nat.le_of_succ_le_succ hl)
      show (pick ms (as.map fun x => some (val x))).map (val a :: ·) = _
      rw [ih]; rfl
  | false :: ms, a :: as, [], ys, i, h, _, _ => by cases h
  | false :: ms, a :: as, o :: σ, ys, i, h, k, hl => by
    have h : pick ms σ = some ys := h
    exact pick_fix (i := i + 1) (as := as) h (fun p hp j ej => k p hp (j + 1) (by rw [ej]; omega)) (Nat.le_of_succ_le_succ hl)

/-- behind a call -/
structure Done (X : Ctx) (ms : List Bool) (F H : Hp) (as : List A) (F' H' : Hp) (ys : List A) (os : List D) : Prop where
  same : ∀ a u, a ∉ adrL .o as → H a = some u → H' a = some u
  fs : ∀ a u, F a = some u → F' a = some u
  fr : ∀ a, F a = none → F' a ≠ none → H a = none ∨ a ∈ adrL .o as
  there : ∀ a, H a ≠ none → H' a ≠ none
  sub : Sub F' H'
  ok : OkL X F' H' ys
  er : ys.map er = os
  val : pick ms (as.map fun x => some (val x)) = some (ys.map val)
  nd : (adrL .o ys).Nodup
  ow : ∀ a ∈ adrL .o ys, H a = none ∨ a ∈ adrL .o as
  nob : allL notB ys = true
/-- what a call gives -/
structure Gives (X : Ctx) (H : Hp) (as : List A) (F' H' : Hp) (ys : List A) (z : A) : Prop where
  ok : Ok X F' H' z
  nob : z.nob = true
  nd : (own z).Nodup
  out : ∀ a ∈ own z, a ∉ adrL .o ys
  ow : ∀ a ∈ own z, H a = none ∨ a ∈ adrL .o as
/-- a def: how many parameters, which of them it may change, what it does -/
structure Fc where
  np : Nat
  ms : List Bool
  fn : List D → Out
/-- a def's promise -/
def spM (K : PySem.W.Frag) (cf : Str → Addr) (c : Fc) : Sp := fun vs H Q E => ∃ (F : Hp) (as : List A), as.map val = vs ∧ Sub F H ∧ OkL ⟨K, cf, []⟩ F H as ∧ (adrL .o as).Nodup ∧ (∀ b ∈ adrL .b as, b ∉ adrL .o as) ∧ as.length = c.np ∧
  match c.fn (as.map er) with
  | .bad => False
  | .ok d os => ∀ F' H' ys z, Done ⟨K, cf, []⟩ c.ms F H as F' H' ys os → Gives ⟨K, cf, []⟩ H as F' H' ys z → er z = d → Q (val z) H'
  | .exc n fs os => ∀ F' H' ys dx, Done ⟨K, cf, []⟩ c.ms F H as F' H' ys os → XOk ⟨K, cf, []⟩ F' H' dx fs → E (.ref (cf n)) dx H'
def fin (ms : List Bool) (d : D) (ρ : Env) : Out := match pick ms ρ with
  | some os => if d.nob = true ∧ allL notB os = true then .ok d os else .bad
  | none => .bad
def finX (ms : List Bool) (n : Str) (fs : List (Str × D)) (ρ : Env) : Out := match pick ms ρ with
  | some os => if allL notB os = true then .exc n fs os else .bad
  | none => .bad
/-- a def by its body: n names -/
def runF (ms : List Bool) (n : Nat) (g : Sv) (ds : List D) : Out := match g (ds.map some ++ List.replicate (n - ds.length) none) with
  | .nx ρ => fin ms .non ρ
  | .ret d ρ => fin ms d ρ
  | .exc c fs ρ => finX ms c fs ρ
  | _ => .bad
theorem adrR_app {q : Mk} {r r' : AR} : adrR q (r ++ r') = adrR q r ++ adrR q r' := by unfold adrR; rw [List.flatMap_append]
theorem adrR_some {q : Mk} : ∀ {as : List A}, adrR q (as.map some) = adrL q as
  | [] => rfl
  | a :: as => by
    show adr q a ++ adrR q (as.map some) = _
    rw [adrR_some]; rfl
theorem adrR_none {q : Mk} : ∀ {n : Nat}, adrR q (List.replicate n none) = []
  | 0 => rfl
  | n + 1 => by
    show adrO q none ++ adrR q (List.replicate n none) = _
    rw [adrR_none]; rfl
theorem adrR_start {q : Mk} {as : List A} {n : Nat} : adrR q (as.map some ++ List.replicate n none) = adrL q as := by rw [adrR_app, adrR_some, adrR_none, List.append_nil]
section
variable {P : Program} {w : World} {K : PySem.W.Frag} {mg : Str → Option Value} {base : Heap} {cf : Str → Addr}
theorem done_of {fx : List (Nat × V)} {ms : List Bool} {F H : Hp} {as : List A} {n : Nat} {F' H' : Hp} {r' : AR} {σ' : St} {ρ' : Env} {os : List D} (hms : ms.length ≤ as.length) (efx : fx = fixOf 0 ms as)
    (g : GrowS F H (as.map some ++ List.replicate n none) F' H' r') (s : Stt ⟨K, cf, fx⟩ F' H' r' σ') (e : erR r' = ρ') (hp : pick ms ρ' = some os) (nb : allL notB os = true) :
    ∃ ys, Done ⟨K, cf, []⟩ ms F H as F' H' ys os ∧ ∀ a, a ∉ adrR .o r' → a ∉ adrL .o ys := by
  subst efx
  rw [← e] at hp
  unfold erR at hp
  rw [pick_map] at hp
  cases hy : pick ms r' with
  | none => rw [hy] at hp; cases hp
  | some ys =>
    rw [hy] at hp
    have ey : ys.map er = os := Option.some.inj hp
    have sl := pick_sub (q := .o) hy
    have ro : ∀ q, adrR q (as.map some ++ List.replicate n none) = adrL q as := fun q => adrR_start
    refine ⟨ys, ⟨fun a u ha h => g.same a u (by rw [ro]; exact ha) h, g.fs, fun a h h' => (by have := g.fr a h h'; rwa [ro] at this), g.there, s.sub, ?_, ey, ?_, s.nd.sublist sl, fun a ha => (by have := g.ow a (sl.subset ha); rwa [ro] at this), ?_⟩, fun a ha h => ha (sl.subset h)⟩
    · exact OkL_iff.mpr fun y hym => (s.ok y (pick_mem hy y hym)).ctx
    · refine pick_fix (i := 0) (σ := σ') ?_ (fun p hp j ej => ?_) hms
      · rw [s.val]; unfold valR; rw [pick_map, hy]; rfl
      · have := s.fx p hp
        rw [ej, Nat.zero_add] at this
        exact this
    · rw [← nb, ← ey, ← mapL_eq]; exact (allL_mapL _ _ ys).symm
/-- a def by its body -/
theorem fn_ok {x qual : Str} {st : Stmt} {f : Addr} {fd : FuncData} {N ps : List Str} {k : Nat} {ms : List Bool} {g : Sv} {dvs : List V} {kws : List (Str × V)} (Fu : FunD K x qual (defArgs st) (defBody st) (defScope st) dvs kws f fd) (S : FnScope N ps (defScope st)) (hms : ms.length ≤ ps.length)
    (hbody : ∀ (fx : List (Nat × V)) (cdv : Value) (A : Around) (outer : List PySem.Env) (s : Shared) (H : Hp) (E : XK), Room k (A.deeper (envOfC qual (defScope st) s.heap.objs.size f cdv)) → (∀ p ∈ fx, ms[p.1]? = some true) →
      CSs ⟨cf, fx⟩ (cxOf (L2.CX P w) P w K mg base N qual (defScope st) f cdv A outer s H E) (fun cls d _ H' => E cls d H') (defBody st) g) : FnOk P w K mg base (L2.CX P w) (k + 1) f fd ps (spM K cf ⟨ps.length, ms, runF ms N.length g⟩) := by
  refine FunD.ok (CX := L2.CX P w) Fu S (fun vs H Q E ⟨F, as, ev, _, _, _, _, hl, _⟩ => by rw [← ev, List.length_map, hl]) fun cdv A outer s H vs Q E hr ⟨F, as, ev, sub, okas, nda, bda, hl, hq⟩ => ?_
  have hl : as.length = ps.length := hl
  have hb := (hbody (fixOf 0 ms as) cdv A outer s H E hr fun p hp => by
    obtain ⟨j, y, e1, _, _, e4⟩ := fix_at p hp
    rw [e1, Nat.zero_add]; exact e4).run ((as.map er).map some ++ List.replicate (N.length - (as.map er).length) none)
  refine ⟨_, hb, F, as.map some ++ List.replicate (N.length - as.length) none, ⟨?_, fun y hy => ?_, by rw [adrR_start]; exact nda, by rw [adrR_start, adrR_start]; exact bda, sub, fun p hp => ?_⟩, ?_, ?_⟩
  · unfold L2.start valR
    rw [← ev, List.map_append, List.map_map, List.map_map, List.length_map]
    congr 1
    rw [List.map_replicate]; rfl
  · rcases List.mem_append.mp hy with h | h
    · obtain ⟨z, hz, e⟩ := List.mem_map.mp h
      cases e
      exact (OkL_iff.mp okas y hz).ctx
    · have := (List.mem_replicate.mp h).2
      cases this
  · obtain ⟨j, y, e1, e2, e3, _⟩ := fix_at p hp
    have hj : j < as.length := (List.getElem?_eq_some_iff.mp e2).1
    unfold L2.start
    rw [← ev, e1, Nat.zero_add, List.getElem?_append_left (by rw [List.length_map, List.length_map]; exact hj), List.getElem?_map, List.getElem?_map, e2, e3]; rfl
  · unfold erR
    rw [List.map_append, List.map_map, List.map_map, List.length_map]
    congr 1
    rw [List.map_replicate]; rfl
  · have hms' : ms.length ≤ as.length := by rw [hl]; exact hms
    have hq : match runF ms N.length g (as.map er) with
      | .bad => False
      | .ok d os => ∀ F' H' ys z, Done ⟨K, cf, []⟩ ms F H as F' H' ys os → Gives ⟨K, cf, []⟩ H as F' H' ys z → er z = d → Q (val z) H'
      | .exc n fs os => ∀ F' H' ys dx, Done ⟨K, cf, []⟩ ms F H as F' H' ys os → XOk ⟨K, cf, []⟩ F' H' dx fs → E (.ref (cf n)) dx H' := hq
    unfold runF at hq
    have ro : adrR .o (as.map some ++ List.replicate (N.length - as.length) none) = adrL .o as := adrR_start
    cases hg : g ((as.map er).map some ++ List.replicate (N.length - (as.map er).length) none) with
    | bad => rw [hg] at hq; exact hq
    | bk ρ' => rw [hg] at hq; exact hq.elim
    | ct ρ' => rw [hg] at hq; exact hq.elim
    | nx ρ' =>
      rw [hg] at hq
      dsimp only [fin] at hq
      cases hp : pick ms ρ' with
      | none => rw [hp] at hq; exact hq.elim
      | some os =>
        rw [hp] at hq
        dsimp only at hq
        by_cases hc : (T.non : D).nob = true ∧ allL notB os = true
        · rw [if_pos hc] at hq
          intro F' H' r' σ' g' s' e'
          obtain ⟨ys, dn, out⟩ := done_of hms' rfl g' s' e' hp hc.2
          exact hq F' H' ys .non dn ⟨trivial, rfl, List.nodup_nil, fun _ z => (by cases z), fun _ z => (by cases z)⟩ rfl
        · rw [if_neg hc] at hq; exact hq.elim
    | ret d ρ' =>
      rw [hg] at hq
      dsimp only [fin] at hq
      cases hp : pick ms ρ' with
      | none => rw [hp] at hq; exact hq.elim
      | some os =>
        rw [hp] at hq
        dsimp only at hq
        by_cases hc : d.nob = true ∧ allL notB os = true
        · rw [if_pos hc] at hq
          intro F' H' r' σ' z g' s' e' v ow ez
          obtain ⟨ys, dn, out⟩ := done_of hms' rfl g' s' e' hp hc.2
          refine hq F' H' ys z dn ⟨v.ok.ctx, by rw [← hc.1, ← ez]; exact (T.all_map _ _ z).symm, v.nd, fun a ha => out a (v.out a ha), fun a ha => ?_⟩ ez
          have := ow a ha
          rwa [ro] at this
        · rw [if_neg hc] at hq; exact hq.elim
    | exc n fs ρ' =>
      rw [hg] at hq
      dsimp only [finX] at hq
      cases hp : pick ms ρ' with
      | none => rw [hp] at hq; exact hq.elim
      | some os =>
        rw [hp] at hq
        dsimp only at hq
        by_cases hc : allL notB os = true
        · rw [if_pos hc] at hq
          intro F' H' r' σ' dx g' s' e' x
          obtain ⟨ys, dn, out⟩ := done_of hms' rfl g' s' e' hp hc
          exact hq F' H' ys dx dn x.ctx
        · rw [if_neg hc] at hq; exact hq.elim
end
end Vl
/-! The value layer, 19: calls in expressions. -/
namespace Vl
open PySem PySem.Spec PyProof.Rows L2

def Out.toR (o : Out) (ρ : Env) : R D := match o with
  | .ok d _ => .ok d ρ
  | .exc c fs _ => .exc c fs ρ
  | .bad => .bad
/-- no node: a default -/
def leafA : A → Bool
  | .nd _ _ _ _ => false
  | _ => true
theorem leaf_ok {X : Ctx} {F H : Hp} {x : A} (h : leafA x = true) : Ok X F H x := by cases x <;> first | trivial | cases h
theorem leaf_adr {q : Mk} {x : A} (h : leafA x = true) : adr q x = [] := by cases x <;> first | rfl | cases h
theorem leafs_adr {q : Mk} : ∀ {xs : List A}, xs.all leafA = true → adrL q xs = []
  | [], _ => rfl
  | x :: xs, h => by
    rw [List.all_cons, Bool.and_eq_true] at h
    rw [adrL, leaf_adr h.1, leafs_adr h.2]; rfl
theorem adrL_app {q : Mk} {xs ys : List A} : adrL q (xs ++ ys) = adrL q xs ++ adrL q ys := by rw [adrL_eq, adrL_eq, adrL_eq, List.flatMap_append]
/-- the call of c on the arguments -/
def E.call (c : Fc) (dd : List A) (fa : Env → R (List D)) : Ev := fun ρ => (fa ρ).bind fun ds ρ1 => if ds.length + dd.length = c.np then (c.fn (ds ++ dd.map er)).toR ρ1 else .bad
section
variable {ca : Ca} {C : Cx} {W : WX} {F F1 F' H H1 H' : Hp} {r r1 : AR} {σ : St} {ρ1 : Env} {xs : List A}
theorem call_back {X0 : Ctx} {ms : List Bool} {ys : List A} {os : List D} {X : Ctx} (s0 : Stt X F H r σ) (g1 : Grow F H r F1 H1 r1) (s1 : Stt X F1 H1 r1 σ) (new : ∀ a ∈ adrL .o xs, H a = none) (dn : Done X0 ms F1 H1 xs F' H' ys os) : Grow F H r F' H' r1 ∧ Stt X F' H' r1 σ := by
  have hb : ∀ a, H a ≠ none → a ∉ adrL .o xs := fun a h h' => h (new a h')
  have hs : ∀ a, H1 a = none → H a = none := fun a h => by
    cases e : H a with
    | none => rfl
    | some u => rw [g1.same a u e] at h; cases h
  refine ⟨⟨fun a u h => dn.same a u (hb a (by rw [h]; exact fun z => by cases z)) (g1.same a u h), fun a u h => dn.fs a u (g1.fs a u h), fun a h h' => ?_, g1.ow, g1.bo, g1.un⟩, s1.keep dn.fs (fun a ha => ?_) (fun b hb' u hu => dn.same b u (hb b (s0.bor_there ((g1.bo b).mp hb'))) hu) dn.sub⟩
  · cases e : F1 a with
    | some u => exact g1.fr a h (by rw [e]; exact fun z => by cases z)
    | none =>
      rcases dn.fr a e h' with q | q
      · exact .inl (hs a q)
      · exact .inl (new a q)
  · have h0 := (s0.own_there (g1.ow a ha)).1
    obtain ⟨h1, h2⟩ := s1.own_there ha
    refine ⟨?_, ?_⟩
    · cases e : H1 a with
      | none => exact absurd e h1
      | some u => exact dn.same a u (hb a h0) e
    · cases e : F' a with
      | none => rfl
      | some u =>
        rcases dn.fr a h2 (by rw [e]; exact fun z => by cases z) with q | q
        · exact absurd q h1
        · exact absurd q (hb a h0)
theorem call_sp {c : Fc} {Q : VK} (s0 : Stt (cx ca C) F H r σ) (g1 : Grow F H r F1 H1 r1) (s1 : Stt (cx ca C) F1 H1 r1 σ) (e1 : erR r1 = ρ1) (ok : OkL (cx ca C) F1 H1 xs) (nd : (adrL .o xs).Nodup) (new : ∀ a ∈ adrL .o xs, H a = none)
    (bo : ∀ b ∈ adrL .b xs, b ∈ adrR .o r ∨ b ∈ adrR .b r) (hl : xs.length = c.np) (p : PostE (cx ca C) W σ F H r ((c.fn (xs.map er)).toR ρ1) Q) : spM C.K ca.f c (xs.map val) H1 Q (WE W σ) := by
  refine ⟨F1, xs, rfl, s1.sub, ok.ctx, nd, fun b hb h => ?_, hl, ?_⟩
  · have h0 := new b h
    rcases bo b hb with q | q
    · exact (s0.own_there q).1 h0
    · exact s0.bor_there q h0
  · have hs : ∀ a, H1 a = none → H a = none := fun a h => by
      cases e : H a with
      | none => rfl
      | some u => rw [g1.same a u e] at h; cases h
    cases hf : c.fn (xs.map er) with
    | bad => rw [hf] at p; exact p
    | ok d os =>
      rw [hf] at p
      intro F' H' ys z dn gv ez
      obtain ⟨g, s⟩ := call_back s0 g1 s1 new dn
      exact p F' H' r1 z g s e1 gv.ok.ctx ez ⟨gv.nd, fun a ha => (gv.ow a ha).elim (hs a) (new a), fun b hb => (by have q0 : bor z = [] := nob_bor gv.nob; rw [q0] at hb; cases hb)⟩
    | exc n fs os =>
      rw [hf] at p
      intro F' H' ys dx dn x
      obtain ⟨g, s⟩ := call_back s0 g1 s1 new dn
      exact p F' H' r1 dx g s e1 x.ctx
theorem OkL.leafs {X : Ctx} {F H : Hp} {xs dd : List A} (h : OkL X F H xs) (hd : dd.all leafA = true) : OkL X F H (xs ++ dd) := h.append (OkL_iff.mpr fun x hx => leaf_ok (List.all_eq_true.mp hd x hx))
variable {e : Expr} {es : List Expr} {fa : Env → R (List D)} {c : Fc} {dd : List A} {x : Str} {p pos : Pos} {k : Nat} {f : Addr} {fd : FuncData} {ps : List Str} {ds : List Value}
/-- what the arguments of a call owe the callee -/
theorem call_args {ρ : Env} {Q : VK} (hdd : dd.all leafA = true) (s : Stt (cx ca C) F H r σ) (e : erR r = ρ) (p : PostE (cx ca C) W σ F H r (E.call c dd fa ρ) Q) :
    PostA (cx ca C) W σ F H r (fa ρ) fun vs H1 => spM C.K ca.f c (vs ++ dd.map val) H1 Q (WE W σ) := by
  unfold E.call at p
  cases hf : fa ρ with
  | bad => rw [hf] at p; exact p
  | exc n fs ρ1 => rw [hf] at p; exact p
  | ok ds ρ1 =>
    rw [hf, R.ok_bind] at p
    intro F1 H1 r1 xs g1 s1 e1 ok1 ex1 nd1 new1 bo1
    split at p
    · rename_i hl
      have q : ∀ q, adrL q (xs ++ dd) = adrL q xs := fun q => by rw [adrL_app, leafs_adr hdd, List.append_nil]
      rw [← List.map_append]
      refine call_sp s g1 s1 e1 (ok1.leafs hdd) (by rw [q]; exact nd1) (by rw [q]; exact new1) (by rw [q]; exact bo1) (by rw [List.length_append, ← hl, ← ex1, List.length_map]) ?_
      rw [List.map_append, ex1]; exact p
    · exact p.elim
theorem ce_call (Fn : FnOk C.prog C.w C.K C.mg C.base (L2.CX C.prog C.w) k f fd ps (spM C.K ca.f c)) (hr : Room k C.A) (hg : Gl C x) (hm : C.mg x = some (.ref f)) (hk : PySem.W.keepIn C.K (.ref f) = true) (hb : Binds C.K fd ps ds) (hd : Vals (dd.map val) ds) (tk : Takes C W) (hdd : dd.all leafA = true)
    (ha : CA ca C W (e :: es) fa) (hdb : (x == ("__debug__" : Str)) = false := by decide) (he : starEach (e :: es) C.env = (false, eval e C.env) :: starEach es C.env := by rfl) (hpl : (backTo pos (starEach es C.env)).any (·.1) = false := by rfl) :
    CE ca C W (.Call (.Name x p) (e :: es) [] pos) (E.call c dd fa) := ⟨fun ρ =>
  PE.mono (pe_callSD Fn hr hg hm hk hb hd (fun σ => passAt tk σ) (ha.run ρ) hdb he hpl) fun σ H Q ⟨F, r, s, e, p⟩ => ⟨F, r, s, e, call_args hdd s e p⟩⟩
end
end Vl
/-! The value layer, 20: calls: no argument, methods, classes. -/
namespace Vl
open PySem PySem.Spec PyProof.Rows L2

section
variable {Y : Cx} {CT : CXT} {n : Nat} {g B : Addr} {gd : FuncData} {qs : List Str} {pr : Sp} {wv : List V} {wd : List Value} {Ew : St → XK} {y nm : Str} {z zp za : Pos} {e o : Expr} {es : List Expr} {to : TE} {t : TA}
/-- f() -/
theorem pe_call0M (Fn : FnOk Y.prog Y.w Y.K Y.mg Y.base CT n g gd qs pr) (room : Room n Y.A) (glob : Gl Y y) (at_ : Y.mg y = some (.ref g)) (kp : PySem.W.keepIn Y.K (.ref g) = true) (bn : Binds Y.K gd qs wd) (vl : Vals wv wd)
    (ps : ∀ σ, PassesAt CT Y σ (Ew σ)) (hdb : (y == ("__debug__" : Str)) = false := by decide) : PE Y (.Call (.Name y z) [] [] zp) (fun σ H Q => pr wv H Q (Ew σ)) :=
  ⟨fun pins s σ H Q J h => wpAny_Call_Name_kw (ld_glob J glob at_ (PySem.W.callWith_K0 J.kIn kp (run_fnSD (us := []) (vs := []) Fn room bn vl (ps σ) J .nil h)) hdb)⟩
/-- what a method's call on an object asks -/
def tOf (B : Addr) (nm : Str) (wv : List V) (pr : Sp) (Ew : St → XK) (to : TE) (t : TA) : TE := fun σ H Q => to σ H fun v H1 => ∃ a dx fs, v = .ref a ∧ H1 a = some (.ins B dx fs) ∧ fs.lookup nm = none ∧
  t σ H1 fun vs H2 => pr (v :: (vs ++ wv)) H2 Q (Ew σ)
theorem pe_methM {pl : Sem Bool} (ho : PE Y o to) (cl : Cls Y.K B) (me : Meth Y.K B nm g) (Fn : FnOk Y.prog Y.w Y.K Y.mg Y.base CT n g gd qs pr) (room : Room n Y.A) (bn : Binds Y.K gd qs wd) (vl : Vals wv wd)
    (ps : ∀ σ, PassesAt CT Y σ (Ew σ)) (ha : PA Y (e :: es) t)
    (st : starEach (e :: es) Y.env = (false, eval e Y.env) :: starEach es Y.env := by rfl) (np : (backTo zp (starEach es Y.env)).any (·.1) = false := by rfl)
    (ev : eval (.Call (.Attribute o nm za) (e :: es) [] zp) Y.env = (eval o Y.env >>= fun ov => standAt za.atName >>= fun _ => holding [ov] (getMethod ov nm pl) >>= fun fp => callWith zp fp.1 fp.2 (backTo zp (starEach (e :: es) Y.env)) (backToKw zp (keywordEach [] Y.env))) := by rfl) :
    PE Y (.Call (.Attribute o nm za) (e :: es) [] zp) (tOf B nm wv pr Ew to t) := by
  constructor
  intro pins s σ H Q J h
  apply PySem.W.methodCall_KW (pl := pl) _ ev
  apply thn (ho.run pins s σ H _ J h)
  rintro u s1 ⟨v, H1, J1, rv, a, dx, fs, rfl, ea, lk, q⟩
  have eu : u = Value.ref a := rv
  subst eu
  apply getmeth_ok J1 ea cl me lk
  refine PySem.W.callWith_K (first := [.ref a]) (h₀ := Y.base) J.ok.mod.kin me.kp (thn (ha.run zp pins s1 σ H1 _ J1 q) ?_) st np
  rintro us s2 ⟨vs, H2, J2, rs, q2⟩
  exact ⟨J2.kIn, run_fnSD (us := .ref a :: us) (vs := .ref a :: vs) Fn room bn vl (ps σ) J2 (.cons rfl rs) q2⟩
theorem pe_meth0M {pl : Sem Bool} (ho : PE Y o to) (cl : Cls Y.K B) (me : Meth Y.K B nm g) (Fn : FnOk Y.prog Y.w Y.K Y.mg Y.base CT n g gd qs pr) (room : Room n Y.A) (bn : Binds Y.K gd qs wd) (vl : Vals wv wd)
    (ps : ∀ σ, PassesAt CT Y σ (Ew σ))
    (ev : eval (.Call (.Attribute o nm za) [] [] zp) Y.env = (eval o Y.env >>= fun ov => standAt za.atName >>= fun _ => holding [ov] (getMethod ov nm pl) >>= fun fp => callWith zp fp.1 fp.2 (backTo zp (starEach [] Y.env)) (backToKw zp (keywordEach [] Y.env))) := by rfl) :
    PE Y (.Call (.Attribute o nm za) [] [] zp) (tOf B nm wv pr Ew to tNil) := by
  constructor
  intro pins s σ H Q J h
  apply PySem.W.methodCall_KW (pl := pl) _ ev
  apply thn (ho.run pins s σ H _ J h)
  rintro u s1 ⟨v, H1, J1, rv, a, dx, fs, rfl, ea, lk, q⟩
  have eu : u = Value.ref a := rv
  subst eu
  apply getmeth_ok J1 ea cl me lk
  exact PySem.W.callWith_K0 (first := [.ref a]) J1.kIn me.kp (run_fnSD (us := [.ref a]) (vs := [.ref a]) Fn room bn vl (ps σ) J1 (.cons rfl .nil) q)
/-- the class at B, made: its __init__ on a bare object -/
def tNew (B : Addr) (wv : List V) (pr : Sp) (Ew : St → XK) (t : TA) : TE := fun σ H Q => t σ H fun vs H1 => ∀ x dx, H1 x = none → H1 dx = none → dx ≠ x →
  pr (.ref x :: (vs ++ wv)) (upd (upd H1 dx (.own x)) x (.ins B dx [])) (fun v H2 => v = .non ∧ Q (.ref x) H2) (Ew σ)
theorem run_makeM {pins : List (Addr × Obj)} {σ : St} {H : Hp} {s : Shared} {Q : VK} {us : List Value} {vs : List V} (M : L2.Mk Y.K B g) (Fn : FnOk Y.prog Y.w Y.K Y.mg Y.base CT n g gd qs pr) (room : Room (n + 1) Y.A)
    (bn : Binds Y.K gd qs wd) (vl : Vals wv wd) (ps : PassesAt CT Y σ (Ew σ)) (J : Inv Y pins σ H s) (rs : Vals vs us)
    (h : ∀ x dx, H x = none → H dx = none → dx ≠ x → pr (.ref x :: (vs ++ wv)) (upd (upd H dx (.own x)) x (.ins B dx [])) (fun v H2 => v = .non ∧ Q (.ref x) H2) (Ew σ)) :
    wpAny (model Y.prog Y.w) Y.A (call (.ref B) us) (EP Y pins σ Q) Y.xe s := by
  have size : ∃ m, m = s.heap.objs.size := ⟨_, rfl⟩
  obtain ⟨m, em⟩ := size
  have hn : ∀ i, m ≤ i → H i = none := fun i hi => J.hok.fresh (by rw [← em]; exact hi)
  have q := h (m + 1) m (hn _ (Nat.le_succ m)) (hn _ (Nat.le_refl m)) (Nat.ne_of_lt (Nat.lt_succ_self m))
  subst em
  have J2 := Inv.made (C := B) J
  have rr : Vals (V.ref (s.heap.objs.size + 1) :: (vs ++ wv)) (Value.ref (s.heap.objs.size + 1) :: (us ++ wd)) := .cons rfl (rs.append vl)
  have hl := rr.length.symm.trans (Fn.len _ _ _ _ q)
  apply wpAny_call
  apply make_map (f := g) J.kIn M.makes M.init (beq_iff_eq.mp M.fn)
  have go := Fn.run _ Y.stack _ _ ⟨Value.ref (s.heap.objs.size + 1) :: us, []⟩ _ _ _ _ (room.make B us []) (J2.env0.make B us []) (bn _ (Value.ref (s.heap.objs.size + 1) :: us) J2.kIn hl) rr q
  refine codeAny_mono go fun res s' hq => ?_
  match res, hq with
  | .error e, hq => exact ps pins _ _ e s' J2 hq
  | .ok .next, hq => exact hq.elim
  | .ok .brk, hq => exact hq.elim
  | .ok .cont, hq => exact hq.elim
  | .ok (.ret u), hq =>
    obtain ⟨v, H', J3, rv, rfl, q3⟩ := J2.after hq
    exact ⟨rv, V.ref (s.heap.objs.size + 1), H', J3, rfl, q3⟩
theorem pe_makeM (M : L2.Mk Y.K B g) (Fn : FnOk Y.prog Y.w Y.K Y.mg Y.base CT n g gd qs pr) (room : Room (n + 1) Y.A) (glob : Gl Y y) (at_ : Y.mg y = some (.ref B)) (bn : Binds Y.K gd qs wd) (vl : Vals wv wd)
    (ps : ∀ σ, PassesAt CT Y σ (Ew σ)) (ha : PA Y (e :: es) t) (hdb : (y == ("__debug__" : Str)) = false := by decide)
    (st : starEach (e :: es) Y.env = (false, eval e Y.env) :: starEach es Y.env := by rfl) (np : (backTo zp (starEach es Y.env)).any (·.1) = false := by rfl) :
    PE Y (.Call (.Name y z) (e :: es) [] zp) (tNew B wv pr Ew t) := by
  constructor
  intro pins s σ H Q J h
  apply wpAny_Call_Name_kw
  apply ld_glob J glob at_ _ hdb
  refine PySem.W.callWith_K (h₀ := Y.base) J.ok.mod.kin M.kp (thn (ha.run zp pins s σ H _ J h) ?_) st np
  rintro us s1 ⟨vs, H1, J1, rs, q⟩
  exact ⟨J1.kIn, run_makeM M Fn room bn vl (ps σ) J1 rs q⟩
theorem pe_make0M (M : L2.Mk Y.K B g) (Fn : FnOk Y.prog Y.w Y.K Y.mg Y.base CT n g gd qs pr) (room : Room (n + 1) Y.A) (glob : Gl Y y) (at_ : Y.mg y = some (.ref B)) (bn : Binds Y.K gd qs wd) (vl : Vals wv wd)
    (ps : ∀ σ, PassesAt CT Y σ (Ew σ)) (hdb : (y == ("__debug__" : Str)) = false := by decide) :
    PE Y (.Call (.Name y z) [] [] zp) (tNew B wv pr Ew tNil) :=
  ⟨fun pins s σ H Q J h => wpAny_Call_Name_kw (ld_glob J glob at_ (PySem.W.callWith_K0 J.kIn M.kp (run_makeM (us := []) (vs := []) M Fn room bn vl (ps σ) J .nil h)) hdb)⟩
end
end Vl
/-! The value layer, 21: calls without arguments, methods of what is looked at, new objects. -/
namespace Vl
open PySem PySem.Spec PyProof.Rows L2

theorem lookup_none {β : Type} {m : Str} : ∀ {fs : List Str} {vs : List β}, m ∉ fs → (fs.zip vs).lookup m = none
  | [], vs, _ => by cases vs <;> rfl
  | k :: fs, [], _ => rfl
  | k :: fs, v :: vs, h => by
    rw [List.zip_cons_cons, List.lookup]
    have e : (m == k) = false := by simpa using fun z : m = k => h (by rw [z]; exact List.mem_cons_self)
    rw [e]
    exact lookup_none fun z => h (List.mem_cons_of_mem _ z)
/-- no argument -/
def A.nil : Env → R (List D) := fun ρ => .ok [] ρ
/-- o.m(..): the object is looked at -/
def E.meth (n m : Str) (c : Fc) (dd : List A) (fo : Ev) (fa : Env → R (List D)) : Ev := fun ρ => (fo ρ).bind fun o ρ1 => match o with
  | .nd (.ins n' fs) _ _ _ => if n' = n ∧ m ∉ fs then (fa ρ1).bind fun ds ρ2 => if ds.length + dd.length + 1 = c.np then (c.fn (o :: (ds ++ dd.map er))).toR ρ2 else .bad
    else .bad
  | _ => .bad
def Out.toNew (o : Out) (ρ : Env) : R D := match o with
  | .ok .non [d] => .ok d ρ
  | .exc c fs _ => .exc c fs ρ
  | _ => .bad
/-- C(..) -/
def E.make (n : Str) (c : Fc) (dd : List A) (fa : Env → R (List D)) : Ev := fun ρ => (fa ρ).bind fun ds ρ1 => if ds.length + dd.length + 1 = c.np then (c.fn (.nd (.ins n []) .o () [] :: (ds ++ dd.map er))).toNew ρ1 else .bad
section
variable {ca : Ca} {C : Cx} {W : WX} {F F1 F' H H1 H' : Hp} {r r1 : AR} {σ : St} {ρ ρ1 : Env} {xs : List A}
variable {e o : Expr} {es : List Expr} {fo : Ev} {fa : Env → R (List D)} {c : Fc} {dd : List A} {x n m : Str} {p pos apos : Pos} {k : Nat} {f : Addr} {fd : FuncData} {ps : List Str} {ds : List Value}
theorem nil_args {Q : List V → Hp → Prop} (s : Stt (cx ca C) F H r σ) (p : PostA (cx ca C) W σ F H r (A.nil ρ) Q) (e : erR r = ρ) : Q [] H :=
  p F H r [] .refl s e trivial rfl List.nodup_nil (fun _ z => (by cases z)) (fun _ z => (by cases z))
theorem ce_call0 (Fn : FnOk C.prog C.w C.K C.mg C.base (L2.CX C.prog C.w) k f fd ps (spM C.K ca.f c)) (hr : Room k C.A) (hg : Gl C x) (hm : C.mg x = some (.ref f)) (hk : PySem.W.keepIn C.K (.ref f) = true) (hb : Binds C.K fd ps ds) (hd : Vals (dd.map val) ds) (tk : Takes C W) (hdd : dd.all leafA = true)
    (hdb : (x == ("__debug__" : Str)) = false := by decide) : CE ca C W (.Call (.Name x p) [] [] pos) (E.call c dd A.nil) := ⟨fun ρ =>
  PE.mono (pe_call0M Fn hr hg hm hk hb hd (fun σ => passAt tk σ) hdb) fun σ H Q ⟨F, r, s, e, p⟩ => by
    have := call_args hdd s e p
    rw [← List.nil_append (dd.map val)]
    exact nil_args s this e⟩
/-- the object, then the arguments: together -/
theorem meth_post {B : Addr} {Q : VK} (hdd : dd.all leafA = true) (s : Stt (cx ca C) F H r σ) (e : erR r = ρ) (p : PostE (cx ca C) W σ F H r (E.meth n m c dd fo fa ρ) Q) (d : D) (hf : fo ρ = .ok d ρ1) (hB : B = ca n) :
    PostE (cx ca C) W σ F H r (fo ρ) fun v H1 => ∃ a dx fs, v = .ref a ∧ H1 a = some (.ins B dx fs) ∧ fs.lookup m = none ∧ rdA (cx ca C) W fa ρ1 σ H1 fun vs H2 => spM C.K ca.f c (v :: (vs ++ dd.map val)) H2 Q (WE W σ) := by
  subst hB
  unfold E.meth at p
  rw [hf, R.ok_bind] at p
  rw [hf]
  intro F1 H1 r1 x g1 s1 e1 ok1 ex1 v1
  split at p
  · rename_i n' fs mk u ks
    split at p
    · rename_i hc
      obtain ⟨a, zs, rfl, ez⟩ := er_nd ex1
      have at1 := ok1.at_ s1.sub
      rw [hc.1] at at1
      refine ⟨a.1, a.2, _, rfl, at1.1, lookup_none hc.2, F1, r1, s1, e1, ?_⟩
      cases ha : fa ρ1 with
      | bad => rw [ha] at p; exact p
      | exc n fs ρ2 =>
        rw [ha] at p
        exact fun F2 H2 r2 dx g2 s2 e2 x2 => p F2 H2 r2 dx (g1.trans s1 g2) s2 e2 x2
      | ok ds ρ2 =>
        rw [ha, R.ok_bind] at p
        intro F2 H2 r2 xs g2 s2 e2 ok2 ex2 nd2 new2 bo2
        split at p
        · rename_i hl
          have g12 := g1.trans s1 g2
          have n1 : ∀ b ∈ own (T.nd (.ins n' fs) mk a zs), b ∉ adrR .o r1 := fun b hb hr1 => (s.own_there (g1.ow b hr1)).1 (v1.new b hb)
          have okx := ok1.grow s1 n1 g2
          have hs : ∀ a, H1 a = none → H a = none := fun a h => by
            cases e : H a with
            | none => rfl
            | some u => rw [g1.same a u e] at h; cases h
          have q : ∀ q, adrL q (T.nd (.ins n' fs) mk a zs :: (xs ++ dd)) = adr q (T.nd (.ins n' fs) mk a zs) ++ adrL q xs := fun q => by rw [adrL, adrL_app, leafs_adr hdd, List.append_nil]
          have := call_sp (c := c) (xs := T.nd (.ins n' fs) mk a zs :: (xs ++ dd)) (Q := Q) (W := W) s g12 s2 e2 ⟨okx, ok2.leafs hdd⟩ ?_ ?_ ?_ (by rw [List.length_cons, List.length_append, ← hl, ← ex2, List.length_map]) ?_
          · rw [List.map_cons, List.map_append] at this; exact this
          · rw [q]
            refine List.nodup_append.mpr ⟨v1.nd, nd2, fun b hb b2 hb2 e => ?_⟩
            subst e
            exact (ok1.own_there b hb).1 (new2 b hb2)
          · rw [q]
            intro b hb
            rcases List.mem_append.mp hb with h | h
            · exact v1.new b h
            · exact hs b (new2 b h)
          · rw [q]
            intro b hb
            rcases List.mem_append.mp hb with h | h
            · exact v1.bo b h
            · exact (bo2 b h).imp (g1.ow b) (g1.bo b).mp
          · rw [List.map_cons, List.map_append, ex2, ex1]; exact p
        · exact p.elim
    · exact p.elim
  · exact p.elim
theorem ce_meth (cl : Cls C.K (ca n)) (me : Meth C.K (ca n) m f) (Fn : FnOk C.prog C.w C.K C.mg C.base (L2.CX C.prog C.w) k f fd ps (spM C.K ca.f c)) (hr : Room k C.A) (hb : Binds C.K fd ps ds) (hd : Vals (dd.map val) ds) (tk : Takes C W) (hdd : dd.all leafA = true) {pl : Sem Bool}
    (ho : CE ca C W o fo) (ha : CA ca C W (e :: es) fa) (he : starEach (e :: es) C.env = (false, eval e C.env) :: starEach es C.env := by rfl) (hpl : (backTo pos (starEach es C.env)).any (·.1) = false := by rfl)
    (ht : eval (.Call (.Attribute o m apos) (e :: es) [] pos) C.env = (eval o C.env >>= fun ov => standAt apos.atName >>= fun _ => holding [ov] (getMethod ov m pl) >>= fun fp => callWith pos fp.1 fp.2 (backTo pos (starEach (e :: es) C.env)) (backToKw pos (keywordEach [] C.env))) := by rfl) :
    CE ca C W (.Call (.Attribute o m apos) (e :: es) [] pos) (E.meth n m c dd fo fa) := ⟨fun ρ => by
  cases hf : fo ρ with
  | bad => exact PE.mono pe_false fun σ H Q ⟨F, r, s, e, p⟩ => by unfold E.meth at p; rw [hf] at p; exact p
  | exc c' fs ρ1 =>
    refine PE.mono (pe_methM (pl := pl) (t := rdA (cx ca C) W fa ρ1) (ho.run ρ) cl me Fn hr hb hd (fun σ => passAt tk σ) (ha.run ρ1) he hpl ht) fun σ H Q ⟨F, r, s, e, p⟩ => ⟨F, r, s, e, ?_⟩
    unfold E.meth at p; rw [hf] at p ⊢; exact p
  | ok d ρ1 => exact PE.mono (pe_methM (pl := pl) (ho.run ρ) cl me Fn hr hb hd (fun σ => passAt tk σ) (ha.run ρ1) he hpl ht) fun σ H Q ⟨F, r, s, e, p⟩ => ⟨F, r, s, e, meth_post hdd s e p d hf rfl⟩⟩
theorem ce_meth0 (cl : Cls C.K (ca n)) (me : Meth C.K (ca n) m f) (Fn : FnOk C.prog C.w C.K C.mg C.base (L2.CX C.prog C.w) k f fd ps (spM C.K ca.f c)) (hr : Room k C.A) (hb : Binds C.K fd ps ds) (hd : Vals (dd.map val) ds) (tk : Takes C W) (hdd : dd.all leafA = true) {pl : Sem Bool}
    (ho : CE ca C W o fo)
    (ht : eval (.Call (.Attribute o m apos) [] [] pos) C.env = (eval o C.env >>= fun ov => standAt apos.atName >>= fun _ => holding [ov] (getMethod ov m pl) >>= fun fp => callWith pos fp.1 fp.2 (backTo pos (starEach [] C.env)) (backToKw pos (keywordEach [] C.env))) := by rfl) :
    CE ca C W (.Call (.Attribute o m apos) [] [] pos) (E.meth n m c dd fo A.nil) := ⟨fun ρ => by
  refine PE.mono (pe_meth0M (pl := pl) (ho.run ρ) cl me Fn hr hb hd (fun σ => passAt tk σ) ht) fun σ H Q ⟨F, r, s, e, p⟩ => ⟨F, r, s, e, ?_⟩
  cases hf : fo ρ with
  | bad => unfold E.meth at p; rw [hf] at p; exact p
  | exc c' fs ρ1 => unfold E.meth at p; rw [hf] at p; exact p
  | ok d ρ1 =>
    have := meth_post hdd s e p d hf rfl
    rw [hf] at this
    intro F1 H1 r1 x g1 s1 e1 ok1 ex1 v1
    obtain ⟨a, dx, fs, h1, h2, h3, F2, r2, s2, e2, h4⟩ := this F1 H1 r1 x g1 s1 e1 ok1 ex1 v1
    exact ⟨a, dx, fs, h1, h2, h3, nil_args s2 h4 e2⟩⟩
theorem make_post {Q : VK} (hms : c.ms = [true]) (hdd : dd.all leafA = true) (s : Stt (cx ca C) F H r σ) (e : erR r = ρ) (p : PostE (cx ca C) W σ F H r (E.make n c dd fa ρ) Q) :
    PostA (cx ca C) W σ F H r (fa ρ) fun vs H1 => ∀ x dx, H1 x = none → H1 dx = none → dx ≠ x → spM C.K ca.f c (.ref x :: (vs ++ dd.map val)) (upd (upd H1 dx (.own x)) x (.ins (ca n) dx [])) (fun v H2 => v = .non ∧ Q (.ref x) H2) (WE W σ) := by
  unfold E.make at p
  cases hf : fa ρ with
  | bad => rw [hf] at p; exact p
  | exc n fs ρ1 => rw [hf] at p; exact p
  | ok ds ρ1 =>
    rw [hf, R.ok_bind] at p
    intro F1 H1 r1 xs g1 s1 e1 ok1 ex1 nd1 new1 bo1 x dx hx hdx hne
    split at p
    · rename_i hl
      have f0 : ∀ q, H1 q = none → F1 q = none := fun q h => by
        cases e : F1 q with
        | none => rfl
        | some u =>
          rcases s1.sub q u e with z | ⟨ob, kvs, _, z⟩
          · rw [h] at z; cases z
          · rw [h] at z; cases z
      have up : ∀ q u, H1 q = some u → upd (upd H1 dx (.own x)) x (.ins (ca n) dx []) q = some u := fun q u h => by
        rw [upd_ne (fun z => by rw [z, hx] at h; cases h), upd_ne (fun z => by rw [z, hdx] at h; cases h)]; exact h
      have hs : ∀ a, H1 a = none → H a = none := fun a h => by
        cases e : H a with
        | none => rfl
        | some u => rw [g1.same a u e] at h; cases h
      have ro : ∀ a ∈ adrR .o r1, H1 a ≠ none := fun a ha => (s1.own_there ha).1
      have sub1 : Sub F1 (upd (upd H1 dx (.own x)) x (.ins (ca n) dx [])) := fun q u h => (s1.sub q u h).imp (up q u) fun ⟨ob, kvs, z1, z2⟩ => ⟨ob, kvs, z1, up q _ z2⟩
      have s1' : Stt (cx ca C) F1 (upd (upd H1 dx (.own x)) x (.ins (ca n) dx [])) r1 σ := s1.grow0 up (fun _ _ h => h) (fun _ h h' => absurd h h') sub1
      have g1' : Grow F H r F1 (upd (upd H1 dx (.own x)) x (.ins (ca n) dx [])) r1 := ⟨fun a u h => up a u (g1.same a u h), g1.fs, g1.fr, g1.ow, g1.bo, g1.un⟩
      have oks : OkL (cx ca C) F1 (upd (upd H1 dx (.own x)) x (.ins (ca n) dx [])) xs := ok1.same (fun _ _ h => h) up fun a ha => (ok1.own_there a ha).2
      have okn : Ok (cx ca C) F1 (upd (upd H1 dx (.own x)) x (.ins (ca n) dx [])) (.nd (.ins n []) .o (x, dx) []) := by
        refine ⟨⟨⟨rfl, List.nodup_nil⟩, ⟨upd_same, ?_⟩, fun q hq => ?_, rfl⟩, trivial⟩
        · show upd (upd H1 dx (.own x)) x (.ins (ca n) dx []) dx = some (.own x)
          rw [upd_ne hne, upd_same]
        · have hq : q = x ∨ q = dx := by simpa [ndA] using hq
          rcases hq with rfl | rfl
          · exact f0 _ hx
          · exact f0 _ hdx
      have q : ∀ q, adrL q (T.nd (.ins n []) .o (x, dx) [] :: (xs ++ dd)) = adr q (T.nd (.ins n []) .o (x, dx) []) ++ adrL q xs := fun q => by rw [adrL, adrL_app, leafs_adr hdd, List.append_nil]
      have qo : own (T.nd (.ins n []) .o (x, dx) []) = [x, dx] := rfl
      have qb : bor (T.nd (.ins n []) .o (x, dx) []) = [] := rfl
      have newA : ∀ a ∈ adrL .o (T.nd (.ins n []) .o (x, dx) [] :: (xs ++ dd)), H a = none := fun a ha => by
        rw [q] at ha
        rcases List.mem_append.mp ha with h | h
        · have h : a ∈ own (T.nd (.ins n []) .o (x, dx) []) := h
          rw [qo] at h
          have h : a = x ∨ a = dx := by simpa using h
          rcases h with rfl | rfl
          · exact hs _ hx
          · exact hs _ hdx
        · exact new1 a h
      refine ⟨F1, .nd (.ins n []) .o (x, dx) [] :: (xs ++ dd), by rw [List.map_cons, List.map_append]; rfl, sub1, OkL.ctx (fx := ca.fix) ⟨okn, oks.leafs hdd⟩, ?_, fun b hb h => ?_, by rw [List.length_cons, List.length_append, ← hl, ← ex1, List.length_map], ?_⟩
      · rw [q]
        have h : own (T.nd (.ins n []) .o (x, dx) []) = [x, dx] := rfl
        show (own (T.nd (.ins n []) .o (x, dx) []) ++ adrL .o xs).Nodup
        rw [h]
        refine List.nodup_append.mpr ⟨by simpa using hne.symm, nd1, fun b hb b2 hb2 e => ?_⟩
        subst e
        have t := (ok1.own_there b hb2).1
        have hb : b = x ∨ b = dx := by simpa using hb
        rcases hb with rfl | rfl
        · exact t hx
        · exact t hdx
      · have h0 := newA b h
        rw [q] at hb
        have hb : b ∈ bor (T.nd (.ins n []) .o (x, dx) []) ++ adrL .b xs := hb
        rw [qb, List.nil_append] at hb
        rcases bo1 b hb with z | z
        · exact (s.own_there z).1 h0
        · exact s.bor_there z h0
      · have ee : (T.nd (.ins n []) .o (x, dx) [] :: (xs ++ dd) : List A).map er = .nd (.ins n []) .o () [] :: (ds ++ dd.map er) := by rw [List.map_cons, List.map_append, ex1]; rfl
        have hH : ∀ a, upd (upd H1 dx (.own x)) x (.ins (ca n) dx []) a = none → H a = none := fun a h => by
          cases e : H1 a with
          | none => exact hs a e
          | some u => rw [up a u e] at h; cases h
        rw [ee]
        cases ho : c.fn (.nd (.ins n []) .o () [] :: (ds ++ dd.map er)) with
        | bad => rw [ho] at p; exact p
        | ok d os =>
          rw [ho] at p
          intro F' H' ys z dn gv ez
          unfold Out.toNew at p
          split at p
          · rename_i d2 e2
            cases e2
            cases z with
            | non =>
              have hv := dn.val
              rw [hms] at hv
              have hv : some [V.ref x] = some (ys.map val) := hv
              cases ys with
              | nil => cases hv
              | cons y ys =>
                have hv2 := List.cons.inj (Option.some.inj hv)
                cases ys with
                | cons y2 ys => cases hv2.2
                | nil =>
                  have er1 : er y = d2 := (List.cons.inj dn.er).1
                  obtain ⟨g, s2⟩ := call_back s g1' s1' newA dn
                  have ny : y.nob = true := by have := dn.nob; rw [allL, Bool.and_eq_true] at this; exact this.1
                  have ao : adrL .o [y] = own y := by rw [adrL, adrL, List.append_nil]
                  refine ⟨rfl, ?_⟩
                  rw [hv2.1]
                  exact p F' H' r1 y g s2 e1 dn.ok.1.ctx er1 ⟨by rw [← ao]; exact dn.nd, fun a ha => (dn.ow a (by rw [ao]; exact ha)).elim (hH a) (newA a), fun b hb => (by have q0 : bor y = [] := nob_bor ny; rw [q0] at hb; cases hb)⟩
            | _ => cases ez
          · rename_i h1 e2; cases e2
          · exact p.elim
        | exc n2 fs os =>
          rw [ho] at p
          intro F' H' ys dx2 dn x2
          obtain ⟨g, s2⟩ := call_back s g1' s1' newA dn
          exact p F' H' r1 dx2 g s2 e1 x2.ctx
    · exact p.elim
theorem ce_make (M : L2.Mk C.K (ca n) f) (Fn : FnOk C.prog C.w C.K C.mg C.base (L2.CX C.prog C.w) k f fd ps (spM C.K ca.f c)) (hms : c.ms = [true]) (hr : Room (k + 1) C.A) (hg : Gl C x) (hm : C.mg x = some (.ref (ca n))) (hb : Binds C.K fd ps ds) (hd : Vals (dd.map val) ds) (tk : Takes C W) (hdd : dd.all leafA = true)
    (ha : CA ca C W (e :: es) fa) (hdb : (x == ("__debug__" : Str)) = false := by decide) (he : starEach (e :: es) C.env = (false, eval e C.env) :: starEach es C.env := by rfl) (hpl : (backTo pos (starEach es C.env)).any (·.1) = false := by rfl) :
    CE ca C W (.Call (.Name x p) (e :: es) [] pos) (E.make n c dd fa) := ⟨fun ρ =>
  PE.mono (pe_makeM M Fn hr hg hm hb hd (fun σ => passAt tk σ) (ha.run ρ) hdb he hpl) fun σ H Q ⟨F, r, s, e, p⟩ => ⟨F, r, s, e, make_post hms hdd s e p⟩⟩
theorem ce_make0 (M : L2.Mk C.K (ca n) f) (Fn : FnOk C.prog C.w C.K C.mg C.base (L2.CX C.prog C.w) k f fd ps (spM C.K ca.f c)) (hms : c.ms = [true]) (hr : Room (k + 1) C.A) (hg : Gl C x) (hm : C.mg x = some (.ref (ca n))) (hb : Binds C.K fd ps ds) (hd : Vals (dd.map val) ds) (tk : Takes C W) (hdd : dd.all leafA = true)
    (hdb : (x == ("__debug__" : Str)) = false := by decide) : CE ca C W (.Call (.Name x p) [] [] pos) (E.make n c dd A.nil) := ⟨fun ρ =>
  PE.mono (pe_make0M M Fn hr hg hm hb hd (fun σ => passAt tk σ) hdb) fun σ H Q ⟨F, r, s, e, p⟩ => nil_args s (make_post hms hdd s e p) e⟩
end
end Vl
/-! The value layer, 22: list comprehensions. -/
namespace Vl
open PySem PySem.Spec PyProof.Rows L2

mutual
theorem same_tree : ∀ {x y : A}, er x = er y → x.fz = y.fz → x = y
  | .non, y, h, _ => by cases y <;> first | rfl | cases h
  | .bl _, y, h, _ => by cases y <;> first | (cases h; rfl) | cases h
  | .int _, y, h, _ => by cases y <;> first | (cases h; rfl) | cases h
  | .str _, y, h, _ => by cases y <;> first | (cases h; rfl) | cases h
  | .nd k m a xs, y, h, h' => by
    cases y with
    | nd k2 m2 a2 ys =>
      have h : T.nd k m () (mapL (fun _ => ()) xs) = T.nd k2 m2 () (mapL (fun _ => ()) ys) := h
      have h' : T.nd k .c a (mkL calm xs) = T.nd k2 .c a2 (mkL calm ys) := h'
      injection h with h1 h2 h3 h4
      injection h' with g1 g2 g3 g4
      rw [h1, h2, g3, same_trees h4 g4]
    | _ => cases h
theorem same_trees : ∀ {xs ys : List A}, mapL (fun _ => ()) xs = mapL (fun _ => ()) ys → mkL calm xs = mkL calm ys → xs = ys
  | [], ys, h, _ => by cases ys <;> first | rfl | cases h
  | x :: xs, ys, h, h' => by
    cases ys with
    | nil => cases h
    | cons y ys =>
      have h1 := List.cons.inj (show er x :: mapL (fun _ => ()) xs = er y :: mapL (fun _ => ()) ys from h)
      have h2 := List.cons.inj (show x.fz :: mkL calm xs = y.fz :: mkL calm ys from h')
      rw [same_tree h1.1 h2.1, same_trees h1.2 h2.2]
end
theorem same_env : ∀ {r r' : AR}, erR r = erR r' → fzR r = fzR r' → r = r'
  | [], r', h, _ => by cases r' <;> first | rfl | cases h
  | o :: r, r', h, h' => by
    cases r' with
    | nil => cases h
    | cons o' r' =>
      have h1 := List.cons.inj (show o.map er :: erR r = o'.map er :: erR r' from h)
      have h2 := List.cons.inj (show o.map T.fz :: fzR r = o'.map T.fz :: fzR r' from h')
      rw [same_env h1.2 h2.2]
      cases o with
      | none => cases o' with
        | none => rfl
        | some y => cases h1.1
      | some x => cases o' with
        | none => cases h1.1
        | some y => rw [same_tree (Option.some.inj h1.1) (Option.some.inj h2.1)]
def wipeL {α : Type} (l : List (Option α)) : List Nat → List (Option α)
  | [] => l
  | v :: vs => (wipeL l vs).set v none
theorem wipe_eq (σ : St) : ∀ vs : List Nat, wipe σ vs = wipeL σ vs
  | [] => rfl
  | v :: vs => by rw [wipe, wipeL, wipe_eq σ vs]
theorem wipeL_map {α β : Type} (f : α → β) (l : List (Option α)) : ∀ vs : List Nat, (wipeL l vs).map (Option.map f) = wipeL (l.map (Option.map f)) vs
  | [] => rfl
  | v :: vs => by rw [wipeL, wipeL, List.map_set, wipeL_map f l vs]; rfl
theorem wipeL_len {α : Type} (l : List (Option α)) : ∀ vs : List Nat, (wipeL l vs).length = l.length
  | [] => rfl
  | v :: vs => by rw [wipeL, List.length_set, wipeL_len l vs]
theorem wipeL_in {α : Type} (l : List (Option α)) (j : Nat) : ∀ {vs : List Nat}, j ∈ vs → (wipeL l vs)[j]? = if j < l.length then some none else none
  | v :: vs, h => by
    rw [wipeL]
    by_cases e : v = j
    · subst e
      rw [List.getElem?_set, if_pos rfl, wipeL_len]
    · rw [List.getElem?_set_ne e]
      rcases List.mem_cons.mp h with q | q
      · exact absurd q.symm e
      · exact wipeL_in l j q
theorem wipeL_out {α : Type} (l : List (Option α)) (j : Nat) : ∀ {vs : List Nat}, j ∉ vs → (wipeL l vs)[j]? = l[j]?
  | [], _ => rfl
  | v :: vs, h => by
    rw [wipeL, List.getElem?_set_ne fun e => h (by rw [e]; exact List.mem_cons_self)]
    exact wipeL_out l j fun z => h (List.mem_cons_of_mem _ z)
theorem wipe_only {σ σ2 : St} {ss vs : List Nat} (h : Only ss (wipeL σ vs) σ2) (hs : ∀ j ∈ ss, j ∈ vs) : wipeL σ2 vs = wipeL σ vs := by
  apply List.ext_getElem?
  intro j
  have hl : σ2.length = σ.length := by rw [h.1, wipeL_len]
  by_cases hj : j ∈ vs
  · rw [wipeL_in σ2 j hj, wipeL_in σ j hj, hl]
  · rw [wipeL_out σ2 j hj, h.2 j fun z => hj (hs j z)]
theorem wipeL_sub {α : Type} {l : List (Option α)} {x : α} : ∀ {vs : List Nat}, some x ∈ wipeL l vs → some x ∈ l
  | [], h => h
  | v :: vs, h => by
    rw [wipeL] at h
    rcases List.mem_or_eq_of_mem_set h with q | q
    · exact wipeL_sub q
    · cases q
section
variable {X : Ctx} {F H : Hp} {r : AR} {σ : St}
theorem adr_wipe {q : Mk} {vs : List Nat} : ∀ a ∈ adrR q (wipeL r vs), a ∈ adrR q r := fun a ha => by
  obtain ⟨x, hx, h⟩ := mem_adrR.mp ha
  exact mem_adrR.mpr ⟨x, wipeL_sub hx, h⟩
theorem nd_wipe : ∀ {vs : List Nat}, (adrR .o r).Nodup → (adrR .o (wipeL r vs)).Nodup
  | [], h => h
  | v :: vs, h => by
    have ih := nd_wipe (vs := vs) h
    rw [wipeL]
    by_cases hv : v < (wipeL r vs).length
    · exact flat_nodup (g := adrO .o) (List.getElem?_eq_getElem hv) ih List.nodup_nil (fun a ha => by cases ha)
    · rw [List.set_eq_of_length_le (Nat.le_of_not_lt hv)]; exact ih
theorem Stt.wipe {vs : List Nat} (s : Stt X F H r σ) (hfx : ∀ p ∈ X.fix, p.1 ∉ vs) : Stt X F H (wipeL r vs) (wipeL σ vs) :=
  ⟨by rw [s.val]; exact (wipeL_map Vl.val r vs).symm, fun x hx => s.ok x (wipeL_sub hx), nd_wipe s.nd, fun b hb h => s.bd b (adr_wipe b hb) (adr_wipe b h), s.sub, fun p hp => by rw [wipeL_out σ p.1 (hfx p hp)]; exact s.fx p hp⟩
end
/-- nothing is settled on the way -/
def PureE (f : Ev) : Prop := ∀ ρ d ρ', f ρ = .ok d ρ' → ρ' = ρ
def lcL (g : Gv) (t f : Ev) (ρw : Env) : List D → Option (List D)
  | [] => some []
  | d :: ds => match g d ρw with
    | none => none
    | some ρ1 => match t ρ1 with
      | .ok (.bl true) _ => match f ρ1 with
        | .ok y _ => if y.nob = true then (lcL g t f ρw ds).map (y :: ·) else none
        | _ => none
      | .ok (.bl false) _ => lcL g t f ρw ds
      | _ => none
def E.lc (fi : Iv) (vs : List Nat) (g : Gv) (t f : Ev) : Ev := fun ρ => (fi ρ).bind fun ds ρ1 => if ds.length ≤ sizeLine then match lcL g t f (wipeL ρ1 vs) ds with
    | some ys => .ok (.nd .lst .o () ys) ρ1
    | none => .bad
  else .bad
def E.yes : Ev := fun ρ => .ok (.bl true) ρ
theorem pure_yes : PureE E.yes := fun ρ d ρ' h => by cases h; rfl
abbrev W0 : WX := fun _ _ _ _ => False
def gT (X : Ctx) (ss : List Nat) (g : Gv) : TG := fun v σ H Q => ∃ d ρ ρ', g d ρ = some ρ' ∧ rdG X ss d ρ ρ' v σ H Q
def tT (X : Ctx) (t : Ev) : TT := fun σ H Q => ∃ ρ, tTest (rdE X W0 t ρ) σ H Q
def eT (X : Ctx) (f : Ev) : TE := fun σ H Q => ∃ ρ, rdE X W0 f ρ σ H Q
section
variable {X : Ctx} {W : WX} {F F1 F3 F6 H H1 H3 H6 : Hp} {r r1 r4 : AR} {σ σ4 : St} {ρ : Env}
/-- a step beside fewer slots is a step beside all -/
theorem Stt.beside (s1 : Stt X F1 H1 r1 σ) (g1 : Grow F1 H1 r1 F3 H3 r1) (s3 : Stt X F3 H3 r1 σ) (hr : ∀ a ∈ adrR .o r4, a ∈ adrR .o r1) (g : Grow F3 H3 r4 F6 H6 r4) (s6 : Stt X F6 H6 r4 σ4) : Stt X F6 H6 r1 σ ∧ Grow F1 H1 r1 F6 H6 r1 := by
  refine ⟨s3.keep g.fs (fun a ha => ?_) (fun b hb u hu => g.same b u hu) s6.sub, ⟨fun a u h => g.same a u (g1.same a u h), fun a u h => g.fs a u (g1.fs a u h), fun a h h' => ?_, fun _ h => h, fun _ => Iff.rfl, rfl⟩⟩
  · obtain ⟨h1, h2⟩ := s3.own_there ha
    refine ⟨?_, ?_⟩
    · cases e : H3 a with
      | none => exact absurd e h1
      | some u => exact g.same a u e
    · by_cases h4 : a ∈ adrR .o r4
      · exact (s6.own_there h4).2
      · cases e : F6 a with
        | none => rfl
        | some u =>
          rcases g.fr a h2 (by rw [e]; exact fun z => by cases z) with q | q
          · exact absurd q h1
          · exact absurd q h4
  · cases e : F3 a with
    | some u => exact g1.fr a h (by rw [e]; exact fun z => by cases z)
    | none =>
      rcases g.fr a e h' with q | q
      · refine .inl ?_
        cases e2 : H1 a with
        | none => rfl
        | some u => rw [g1.same a u e2] at q; cases q
      · exact .inr (hr a q)
/-- the list that is being made -/
structure Acc (X : Ctx) (F1 H1 : Hp) (r1 : AR) (σ : St) (D : Addr) (F H : Hp) (ys : List A) : Prop where
  stt : Stt X F H r1 σ
  gr : Grow F1 H1 r1 F H r1
  at_ : H D = some (.lst (ys.map val))
  fd : F D = none
  ok : OkL X F H ys
  nd : (adrL .o ys).Nodup
  new : ∀ a ∈ adrL .o ys, H1 a = none ∧ a ≠ D
  nob : allL notB ys = true
variable {D : Addr} {ys : List A}
theorem Acc.step (a : Acc X F1 H1 r1 σ D F3 H3 ys) (s1 : Stt X F1 H1 r1 σ) (hD : H1 D = none) (hr : ∀ a ∈ adrR .o r4, a ∈ adrR .o r1) (s4 : Stt X F3 H3 r4 σ4) (g : Grow F3 H3 r4 F6 H6 r4) (s6 : Stt X F6 H6 r4 σ4) : Acc X F1 H1 r1 σ D F6 H6 ys := by
  obtain ⟨h1, h2⟩ := Stt.beside s1 a.gr a.stt hr g s6
  have nr : ∀ q, H1 q = none → q ∉ adrR .o r4 := fun q h h' => (s1.own_there (hr q h')).1 h
  refine ⟨h1, h2, g.same _ _ a.at_, ?_, OkL_iff.mpr fun y hy => (OkL_iff.mp a.ok y hy).grow s4 (fun q hq => nr q (a.new q (adrL_mem hy hq)).1) g, a.nd, a.new, a.nob⟩
  cases e : F6 D with
  | none => rfl
  | some u =>
    rcases g.fr D a.fd (by rw [e]; exact fun z => by cases z) with q | q
    · rw [a.at_] at q; cases q
    · exact absurd q (nr D hD)
theorem Acc.add {y : A} (a : Acc X F1 H1 r1 σ D F3 H3 ys) (s1 : Stt X F1 H1 r1 σ) (hD : H1 D = none) (ok : Ok X F3 H3 y) (nd : (own y).Nodup) (new : ∀ q ∈ own y, H1 q = none ∧ q ≠ D ∧ q ∉ adrL .o ys) (nb : y.nob = true) : Acc X F1 H1 r1 σ D F3 (upd H3 D (.lst (ys.map val ++ [val y]))) (ys ++ [y]) := by
  have nD : ∀ q, H1 q ≠ none → q ≠ D := fun q h e => h (by rw [e]; exact hD)
  have sub : Sub F3 (upd H3 D (.lst (ys.map val ++ [val y]))) := fun q u h => by
    rw [upd_ne (fun e => by rw [e, a.fd] at h; cases h)]; exact a.stt.sub q u h
  have st : ∀ x : A, Ok X F3 H3 x → x.nob = true → (∀ q ∈ own x, q ≠ D) → Ok X F3 (upd H3 D (.lst (ys.map val ++ [val y]))) x := fun x ox nx hx =>
    ox.keep (fun _ _ h => h) (fun q hq => ⟨upd_ne (hx q hq), (ox.own_there q hq).2⟩) (fun b hb => by have q0 : bor x = [] := nob_bor nx; rw [q0] at hb; cases hb)
  have nby := a.nob
  rw [allL_eq, List.all_eq_true] at nby
  refine ⟨a.stt.keep (fun _ _ h => h) (fun q hq => ⟨upd_ne (nD q (s1.own_there hq).1), (a.stt.own_there hq).2⟩) (fun b hb u hu => by rw [upd_ne (nD b (s1.bor_there hb))]; exact hu) sub,
    ⟨fun q u h => by rw [upd_ne (nD q (by rw [h]; exact fun z => by cases z))]; exact a.gr.same q u h, a.gr.fs, a.gr.fr, fun _ h => h, fun _ => Iff.rfl, rfl⟩, by rw [upd_same, List.map_append]; rfl, a.fd, ?_, ?_, ?_, ?_⟩
  · refine OkL_iff.mpr fun x hx => ?_
    rcases List.mem_append.mp hx with h | h
    · exact st x (OkL_iff.mp a.ok x h) (nby x h) fun q hq => (a.new q (adrL_mem h hq)).2
    · have e : x = y := by simpa using h
      subst e
      exact st x ok nb fun q hq => (new q hq).2.1
  · rw [adrL_app]
    refine List.nodup_append.mpr ⟨a.nd, by rw [adrL, adrL, List.append_nil]; exact nd, fun q hq q2 hq2 e => ?_⟩
    subst e
    rw [adrL, adrL, List.append_nil] at hq2
    exact (new q hq2).2.2 hq
  · intro q hq
    rw [adrL_app] at hq
    rcases List.mem_append.mp hq with h | h
    · exact a.new q h
    · rw [adrL, adrL, List.append_nil] at h
      exact ⟨(new q h).1, (new q h).2.1⟩
  · rw [allL_eq, List.all_append, Bool.and_eq_true, ← allL_eq]
    refine ⟨a.nob, ?_⟩
    rw [List.all_cons, List.all_nil, Bool.and_true]
    exact nb
theorem lc_main {fi : Iv} {vs ss : List Nat} {g : Gv} {t f : Ev} {Q : VK} (hfx : ∀ p ∈ X.fix, p.1 ∉ vs) (hss : ∀ j ∈ ss, j ∈ vs) (ht : PureE t) (hf : PureE f) (s : Stt X F H r σ) (e : erR r = ρ) (p : PostE X W σ F H r (E.lc fi vs g t f ρ) Q) :
    tLc (rdI X W fi ρ) (gT X ss g) (tT X t) (eT X f) vs σ H Q := by
  unfold E.lc at p
  refine ⟨F, r, s, e, ?_⟩
  cases hi : fi ρ with
  | bad => rw [hi] at p; exact p
  | exc c fs ρ1 => rw [hi] at p; exact p
  | ok ds ρ1 =>
    rw [hi, R.ok_bind] at p
    intro F1 H1 r1 J g1 s1 e1 it D hD
    split at p
    · rename_i hlen
      cases hlc : lcL g t f (wipeL ρ1 vs) ds with
      | none => rw [hlc] at p; exact p.elim
      | some ys =>
        rw [hlc] at p
        have hs0 : ∀ a, H1 a = none → H a = none := fun a h => by
          cases e : H a with
          | none => rfl
          | some u => rw [g1.same a u e] at h; cases h
        have fD : F1 D = none := by
          cases e : F1 D with
          | none => rfl
          | some u =>
            rcases s1.sub D u e with z | ⟨_, _, _, z⟩
            · rw [hD] at z; cases z
            · rw [hD] at z; cases z
        have start : Acc X F1 H1 r1 σ D F1 (upd H1 D (.lst [])) [] := by
          have up : ∀ q u, H1 q = some u → upd H1 D (.lst []) q = some u := fun q u h => by rw [upd_ne (fun z => by rw [z, hD] at h; cases h)]; exact h
          exact ⟨s1.grow0 up (fun _ _ h => h) (fun _ h h' => absurd h h') fun q u h => (s1.sub q u h).imp (up q u) fun ⟨o, k, z1, z2⟩ => ⟨o, k, z1, up q _ z2⟩, ⟨up, fun _ _ h => h, fun _ h h' => absurd h h', fun _ h => h, fun _ => Iff.rfl, rfl⟩, upd_same, fD, trivial, List.nodup_nil, fun _ z => (by cases z), rfl⟩
        refine ⟨fun i m H2 => m = ds.length - i ∧ i ≤ ds.length ∧ ∃ F2 zs rest, Acc X F1 H1 r1 σ D F2 H2 zs ∧ zs.length ≤ i ∧ lcL g t f (wipeL ρ1 vs) (ds.drop i) = some rest ∧ zs.map er ++ rest = ys, ⟨ds.length, by simp, Nat.zero_le _, F1, [], ys, start, Nat.le_refl _, by rw [List.drop_zero]; exact hlc, rfl⟩, ?_⟩
        rintro i m H2 ⟨rfl, hi2, F2, zs, rest, acc, hzl, hrest, hys⟩
        obtain ⟨w1, w2⟩ := it i F2 H2 r1 σ acc.gr.toS acc.stt
        by_cases hlt : i < ds.length
        · have hd : ds[i]? = some ds[i] := List.getElem?_eq_getElem hlt
          obtain ⟨go, yl⟩ := w1 _ hd
          have hdrop : ds.drop i = ds[i] :: ds.drop (i + 1) := List.drop_eq_getElem_cons hlt
          rw [hdrop] at hrest
          refine .inr ⟨go, fun H' => i + 1 ≤ ds.length ∧ ∃ F2 zs rest, Acc X F1 H1 r1 σ D F2 H' zs ∧ zs.length ≤ i + 1 ∧ lcL g t f (wipeL ρ1 vs) (ds.drop (i + 1)) = some rest ∧ zs.map er ++ rest = ys, fun H' hN => ⟨ds.length - (i + 1), by omega, rfl, hN.1, hN.2⟩, fun x H3 y => ?_⟩
          obtain ⟨F3, z, g3, s3, okz, ez, evz, cz⟩ := yl x H3 y
          have acc3 := acc.step s1 hD (fun _ h => h) acc.stt g3 s3
          unfold lcL at hrest
          cases hg : g ds[i] (wipeL ρ1 vs) with
          | none => rw [hg] at hrest; cases hrest
          | some ρ2 =>
            rw [hg] at hrest
            dsimp only at hrest
            have sw := s3.wipe hfx
            have ew : erR (wipeL r1 vs) = wipeL ρ1 vs := by rw [← e1]; exact wipeL_map er r1 vs
            rw [wipe_eq]
            refine ⟨ds[i], wipeL ρ1 vs, ρ2, hg, F3, wipeL r1 vs, z, sw, ew, evz, ez, okz, by rw [cold_own cz]; exact List.nodup_nil, by rw [cold_own cz]; exact fun _ h => (by cases h), by rw [cold_own cz]; exact fun _ h => (by cases h), by rw [cold_bor cz]; exact fun _ h => (by cases h), fun r4 σ4 s4 e4 ow4 bo4 on4 => ⟨by rw [wipe_eq]; exact wipe_only on4 hss, ρ2, ?_⟩⟩
            have hr : ∀ a ∈ adrR .o r4, a ∈ adrR .o r1 := fun a ha => (ow4 a ha).elim (adr_wipe a) fun h => by rw [cold_own cz] at h; cases h
            cases htt : t ρ2 with
            | bad => rw [htt] at hrest; cases hrest
            | exc c fs ρ3 => rw [htt] at hrest; cases hrest
            | ok b ρ3 =>
              have eb := ht _ _ _ htt
              subst eb
              rw [htt] at hrest
              cases b with
              | bl b =>
                refine test_step htt F3 r4 s4 e4 fun F5 H5 r5 g5 s5 e5 => ?_
                have er5 : r5 = r4 := same_env (by rw [e5, e4]) g5.un
                subst er5
                have acc5 := acc3.step s1 hD hr s4 g5 s5
                cases b with
                | false =>
                  rw [if_neg (by decide)]
                  exact ⟨hlt, F5, zs, rest, acc5, by omega, hrest, hys⟩
                | true =>
                  rw [if_pos rfl]
                  dsimp only at hrest
                  cases hff : f ρ3 with
                  | bad => rw [hff] at hrest; cases hrest
                  | exc c fs ρ4 => rw [hff] at hrest; cases hrest
                  | ok yd ρ4 =>
                    have eb := hf _ _ _ hff
                    subst eb
                    rw [hff] at hrest
                    dsimp only at hrest
                    split at hrest
                    · rename_i hnb
                      cases hr2 : lcL g t f (wipeL ρ1 vs) (ds.drop (i + 1)) with
                      | none => rw [hr2] at hrest; cases hrest
                      | some rest2 =>
                        rw [hr2] at hrest
                        have hrest : yd :: rest2 = rest := Option.some.inj hrest
                        refine ⟨ρ4, F5, r5, s5, e5, ?_⟩
                        rw [hff]
                        intro F6 H6 r6 w g6 s6 e6 ok6 ex6 v6
                        have er6 : r6 = r5 := same_env (by rw [e6, e5]) g6.un
                        subst er6
                        have acc6 := acc5.step s1 hD hr s5 g6 s6
                        have nbw : w.nob = true := by rw [← hnb, ← ex6]; exact (T.all_map _ _ w).symm
                        refine ⟨zs.map val, acc6.at_, by rw [List.length_map]; omega, hlt, F6, zs ++ [w], rest2, acc6.add s1 hD ok6 v6.nd (fun q hq => ?_) nbw, by rw [List.length_append]; simp; omega, rfl, ?_⟩
                        · have h5 := v6.new q hq
                          refine ⟨?_, fun e => ?_, fun h => ?_⟩
                          · cases e : H1 q with
                            | none => rfl
                            | some u => rw [acc5.gr.same q u e] at h5; cases h5
                          · rw [e, acc5.at_] at h5; cases h5
                          · exact (OkL.own_there acc5.ok q h).1 h5
                        · rw [List.map_append, List.map_cons, List.map_nil, ex6, List.append_assoc, ← hys, ← hrest]; rfl
                    · cases hrest
              | _ => cases hrest
        · have e5 : i = ds.length := by omega
          subst e5
          rw [List.drop_length] at hrest
          have hrest : ([] : List _) = rest := Option.some.inj hrest
          subst hrest
          rw [List.append_nil] at hys
          refine .inl ⟨w2 (Nat.le_refl _), ?_⟩
          have oy : own (T.nd .lst .o (D, D) zs) = D :: adrL .o zs := rfl
          refine p F2 H2 r1 (.nd .lst .o (D, D) zs) (g1.trans s1 acc.gr) acc.stt e1 ⟨⟨trivial, ⟨acc.at_, trivial⟩, fun q hq => ?_, acc.nob⟩, acc.ok⟩ ?_ ⟨?_, fun q hq => ?_, fun b hb => ?_⟩
          · have e : q = D := by simpa [ndA] using hq
            rw [e]; exact acc.fd
          · show T.nd .lst .o () (mapL (fun _ => ()) zs) = _
            rw [mapL_eq, ← hys]
          · rw [oy]
            exact List.nodup_cons.mpr ⟨fun h => (acc.new D h).2 rfl, acc.nd⟩
          · rw [oy] at hq
            rcases List.mem_cons.mp hq with rfl | h
            · exact hs0 _ hD
            · exact hs0 q (acc.new q h).1
          · have q0 : bor (T.nd .lst .o (D, D) zs) = [] := nob_bor (by rw [T.nob, T.all, Bool.and_eq_true]; exact ⟨rfl, acc.nob⟩)
            rw [q0] at hb; cases hb
    · exact p.elim
end
section
variable {ca : Ca} {C : Cx} {W : WX}
theorem pts_of {c : Expr} {t : Ev} (h : CT ca C W0 c t) : PTs C [c] (tT (cx ca C) t) := pts_one ⟨fun pins s σ H Q I ⟨ρ, q⟩ => (h.run ρ).run pins s σ H Q I q⟩
/-- one test, or none -/
structure CTs (ca : Ca) (C : Cx) (ifs : List Expr) (t : Ev) : Prop where
  run : PTs C ifs (tT (cx ca C) t)
  pure_ : PureE t
theorem cts_one {c : Expr} {t : Ev} (h : CT ca C W0 c t) (hp : PureE t) : CTs ca C [c] t := ⟨pts_of h, hp⟩
theorem cts_nil : CTs ca C [] E.yes := ⟨⟨fun pins s σ H Q I ⟨ρ, F, r, st, e, p⟩ => pts_nil.run pins s σ H Q I (by
  obtain ⟨b, hb, q⟩ := p F H r (.bl true) .refl st e trivial rfl ⟨List.nodup_nil, fun _ z => (by cases z), fun _ z => (by cases z)⟩
  cases hb
  exact q)⟩, pure_yes⟩
variable {elt tg iter : Expr} {ifs : List Expr} {scope : Scope} {own : List (Str × Nat)} {pos : Pos} {fi : Iv} {g : Gv} {t f : Ev} {ss vs : List Nat}
theorem ce_lc (hvs : vs = own.map (·.2)) (hfx : ∀ p ∈ ca.fix, p.1 ∉ vs) (hss : ∀ j ∈ ss, j ∈ vs) (hc : C.calm = true) (hN : C.N.Nodup) (hi : CI ca C W tg iter fi) (ok : BlkOk C.N C.env.scope scope own) (hf : PureE f) (ht : PureE t)
    (hg : ∀ (s : Shared) (H : Hp) (B : Addr) (cl : List (Str × Addr)) (fp : List Addr), CG ca (C.blk s H scope (compEnvC scope cl B C.env) fp) tg ss g)
    (hts : ∀ (s : Shared) (H : Hp) (B : Addr) (cl : List (Str × Addr)) (fp : List Addr), CTs ca (C.blk s H scope (compEnvC scope cl B C.env) fp) ifs t)
    (he : ∀ (s : Shared) (H : Hp) (B : Addr) (cl : List (Str × Addr)) (fp : List Addr), CE ca (C.blk s H scope (compEnvC scope cl B C.env) fp) W0 elt f)
    (hs : ∀ x, foldedSetIterable iter C.env x = pure x := by intro _; rfl) : CE ca C W (.ListComp elt [⟨tg, iter, ifs, 0⟩] scope pos) (E.lc fi vs g t f) := ⟨fun ρ => by
  subst hvs
  refine PE.mono (pe_lc (g := gT (cx ca C) ss g) (tt := tT (cx ca C) t) (te := eT (cx ca C) f) hc hN (hi.run ρ) ok (fun s H B cl fp => ⟨fun pins s σ H v u Q I r ⟨d, ρ, ρ', hgd, q⟩ => ((hg _ _ B cl fp).run d ρ ρ' hgd).run pins s σ H v u Q I r q⟩) (fun s H B cl fp => (hts s H B cl fp).run) (fun s H B cl fp => ⟨fun pins s σ H Q I ⟨ρ, q⟩ => ((he _ _ B cl fp).run ρ).run pins s σ H Q I q⟩) hs) fun σ H Q ⟨F, r, s, e, p⟩ => lc_main hfx hss ht hf s e p⟩
end
end Vl
/-! The value layer, 23: a comprehension given to a local name. -/
namespace Vl
open PySem PySem.Spec PyProof.Rows L2

section
variable {ca : Ca} {C : Cx} {W : WX} {X : Ctx} {F H : Hp} {r : AR} {σ : St} {ρ : Env} {f : Ev} {i : Nat} {D : Ends}
theorem asg_name (hfx : ∀ p ∈ X.fix, p.1 ≠ i) (s : Stt X F H r σ) (e : erR r = ρ) (p : PostS X W F H r (S.asg f (G.name i) ρ) D) : PostE X W σ F H r (f ρ) fun v H1 => D.nx (σ.set i (some v)) H1 := by
  unfold S.asg at p
  cases hf : f ρ with
  | bad => rw [hf] at p; exact p
  | exc c fs ρ1 => rw [hf] at p; exact fun F' H' r' dx g s e x => p F' H' r' σ dx g.toS s e x
  | ok d ρ1 =>
    rw [hf, R.ok_toS] at p
    by_cases hn : d.nob = true
    · rw [if_pos hn] at p
      unfold G.name at p
      by_cases hi : i < ρ1.length
      · rw [if_pos hi] at p
        intro F1 H1 r1 x g1 s1 e1 ok1 ex1 v1
        have nb : x.nob = true := by rw [← hn, ← ex1]; exact (T.all_map _ _ x).symm
        have hi' : i < r1.length := by rw [← e1] at hi; unfold erR at hi; rw [List.length_map] at hi; exact hi
        have qb : bor x = [] := nob_bor nb
        obtain ⟨s2, mo, mb⟩ := s1.setSlot hfx hi' ok1 v1.nd (fun a ha hr => (s.own_there (g1.ow a hr)).1 (v1.new a ha)) (fun a ha hr => s.bor_there ((g1.bo a).mp hr) (v1.new a ha)) (fun b hb => by rw [qb] at hb; cases hb)
        refine p F1 H1 (r1.set i (some x)) _ ⟨g1.toS.same, g1.fs, g1.fr, fun a ha => (mo a ha).elim (fun q => .inr (g1.ow a q)) fun q => .inl (v1.new a q), fun b hb => (g1.bo b).mp (mb b hb), g1.toS.there⟩ s2 ?_
        unfold erR
        rw [List.map_set]
        show (erR r1).set i (some (er x)) = _
        rw [e1, ex1]
      · rw [if_neg hi] at p; exact p.elim
    · rw [if_neg hn] at p; exact p.elim
variable {elt tg iter : Expr} {ifs : List Expr} {scope : Scope} {own : List (Str × Nat)} {pos spos py : Pos} {y : Str} {fi : Iv} {g : Gv} {t : Ev} {ss vs : List Nat}
theorem cs_setlc (hvs : vs = own.map (·.2)) (hfx : ∀ p ∈ ca.fix, p.1 ∉ vs) (hfi : ∀ p ∈ ca.fix, p.1 ≠ i) (hss : ∀ j ∈ ss, j ∈ vs) (hc : C.calm = true) (hN : C.N.Nodup) (hi : CI ca C W tg iter fi) (ok : BlkOk C.N C.env.scope scope own) (hf : PureE f) (ht : PureE t)
    (hg : ∀ (s : Shared) (H : Hp) (B : Addr) (cl : List (Str × Addr)) (fp : List Addr), CG ca (C.blk s H scope (compEnvC scope cl B C.env) fp) tg ss g)
    (hts : ∀ (s : Shared) (H : Hp) (B : Addr) (cl : List (Str × Addr)) (fp : List Addr), CTs ca (C.blk s H scope (compEnvC scope cl B C.env) fp) ifs t)
    (he : ∀ (s : Shared) (H : Hp) (B : Addr) (cl : List (Str × Addr)) (fp : List Addr), CE ca (C.blk s H scope (compEnvC scope cl B C.env) fp) W0 elt f)
    (hy : C.N[i]? = some y := by rfl) (hyl : C.env.scope.names.lookup y = some .local := by rfl) (hsw : swapsWith (.ListComp elt [⟨tg, iter, ifs, 0⟩] scope pos) (some (.Name y py)) spos.line C.env = pure true := by rfl)
    (hs : ∀ x, foldedSetIterable iter C.env x = pure x := by intro _; rfl) : CS ca C W (.Assign [.Name y py] (.ListComp elt [⟨tg, iter, ifs, 0⟩] scope pos) spos) (S.asg (E.lc fi vs g t f) (G.name i)) := ⟨fun ρ => by
  subst hvs
  refine PS.mono (ps_setLc (g := gT (cx ca C) ss g) (tt := tT (cx ca C) t) (te := eT (cx ca C) f) hc hN hy hyl hsw (hi.run ρ) ok (fun s H B cl fp => ⟨fun pins s σ H v u Q I r ⟨d, ρ, ρ', hgd, q⟩ => ((hg _ _ B cl fp).run d ρ ρ' hgd).run pins s σ H v u Q I r q⟩) (fun s H B cl fp => (hts s H B cl fp).run) (fun s H B cl fp => ⟨fun pins s σ H Q I ⟨ρ, q⟩ => ((he _ _ B cl fp).run ρ).run pins s σ H Q I q⟩) hs) fun D σ H ⟨F, r, s, e, p⟩ => ?_
  exact lc_main hfx hss ht hf s e (asg_name hfi s e p)⟩
end
end Vl
/-! The value layer, 24: texts' methods, isinstance, constants of classes and modules. -/
namespace Vl
open PySem PySem.Spec PyProof.Rows L2

def D.asStr : D → Option Str
  | .str z => some z
  | _ => none
def txtL : List D → Option (List Str)
  | [] => some []
  | .str z :: ds => (txtL ds).map (z :: ·)
  | _ :: _ => none
theorem txtL_val : ∀ {xs : List A} {ys : List Str}, txtL (xs.map er) = some ys → xs.map val = ys.map V.str
  | [], ys, h => by cases h; rfl
  | x :: xs, ys, h => by
    rw [List.map_cons] at h
    cases x with
    | str z =>
      have h : (txtL (xs.map er)).map (z :: ·) = some ys := h
      cases e : txtL (xs.map er) with
      | none => rw [e] at h; cases h
      | some zs =>
        rw [e] at h; cases h
        rw [List.map_cons, List.map_cons, txtL_val e]; rfl
    | _ => cases h
/-- z.m(y) -/
def E.ms1 (g : Str → D → Option D) (f h : Ev) : Ev := fun ρ => (f ρ).bind fun x ρ1 => match x with
  | .str z => (h ρ1).bind fun y ρ2 => R.of (g z y) ρ2
  | _ => .bad
def gJoin (z : Str) (d : D) : Option D := match d with
  | .nd .lst _ _ xs => (txtL xs).bind fun ys => if (ys.map (·.length)).sum + ys.length * z.length ≤ 16777216 then some (.str (Txt.join z ys)) else none
  | .nd .scr _ _ xs => (txtL xs).bind fun ys => if (ys.map (·.length)).sum + ys.length * z.length ≤ 16777216 then some (.str (Txt.join z ys)) else none
  | .nd .tup _ _ xs => (txtL xs).bind fun ys => if (ys.map (·.length)).sum + ys.length * z.length ≤ 16777216 then some (.str (Txt.join z ys)) else none
  | _ => none
def gSplit (z : Str) (d : D) : Option D := match d with
  | .str b => if (b.length == 0) = false ∧ z.length + 2 ≤ sizeLine then some (.nd .lst .o () ((Txt.split z b).map .str)) else none
  | _ => none
def gFind (z : Str) (d : D) : Option D := match d with
  | .str b => some (.int (Txt.find z b))
  | _ => none
def gStarts (z : Str) (d : D) : Option D := match d with
  | .str b => some (.bl (Txt.startswith z b))
  | _ => none
/-- z times n, for small ones -/
def D.rep : D → D → Option D
  | .str z, .int n => if 2 ≤ n ∧ n < 2 ^ 20 ∧ 1 ≤ z.length ∧ z.length * n.toNat ≤ sizeLine then some (.str ⟨(List.replicate n.toNat z.cps).foldl (· ++ ·) #[]⟩) else none
  | .nd .lst _ _ xs, .int n => if allL isC xs = true ∧ -(2 ^ 63) ≤ n ∧ n < 2 ^ 63 ∧ xs.length * n.toNat ≤ sizeLine then some (.nd .lst .o () (List.replicate n.toNat xs).flatten) else none
  | _, _ => none
def D.tyn : D → Option String
  | .non => some "NoneType"
  | .bl _ => some "bool"
  | .int _ => some "int"
  | .str _ => some "str"
  | .nd .lst _ _ _ => some "list"
  | .nd .scr _ _ _ => some "list"
  | .nd .tup _ _ _ => some "tuple"
  | .nd (.dct _) _ _ _ => some "dict"
  | _ => none
/-- isinstance's answer, of built-in types -/
def isTy (T t : String) : Bool := decide (t = T) || (decide (t = "bool") && decide (T = "int"))
def E.isi (T : String) (f : Ev) : Ev := fun ρ => (f ρ).bind fun d ρ1 => match D.tyn d with
  | some t => .ok (.bl (isTy T t)) ρ1
  | none => .bad
structure MsOk (X : Ctx) (C : Cx) (id : String) (g : Str → D → Option D) : Prop where
  run : ∀ z d1 d, g z d1 = some d → ∃ r, MtR C id r ∧ ∀ F H y Q, Sub F H → Ok X F H y → (own y).Nodup → er y = d1 → LPost X F H [y] d Q → r (.str z) [val y] H Q
section
variable {ca : Ca} {C : Cx} {W : WX} {e a b : Expr} {f h : Ev} {pos apos p p2 : Pos} {ρ : Env} {x : Str}
theorem mt_false {id : String} : MtR C id fun _ _ _ _ => False := fun _ _ _ _ _ _ _ _ _ _ _ _ h => h.elim
theorem ce_ms1 {id : String} {name : Str} {g : Str → D → Option D} (ok : MsOk (cx ca C) C id g) (slot : Slot "str" name id) (ty : typeOf (.builtin id) = pure (.type "method_descriptor")) (ha : CE ca C W a f) (hb : CE ca C W b h)
    (hs : starEach [b] C.env = [(false, eval b C.env)] := by rfl) (hbase : attributeBase a name C.env (eval a C.env) = eval a C.env := by rfl) (hline : (apos.endLine == pos.line) = true := by rfl) :
    CE ca C W (.Call (.Attribute a name apos) [b] [] pos) (E.ms1 g f h) := ⟨fun ρ => by
  cases hf : f ρ with
  | bad => exact PE.mono pe_false fun σ H Q ⟨F, r, s, e, q⟩ => by unfold E.ms1 at q; rw [hf] at q; exact q
  | exc c fs ρ1 => exact PE.mono (pe_m1 slot ty mt_false (ha.run ρ) pe_false hs hbase hline) fun σ H Q ⟨F, r, s, e, q⟩ => ⟨F, r, s, e, by unfold E.ms1 at q; rw [hf] at q ⊢; exact q⟩
  | ok d ρ1 =>
    cases d with
    | str z =>
      cases hh : h ρ1 with
      | bad => exact PE.mono pe_false fun σ H Q ⟨F, r, s, e, q⟩ => by unfold E.ms1 at q; rw [hf, R.ok_bind] at q; dsimp only at q; rw [hh] at q; exact q
      | exc c fs ρ2 =>
        refine PE.mono (pe_m1 slot ty mt_false (ha.run ρ) (hb.run ρ1) hs hbase hline) fun σ H Q ⟨F, r, s, e, q⟩ => ⟨F, r, s, e, ?_⟩
        unfold E.ms1 at q; rw [hf, R.ok_bind] at q; dsimp only at q; rw [hh] at q
        rw [hf]
        intro F1 H1 r1 x g1 s1 e1 ok1 ex1 v1
        exact ⟨⟨z, by rw [er_str ex1]; rfl⟩, F1, r1, s1, e1, by rw [hh]; exact fun F2 H2 r2 dx g2 s2 e2 x2 => q F2 H2 r2 dx (g1.trans s1 g2) s2 e2 x2⟩
      | ok y ρ2 =>
        cases hg : g z y with
        | none => exact PE.mono pe_false fun σ H Q ⟨F, r, s, e, q⟩ => by unfold E.ms1 at q; rw [hf, R.ok_bind] at q; dsimp only at q; rw [hh, R.ok_bind, hg] at q; exact q
        | some d' =>
          obtain ⟨r0, mt, hr⟩ := ok.run z y d' hg
          refine PE.mono (pe_m1 slot ty mt (ha.run ρ) (hb.run ρ1) hs hbase hline) fun σ H Q ⟨F, r, s, e, q⟩ => ⟨F, r, s, e, ?_⟩
          unfold E.ms1 at q; rw [hf, R.ok_bind] at q; dsimp only at q; rw [hh, R.ok_bind, hg] at q
          rw [hf]
          intro F1 H1 r1 x g1 s1 e1 ok1 ex1 v1
          have ev := er_str ex1
          refine ⟨⟨z, by rw [ev]; rfl⟩, F1, r1, s1, e1, ?_⟩
          rw [hh]
          intro F2 H2 r2 w g2 s2 e2 ok2 ex2 v2
          rw [ev]
          have v2' := VOk.back g1 v2
          exact hr F2 H2 w Q s2.sub ok2 v2.nd ex2 (fin_leaf s s2 (g1.trans s1 g2) e2 (fun a ha => by rw [adrL_one] at ha; exact v2'.new a ha) (fun b hb => by rw [adrL_one] at hb; exact v2'.bo b hb) q)
    | _ => exact PE.mono pe_false fun σ H Q ⟨F, r, s, e, q⟩ => by unfold E.ms1 at q; rw [hf] at q; exact q⟩
theorem ms_join : MsOk (cx ca C) C "str.join" gJoin := ⟨fun z d1 d hg => by
  unfold gJoin at hg
  have key : ∀ {xs : List D}, ((txtL xs).bind fun ys => if (ys.map (·.length)).sum + ys.length * z.length ≤ 16777216 then some (T.str (Txt.join z ys) : D) else none) = some d → ∃ ys, txtL xs = some ys ∧ (ys.map (·.length)).sum + ys.length * z.length ≤ 16777216 ∧ d = .str (Txt.join z ys) := by
    intro xs h
    cases e : txtL xs with
    | none => rw [e] at h; cases h
    | some ys =>
      rw [e, Option.bind_some] at h
      split at h
      · rename_i hz; cases h; exact ⟨ys, rfl, hz, rfl⟩
      · cases h
  split at hg
  · obtain ⟨ys, h1, h2, rfl⟩ := key hg
    refine ⟨_, mt_join, fun F H y Q s ok nd e k => ?_⟩
    obtain ⟨a, xs, rfl, ex⟩ := er_nd e
    rw [mapL_eq] at ex
    rw [← ex] at h1
    exact ⟨z, a.1, ys, rfl, rfl, .inl (SqL.of (by have := ok.at_ s; rw [txtL_val h1] at this; exact this)), h2, k.plain s rfl⟩
  · obtain ⟨ys, h1, h2, rfl⟩ := key hg
    refine ⟨_, mt_join, fun F H y Q s ok nd e k => ?_⟩
    obtain ⟨a, xs, rfl, ex⟩ := er_nd e
    rw [mapL_eq] at ex
    rw [← ex] at h1
    exact ⟨z, a.1, ys, rfl, rfl, .inl (by have := ok.at_ s; rw [txtL_val h1] at this; exact this), h2, k.plain s rfl⟩
  · obtain ⟨ys, h1, h2, rfl⟩ := key hg
    refine ⟨_, mt_join, fun F H y Q s ok nd e k => ?_⟩
    obtain ⟨a, xs, rfl, ex⟩ := er_nd e
    rw [mapL_eq] at ex
    rw [← ex] at h1
    exact ⟨z, a.1, ys, rfl, rfl, .inr (by have := ok.at_ s; rw [txtL_val h1] at this; exact this), h2, k.plain s rfl⟩
  · cases hg⟩
theorem ms_split : MsOk (cx ca C) C "str.split" gSplit := ⟨fun z d1 d hg => by
  unfold gSplit at hg
  split at hg
  · rename_i b
    split at hg
    · rename_i hz
      cases hg
      refine ⟨_, mt_split, fun F H y Q s ok nd e k => ?_⟩
      rw [er_str e]
      refine ⟨z, b, rfl, rfl, hz.1, hz.2, fun p hp => ?_⟩
      have c : allL isC ((Txt.split z b).map fun w => (T.str w : A)) = true := by rw [allL_eq, List.all_eq_true]; intro w hw; obtain ⟨v, _, rfl⟩ := List.mem_map.mp hw; rfl
      have := k.new (xs := (Txt.split z b).map fun w => (T.str w : A)) (.inl rfl) s hp (.inl rfl) trivial (OkL_iff.mpr fun w hw => by obtain ⟨v, _, rfl⟩ := List.mem_map.mp hw; trivial)
        (by rw [← mapL_mkL, mkL_cold rfl c, mapL_eq, List.map_map]; rfl) (allC_notB c) (by rw [adrL_nil rfl c]; exact fun _ z => (by cases z))
      rw [List.map_map] at this
      exact this
    · cases hg
  · cases hg⟩
theorem ms_find : MsOk (cx ca C) C "str.find" gFind := ⟨fun z d1 d hg => by
  unfold gFind at hg
  split at hg
  · cases hg
    refine ⟨_, mt_find, fun F H y Q s ok nd e k => ?_⟩
    rw [er_str e]
    exact ⟨z, _, rfl, rfl, k.plain s rfl⟩
  · cases hg⟩
theorem ms_starts : MsOk (cx ca C) C "str.startswith" gStarts := ⟨fun z d1 d hg => by
  unfold gStarts at hg
  split at hg
  · cases hg
    refine ⟨_, mt_startswith, fun F H y Q s ok nd e k => ?_⟩
    rw [er_str e]
    exact ⟨z, _, rfl, rfl, k.plain s rfl⟩
  · cases hg⟩
theorem ce_join (ha : CE ca C W a f) (hb : CE ca C W b h) (hs : starEach [b] C.env = [(false, eval b C.env)] := by rfl) (hbase : attributeBase a "join" C.env (eval a C.env) = eval a C.env := by rfl) (hline : (apos.endLine == pos.line) = true := by rfl) :
    CE ca C W (.Call (.Attribute a "join" apos) [b] [] pos) (E.ms1 gJoin f h) := ce_ms1 ms_join PySem.F.slot_str_join PySem.F.type_str_join ha hb hs hbase hline
theorem ce_split (ha : CE ca C W a f) (hb : CE ca C W b h) (hs : starEach [b] C.env = [(false, eval b C.env)] := by rfl) (hbase : attributeBase a "split" C.env (eval a C.env) = eval a C.env := by rfl) (hline : (apos.endLine == pos.line) = true := by rfl) :
    CE ca C W (.Call (.Attribute a "split" apos) [b] [] pos) (E.ms1 gSplit f h) := ce_ms1 ms_split PySem.F.slot_str_split PySem.F.type_str_split ha hb hs hbase hline
theorem op_repS : OpR C (binaryOp .Mult) fun x y H Q => ∃ z n, x = .str z ∧ y = .int n ∧ 2 ≤ n ∧ n < 2 ^ 20 ∧ 1 ≤ z.length ∧ z.length * n.toNat ≤ sizeLine ∧ Q (.str ⟨(List.replicate n.toNat z.cps).foldl (· ++ ·) #[]⟩) H := by
  intro pins s σ H x y v u Q I rx ry hh
  obtain ⟨z, n, rfl, rfl, h1, h2, h3, h4, q⟩ := hh
  obtain ⟨t, rfl⟩ := rx
  obtain ⟨k, rfl⟩ := ry
  have n1 : ¬ n < 1 := by omega
  have ne : (n == 1 || z.length == 0) = false := by
    have e1 : (n == 1) = false := by simpa using (by omega : n ≠ 1)
    have e2 : (z.length == 0) = false := by simpa using (by omega : z.length ≠ 0)
    rw [e1, e2]; rfl
  refine PySem.P.mul_str ?_ (fun _ _ => ?_) (fun _ _ => ?_) ?_
  · have e1 : ¬ n < -(2 ^ 63 : Int) := by omega
    have e2 : ¬ n ≥ 2 ^ 63 := by omega
    rw [decide_eq_false e1, decide_eq_false e2]; rfl
  · rw [sizeLine_eq] at h4
    have e4 : (z.length : Int) ≤ (2 ^ 63 - 1) / n := by
      rw [Int.le_ediv_iff_mul_le (by omega)]
      have e5 : ((z.length * n.toNat : Nat) : Int) = (z.length : Int) * n := by rw [Int.natCast_mul, Int.toNat_of_nonneg (by omega)]
      rw [← e5]
      omega
    omega
  · unfold Builtin.Str.tooLong
    simpa using h4
  · rw [if_neg n1, ne]
    refine ⟨?_, .str _, H, I.tok _, ⟨_, rfl⟩, q⟩
    refine fits_reps ?_
    unfold Builtin.Str.tooLong
    simpa using h4
theorem op2_rep : Op2 (cx ca C) (OpR C (binaryOp .Mult)) D.rep := by
  intro d1 d2 d h
  unfold D.rep at h
  split at h
  · split at h
    · rename_i hz
      cases h
      refine ⟨_, op_repS, fun F H x y Q s _ _ _ e1 e2 k => ?_⟩
      rw [er_str e1, er_int e2]
      exact ⟨_, _, rfl, rfl, hz.1, hz.2.1, hz.2.2.1, hz.2.2.2, k.plain s rfl⟩
    · cases h
  · rename_i m0 u0 xs0 n0
    split at h
    · rename_i hz
      cases h
      refine ⟨_, op_rep, fun F H x y Q s ok1 _ _ e1 e2 k => ?_⟩
      obtain ⟨a, xs, rfl, ex⟩ := er_nd e1
      rw [er_int e2]
      subst ex
      have c := er_cold hz.1
      refine ⟨a.1, _, xs.map val, rfl, rfl, ok1.at_ s, hz.2.1, hz.2.2.1, by rw [List.length_map]; rw [mapL_len] at hz; exact hz.2.2.2, fun p hp => ?_⟩
      have hm : ∀ y ∈ (List.replicate n0.toNat xs).flatten, y ∈ xs := fun y hy => by
        obtain ⟨l, hl, hyl⟩ := List.mem_flatten.mp hy
        rw [(List.mem_replicate.mp hl).2] at hyl; exact hyl
      have c2 := allL_sub c hm
      have := k.new (xs := (List.replicate n0.toNat xs).flatten) (.inl rfl) s hp (.inl rfl) trivial (ok1.kids.sub hm)
        (by rw [← mapL_mkL, mkL_cold rfl c2, mapL_eq, mapL_eq, List.map_flatten, List.map_replicate]) (allC_notB c2) (by rw [adrL_nil rfl c2]; exact fun _ z => (by cases z))
      rw [List.map_flatten, List.map_replicate] at this
      exact this
    · cases h
  · cases h
theorem ce_rep (ha : CE ca C W a f) (hb : CE ca C W b h) : CE ca C W (.BinOp a .Mult b pos) (E.bin D.rep f h) := ce_op op2_rep ha hb
/-- the type of what stands there -/
theorem tyn_ok {X : Ctx} {F H : Hp} {x : A} {t : String} (s : Sub F H) (ok : Ok X F H x) (h : D.tyn (er x) = some t) : TyX X.K H (val x) (.type t) := by
  cases x with
  | non => cases h; exact .base .non
  | bl b => cases h; exact .base (.bl b)
  | int b => cases h; exact .base (.int b)
  | str b => cases h; exact .base (.str b)
  | nd k m a xs =>
    have at1 := ok.at_ s
    cases k with
    | lst => cases h; exact .base (.lst at1)
    | scr =>
      cases h
      rcases at1 with (at1 | ⟨o, at1⟩) | ⟨o, its, n, hk, hc, _⟩
      · exact .base (.lst at1)
      · exact .base (.frz at1)
      · exact .kList hk hc
    | tup =>
      cases h
      rcases at1 with (at1 | ⟨o, at1⟩) | ⟨o, its, n, hk, hc, _⟩
      · exact .base (.tup at1)
      · exact .fTuple at1
      · exact .kTuple hk hc
    | dct ks =>
      cases h
      rcases at1 with at1 | ⟨o, at1⟩
      · exact .base (.dK at1)
      · exact .fDict at1
    | ins C fs => cases h
/-- a type to ask for -/
def TyAsk (T : String) : Prop := ∀ t ∈ ["NoneType", "bool", "int", "str", "list", "tuple", "dict"], kitB t T = some (isTy T t)
theorem ask_of {T : String} (h0 : kitB "NoneType" T = some (isTy T "NoneType")) (h1 : kitB "bool" T = some (isTy T "bool")) (h2 : kitB "int" T = some (isTy T "int")) (h3 : kitB "str" T = some (isTy T "str")) (h4 : kitB "list" T = some (isTy T "list")) (h5 : kitB "tuple" T = some (isTy T "tuple"))
    (h6 : kitB "dict" T = some (isTy T "dict")) : TyAsk T := by
  intro t ht
  simp only [List.mem_cons, List.not_mem_nil, or_false] at ht
  rcases ht with rfl | rfl | rfl | rfl | rfl | rfl | rfl <;> assumption
theorem ask_int : TyAsk "int" := ask_of (by decide +kernel) (by decide +kernel) (by decide +kernel) (by decide +kernel) (by decide +kernel) (by decide +kernel) (by decide +kernel)
theorem ask_bool : TyAsk "bool" := ask_of (by decide +kernel) (by decide +kernel) (by decide +kernel) (by decide +kernel) (by decide +kernel) (by decide +kernel) (by decide +kernel)
theorem ask_str : TyAsk "str" := ask_of (by decide +kernel) (by decide +kernel) (by decide +kernel) (by decide +kernel) (by decide +kernel) (by decide +kernel) (by decide +kernel)
theorem ask_list : TyAsk "list" := ask_of (by decide +kernel) (by decide +kernel) (by decide +kernel) (by decide +kernel) (by decide +kernel) (by decide +kernel) (by decide +kernel)
theorem ask_tuple : TyAsk "tuple" := ask_of (by decide +kernel) (by decide +kernel) (by decide +kernel) (by decide +kernel) (by decide +kernel) (by decide +kernel) (by decide +kernel)
theorem ask_dict : TyAsk "dict" := ask_of (by decide +kernel) (by decide +kernel) (by decide +kernel) (by decide +kernel) (by decide +kernel) (by decide +kernel) (by decide +kernel)
theorem tyn_mem {d : D} {t : String} (h : D.tyn d = some t) : t ∈ ["NoneType", "bool", "int", "str", "list", "tuple", "dict"] := by
  unfold D.tyn at h
  split at h <;> first | (cases h; simp; done) | cases h
theorem ce_isi {T : String} {x2 : Str} (hT : TyAsk T) (ha : CE ca C W a f) (hg : Gl C "isinstance") (hm : C.mg "isinstance" = none) (hg2 : Gl C x2) (hm2 : C.mg x2 = none) (hv2 : bootBuiltins x2 = some (.type T)) (hn2 : x2 ≠ "__name__" := by decide) (hd2 : (x2 == ("__debug__" : Str)) = false := by decide)
    (he : starEach [a, .Name x2 p2] C.env = (false, eval a C.env) :: starEach [.Name x2 p2] C.env := by rfl) (hpl : (backTo pos (starEach [.Name x2 p2] C.env)).any (·.1) = false := by rfl) : CE ca C W (.Call (.Name "isinstance" p) [a, .Name x2 p2] [] pos) (E.isi T f) := ⟨fun ρ => by
  have pb : PE C (.Name x2 p2) (tC (.ty T)) := pe_bltn hg2 hm2 hv2 rfl hn2 hd2
  refine PE.mono (pe_callB call_isi hg hm rfl (pa_cons (ha.run ρ) (pa_cons pb pa_nil) he) (by decide) (by decide) he hpl) fun σ H Q ⟨F, r, s, e, q⟩ => ⟨F, r, s, e, ?_⟩
  unfold E.isi at q
  cases hf : f ρ with
  | bad => rw [hf] at q; exact q
  | exc c fs ρ1 => rw [hf] at q; exact q
  | ok d ρ1 =>
    rw [hf, R.ok_bind] at q
    intro F1 H1 r1 x g1 s1 e1 ok1 ex1 v1
    cases ht : D.tyn d with
    | none => rw [ht] at q; exact q.elim
    | some t =>
      rw [ht] at q
      exact ⟨val x, .ty T, .type t, .type T, isTy T t, rfl, .ty T, tyn_ok s1.sub ok1 (by rw [ex1]; exact ht), kit_ty (hT t (tyn_mem ht)), q.bl g1 s1 e1⟩⟩
/-- a constant of a class -/
theorem ce_cval {y n : Str} {B : Addr} {mc u : Value} {d : D} (h : plain d = true) (hg : Gl C y) (hm : C.mg y = some (.ref B)) (hr : ClX.CRead C.K B mc) (hc : ClX.CVal C.K B mc n (val (up d)) u) (hdb : (y == ("__debug__" : Str)) = false := by decide)
    (hb : attributeBase (.Name y p) n C.env (eval (.Name y p) C.env) = eval (.Name y p) C.env := by rfl) : CE ca C W (.Attribute (.Name y p) n pos) (E.c d) :=
  ce_const h (PE.mono (ClX.pe_cval (pe_glob hg hm (v := .ref B) rfl hdb) hb) fun σ H Q q => ⟨B, mc, _, u, rfl, hr, hc, q⟩)
end
end Vl
/-! The value layer, 25: zip, enumerate; all, any, sum. -/
namespace Vl
open PySem PySem.Spec PyProof.Rows L2

section
variable {X : Ctx} {W : WX} {F F1 H H1 : Hp} {r r1 : AR} {σ : St} {xs : List A}
/-- fresh values are settled beside a state -/
theorem settle_args (s : Stt X F H r σ) (g1 : Grow F H r F1 H1 r1) (s1 : Stt X F1 H1 r1 σ) (ok : OkL X F1 H1 xs) (new : ∀ a ∈ adrL .o xs, H a = none) (nb : allL notB xs = true) :
    Stt X (frz F1 H1 (adrL .o xs)) H1 r1 σ ∧ Grow F H r (frz F1 H1 (adrL .o xs)) H1 r1 ∧ OkL X (frz F1 H1 (adrL .o xs)) H1 (mkL calm xs) := by
  have hown : ∀ q ∈ adrL .o xs, q ∉ adrR .o r1 := fun q hq hr => (s.own_there (g1.ow q hr)).1 (new q hq)
  have ff : ∀ q w, F1 q = some w → frz F1 H1 (adrL .o xs) q = some w := fun q w hw => by
    rw [frz_out (fun hq => by rw [(OkL.own_there ok q hq).2] at hw; cases hw)]; exact hw
  have sb : Sub (frz F1 H1 (adrL .o xs)) H1 := fun q w hw => by
    by_cases hq : q ∈ adrL .o xs
    · rw [frz_in hq] at hw; exact .inl hw
    · rw [frz_out hq] at hw; exact s1.sub q w hw
  have fr : ∀ q, F1 q = none → frz F1 H1 (adrL .o xs) q ≠ none → H1 q = none ∨ q ∉ adrR .o r1 := fun q h1 h2 => by
    by_cases hq : q ∈ adrL .o xs
    · exact .inr (hown q hq)
    · rw [frz_out hq] at h2; exact absurd h1 h2
  refine ⟨s1.grow0 (fun _ _ h => h) ff fr sb, ⟨g1.same, fun q w hw => ff q w (g1.fs q w hw), fun q h1 h2 => ?_, g1.ow, g1.bo, g1.un⟩, OkL.fz ok nb ff fun q hq => frz_in hq⟩
  cases e : F1 q with
  | some w => exact g1.fr q h1 (by rw [e]; exact fun z => by cases z)
  | none =>
    by_cases hq : q ∈ adrL .o xs
    · exact .inl (new q hq)
    · rw [frz_out hq, e] at h2; exact absurd rfl h2
end
/-- the items of a list that is not lent -/
def D.lits : D → Option (List D)
  | .nd .lst m _ xs => if m ≠ .b ∧ allL isC xs = true then some xs else none
  | _ => none
def D.tits : D → Option (List D)
  | .nd .tup .c _ xs => some xs
  | _ => none
def pairD (p : D × D) : D := .nd .tup .c () [p.1, p.2]
def zipD : List D → Option (List D)
  | [a, b] => match D.lits a, D.lits b with
    | some xs, some ys => some ((xs.zip ys).map pairD)
    | _, _ => match D.tits a, D.tits b with
      | some xs, some ys => if allL isC xs = true ∧ allL isC ys = true then some ((xs.zip ys).map pairD) else none
      | _, _ => none
  | _ => none
def I.zip (fa : Env → R (List D)) : Iv := fun ρ => (fa ρ).bind fun ds ρ1 => R.of (zipD ds) ρ1
def enumD : List D → Option (List D)
  | [a] => (D.lits a).map fun xs => (xs.zipIdx.map fun p => pairD (.int (p.2 : Nat), p.1))
  | _ => none
def I.enum (fa : Env → R (List D)) : Iv := fun ρ => (fa ρ).bind fun ds ρ1 => R.of (enumD ds) ρ1
def blsL : List D → Option (List Bool)
  | [] => some []
  | .bl b :: ds => (blsL ds).map (b :: ·)
  | _ :: _ => none
theorem blsL_val : ∀ {xs : List A} {ys : List Bool}, blsL (xs.map er) = some ys → xs.map val = ys.map V.bl
  | [], ys, h => by cases h; rfl
  | x :: xs, ys, h => by
    rw [List.map_cons] at h
    cases x with
    | bl z =>
      have h : (blsL (xs.map er)).map (z :: ·) = some ys := h
      cases e : blsL (xs.map er) with
      | none => rw [e] at h; cases h
      | some zs =>
        rw [e] at h; cases h
        rw [List.map_cons, List.map_cons, blsL_val e]; rfl
    | _ => cases h
def intsL : List D → Option (List Int)
  | [] => some []
  | .int b :: ds => (intsL ds).map (b :: ·)
  | _ :: _ => none
theorem intsL_val : ∀ {xs : List A} {ys : List Int}, intsL (xs.map er) = some ys → xs.map val = ys.map V.int
  | [], ys, h => by cases h; rfl
  | x :: xs, ys, h => by
    rw [List.map_cons] at h
    cases x with
    | int z =>
      have h : (intsL (xs.map er)).map (z :: ·) = some ys := h
      cases e : intsL (xs.map er) with
      | none => rw [e] at h; cases h
      | some zs =>
        rw [e] at h; cases h
        rw [List.map_cons, List.map_cons, intsL_val e]; rfl
    | _ => cases h
def D.all1 : List D → Option D
  | [.nd .lst _ _ xs] => (blsL xs).map fun bs => .bl (bs.all id)
  | _ => none
def D.any1 : List D → Option D
  | [.nd .lst _ _ xs] => (blsL xs).map fun bs => .bl (bs.any id)
  | _ => none
def D.sum1 : List D → Option D
  | [.nd .lst _ _ xs] => (intsL xs).map fun bs => .int bs.sum
  | _ => none
section
variable {ca : Ca} {C : Cx} {W : WX} {fa : Env → R (List D)} {pos p tpos : Pos}
theorem lits_ok {d : D} {ds : List D} (h : D.lits d = some ds) : ∃ m, m ≠ .b ∧ d = .nd .lst m () ds ∧ allL isC ds = true := by
  unfold D.lits at h
  split at h
  · split at h
    · rename_i hz; cases h; exact ⟨_, hz.1, rfl, hz.2⟩
    · cases h
  · cases h
theorem tits_ok {d : D} {ds : List D} (h : D.tits d = some ds) : d = .nd .tup .c () ds := by
  unfold D.tits at h
  split at h
  · cases h; rfl
  · cases h
theorem lits_A {x : A} {ds : List D} (h : D.lits (er x) = some ds) : ∃ m a zs, m ≠ .b ∧ x = .nd .lst m a zs ∧ zs.map er = ds ∧ allL isC zs = true ∧ x.nob = true := by
  obtain ⟨m, hm, e, c⟩ := lits_ok h
  obtain ⟨a, zs, rfl, ez⟩ := er_nd e
  rw [← ez] at c
  have c2 := er_cold c
  refine ⟨m, a, zs, hm, rfl, by rw [← mapL_eq]; exact ez, c2, ?_⟩
  rw [T.nob, T.all, Bool.and_eq_true]
  exact ⟨by cases m <;> first | rfl | exact absurd rfl hm, allC_notB c2⟩
/-- a new pair is handed out -/
theorem pair_out {X : Ctx} {F2 H2 : Hp} {r2 : AR} {σ2 : St} {T0 : Addr} {x y : A} (s : Stt X F2 H2 r2 σ2) (hT : H2 T0 = none) (ox : Ok X F2 H2 x) (oy : Ok X F2 H2 y) (cx : x.cold = true) (cy : y.cold = true) :
    ∃ F3 z, Grow F2 H2 r2 F3 (upd H2 T0 (.tup [val x, val y])) r2 ∧ Stt X F3 (upd H2 T0 (.tup [val x, val y])) r2 σ2 ∧ Ok X F3 (upd H2 T0 (.tup [val x, val y])) z ∧ er z = pairD (er x, er y) ∧ val z = .ref T0 ∧ z.cold = true := by
  have hF : F2 T0 = none := s.sub.free hT
  have ff : ∀ q w, F2 q = some w → upd F2 T0 (.tup [val x, val y]) q = some w := fun q w h => by rw [upd_ne (fun e => by rw [e, hF] at h; cases h)]; exact h
  have hh : ∀ q w, H2 q = some w → upd H2 T0 (.tup [val x, val y]) q = some w := fun q w h => by rw [upd_ne (fun e => by rw [e, hT] at h; cases h)]; exact h
  have fr : ∀ q, F2 q = none → upd F2 T0 (.tup [val x, val y]) q ≠ none → H2 q = none := fun q h h' => by
    by_cases e : q = T0
    · rw [e]; exact hT
    · rw [upd_ne e] at h'; exact absurd h h'
  have sb : Sub (upd F2 T0 (.tup [val x, val y])) (upd H2 T0 (.tup [val x, val y])) := fun q w h => by
    by_cases e : q = T0
    · rw [e, upd_same] at h ⊢; exact .inl h
    · rw [upd_ne e] at h
      exact (s.sub q w h).imp (hh q w) fun ⟨o, k, z1, z2⟩ => ⟨o, k, z1, hh q _ z2⟩
  have mv : ∀ z : A, Ok X F2 H2 z → z.cold = true → Ok X (upd F2 T0 (.tup [val x, val y])) (upd H2 T0 (.tup [val x, val y])) z := fun z oz cz => oz.same ff hh fun a ha => by rw [cold_own cz] at ha; cases ha
  refine ⟨_, .nd .tup .c (T0, 0) [x, y], ⟨hh, ff, fun q h h' => .inl (fr q h h'), fun _ h => h, fun _ => Iff.rfl, rfl⟩, s.grow0 hh ff (fun q h h' => .inl (fr q h h')) sb, ⟨⟨trivial, .inl (.inl upd_same), ?_⟩, mv x ox cx, mv y oy cy, trivial⟩, rfl, rfl, ?_⟩
  · rw [allL, allL, allL, Bool.and_true, Bool.and_eq_true]; exact ⟨cx, cy⟩
  · rw [T.cold, T.all, allL, allL, allL, Bool.and_true, Bool.and_eq_true, Bool.and_eq_true]; exact ⟨rfl, cx, cy⟩
theorem cold_stay {X : Ctx} {F H F' H' : Hp} {z : A} (ok : Ok X F H z) (c : z.cold = true) (fs : ∀ a u, F a = some u → F' a = some u) : Ok X F' H' z := ItOk.of_static.cold_move ok c fs
theorem zip_get {xs ys : List A} {d : D} {i : Nat} (h : (((xs.map er).zip (ys.map er)).map pairD)[i]? = some d) : ∃ x y, xs[i]? = some x ∧ ys[i]? = some y ∧ d = pairD (er x, er y) := by
  rw [List.getElem?_map] at h
  cases e : ((xs.map er).zip (ys.map er))[i]? with
  | none => rw [e] at h; cases h
  | some q =>
    rw [e] at h
    cases h
    obtain ⟨h1, h2⟩ := List.getElem?_zip_eq_some.mp e
    rw [List.getElem?_map] at h1 h2
    cases e1 : xs[i]? with
    | none => rw [e1] at h1; cases h1
    | some x =>
      cases e2 : ys[i]? with
      | none => rw [e2] at h2; cases h2
      | some y =>
        rw [e1] at h1; rw [e2] at h2
        exact ⟨x, y, rfl, rfl, by rw [show er x = q.1 from Option.some.inj h1, show er y = q.2 from Option.some.inj h2]⟩
theorem ci_zip {a b : Expr} {elts : List Expr} {kk : Nat} (hg : Gl C "zip") (hm : C.mg "zip" = none) (ha : CA ca C W [a, b] fa) (hs : starEach [a, b] C.env = (false, eval a C.env) :: starEach [b] C.env := by rfl) (hpl : (backTo pos (starEach [b] C.env)).any (·.1) = false := by rfl) :
    CI ca C W (.Tuple elts kk tpos) (.Call (.Name "zip" p) [a, b] [] pos) (I.zip fa) := ⟨fun ρ => by
  refine PI.mono (RZ.pi_zipA hg hm (ha.run ρ) hs hpl) fun σ H Q ⟨F, r, s, e, q⟩ => ⟨F, r, s, e, ?_⟩
  unfold I.zip at q
  cases hf : fa ρ with
  | bad => rw [hf] at q; exact q
  | exc c fs ρ1 => rw [hf] at q; exact q
  | ok ds ρ1 =>
    rw [hf, R.ok_bind] at q
    intro F1 H1 r1 xs g1 s1 e1 ok1 ex1 nd1 new1 bo1
    cases hz : zipD ds with
    | none => rw [hz] at q; exact q.elim
    | some its =>
      rw [hz] at q
      unfold zipD at hz
      split at hz
      · rename_i d1 d2
        obtain ⟨x, y, rfl, ex, ey⟩ := two_of ex1
        subst ex ey
        split at hz
        · rename_i ws vs hw hv
          cases hz
          obtain ⟨m1, a1, zs1, _, rfl, rfl, c1, n1⟩ := lits_A hw
          obtain ⟨m2, a2, zs2, _, rfl, rfl, c2, n2⟩ := lits_A hv
          obtain ⟨s2, g2, ok2⟩ := settle_args s g1 s1 ok1 new1 (by rw [allL, allL, allL, Bool.and_true, Bool.and_eq_true]; exact ⟨n1, n2⟩)
          refine ⟨a1.1, a2.1, zs1.map val, zs2.map val, rfl, .inl ⟨SqL.of (ok1.1.at_ s1.sub), SqL.of (ok1.2.1.at_ s1.sub), ?_⟩⟩
          refine q _ H1 r1 _ g2 s2 e1 fun i F2 H2 r2 σ2 gg ss => ?_
          have l1 : SqL C.K H2 a1.1 (zs1.map val) := by
            have h : At C.K ca F2 .lst a1 ((mkL calm zs1).map val) := At.same ok2.1.1.2.1 gg.fs
            rw [valL_mk] at h
            exact SqL.of (ss.sub.at_ h)
          have l2 : SqL C.K H2 a2.1 (zs2.map val) := by
            have h : At C.K ca F2 .lst a2 ((mkL calm zs2).map val) := At.same ok2.2.1.1.2.1 gg.fs
            rw [valL_mk] at h
            exact SqL.of (ss.sub.at_ h)
          refine ⟨fun d hd => ?_, fun hl => ⟨_, _, l1, l2, ?_⟩⟩
          · obtain ⟨x, y, hx, hy, rfl⟩ := zip_get hd
            refine ⟨⟨_, _, val x, val y, l1, l2, by rw [List.getElem?_map, hx]; rfl, by rw [List.getElem?_map, hy]; rfl⟩, fun v H3 ⟨T0, x', y', ev, hT, eH, hx', hy'⟩ => ?_⟩
            have q1 := hx' _ l1
            have q2 := hy' _ l2
            rw [List.getElem?_map, hx] at q1
            rw [List.getElem?_map, hy] at q2
            have q1 : val x = x' := Option.some.inj q1
            have q2 : val y = y' := Option.some.inj q2
            subst q1 q2 ev eH
            have mx := List.mem_of_getElem? hx
            have my := List.mem_of_getElem? hy
            rw [allL_eq, List.all_eq_true] at c1 c2
            have ox : Ok (cx ca C) F2 H2 x := cold_stay (OkL_iff.mp ok2.1.2 x (by rw [mkL_cold rfl (by rw [allL_eq, List.all_eq_true]; exact c1)]; exact mx)) (c1 x mx) gg.fs
            have oy : Ok (cx ca C) F2 H2 y := cold_stay (OkL_iff.mp ok2.2.1.2 y (by rw [mkL_cold rfl (by rw [allL_eq, List.all_eq_true]; exact c2)]; exact my)) (c2 y my) gg.fs
            exact pair_out ss hT ox oy (c1 x mx) (c2 y my)
          · rw [List.length_map, List.length_zip, List.length_map, List.length_map] at hl
            rw [List.length_map, List.length_map]
            omega
        · split at hz
          · rename_i ws vs hw hv
            split at hz
            · rename_i hcc
              cases hz
              obtain ⟨a1, zs1, rfl, ez1⟩ := er_nd (tits_ok hw)
              obtain ⟨a2, zs2, rfl, ez2⟩ := er_nd (tits_ok hv)
              have c1 : allL isC zs1 = true := er_cold (by rw [ez1]; exact hcc.1)
              have c2 : allL isC zs2 = true := er_cold (by rw [ez2]; exact hcc.2)
              rw [mapL_eq] at ez1 ez2
              subst ez1 ez2
              refine ⟨a1.1, a2.1, zs1.map val, zs2.map val, rfl, .inr ⟨ok1.1.at_ s1.sub, ok1.2.1.at_ s1.sub, ?_⟩⟩
              refine q F1 H1 r1 _ g1 s1 e1 fun i F2 H2 r2 σ2 gg ss => ?_
              have l1 : SqT C.K H2 a1.1 (zs1.map val) := ss.sub.at_ (At.same (k := .tup) ok1.1.1.2.1 gg.fs)
              have l2 : SqT C.K H2 a2.1 (zs2.map val) := ss.sub.at_ (At.same (k := .tup) ok1.2.1.1.2.1 gg.fs)
              refine ⟨fun d hd => ?_, fun hl => ⟨_, _, l1, l2, ?_⟩⟩
              · obtain ⟨x, y, hx, hy, rfl⟩ := zip_get hd
                refine ⟨⟨_, _, val x, val y, l1, l2, by rw [List.getElem?_map, hx]; rfl, by rw [List.getElem?_map, hy]; rfl⟩, fun v H3 ⟨T0, x', y', ev, hT, eH, hx', hy'⟩ => ?_⟩
                have q1 := hx' _ l1
                have q2 := hy' _ l2
                rw [List.getElem?_map, hx] at q1
                rw [List.getElem?_map, hy] at q2
                have q1 : val x = x' := Option.some.inj q1
                have q2 : val y = y' := Option.some.inj q2
                subst q1 q2 ev eH
                have mx := List.mem_of_getElem? hx
                have my := List.mem_of_getElem? hy
                rw [allL_eq, List.all_eq_true] at c1 c2
                exact pair_out ss hT (cold_stay (OkL_iff.mp ok1.1.2 x mx) (c1 x mx) gg.fs) (cold_stay (OkL_iff.mp ok1.2.1.2 y my) (c2 y my) gg.fs) (c1 x mx) (c2 y my)
              · rw [List.length_map, List.length_zip, List.length_map, List.length_map] at hl
                rw [List.length_map, List.length_map]
                omega
            · cases hz
          · cases hz
      · cases hz⟩
theorem opn_all (hc : C.calm = true) : OpN (cx ca C) (CallR C (.builtin "all")) D.all1 := by
  intro ds d h
  unfold D.all1 at h
  split at h
  · rename_i m u xs0
    cases hb : blsL xs0 with
    | none => rw [hb] at h; cases h
    | some bs =>
      rw [hb] at h; cases h
      refine ⟨_, cr_all hc, fun F H xs Q s ok nd ex k => ?_⟩
      obtain ⟨x, rfl, e⟩ := one_of ex
      obtain ⟨a, zs, rfl, ez⟩ := er_nd e
      rw [mapL_eq] at ez
      rw [← ez] at hb
      exact ⟨a.1, bs, rfl, SqL.of (by have := ok.1.at_ s; rw [blsL_val hb] at this; exact this), k.plain s rfl⟩
  · cases h
theorem opn_any (hc : C.calm = true) : OpN (cx ca C) (CallR C (.builtin "any")) D.any1 := by
  intro ds d h
  unfold D.any1 at h
  split at h
  · rename_i m u xs0
    cases hb : blsL xs0 with
    | none => rw [hb] at h; cases h
    | some bs =>
      rw [hb] at h; cases h
      refine ⟨_, cr_any hc, fun F H xs Q s ok nd ex k => ?_⟩
      obtain ⟨x, rfl, e⟩ := one_of ex
      obtain ⟨a, zs, rfl, ez⟩ := er_nd e
      rw [mapL_eq] at ez
      rw [← ez] at hb
      exact ⟨a.1, bs, rfl, SqL.of (by have := ok.1.at_ s; rw [blsL_val hb] at this; exact this), k.plain s rfl⟩
  · cases h
theorem opn_sum (hc : C.calm = true) : OpN (cx ca C) (CallR C (.builtin "sum")) D.sum1 := by
  intro ds d h
  unfold D.sum1 at h
  split at h
  · rename_i m u xs0
    cases hb : intsL xs0 with
    | none => rw [hb] at h; cases h
    | some bs =>
      rw [hb] at h; cases h
      refine ⟨_, cr_sum hc, fun F H xs Q s ok nd ex k => ?_⟩
      obtain ⟨x, rfl, e⟩ := one_of ex
      obtain ⟨a, zs, rfl, ez⟩ := er_nd e
      rw [mapL_eq] at ez
      rw [← ez] at hb
      exact ⟨a.1, bs, rfl, SqL.of (by have := ok.1.at_ s; rw [intsL_val hb] at this; exact this), k.plain s rfl⟩
  · cases h
end
end Vl
/-! The value layer, 26: what settles nothing; calls by name; fixed slots. -/
namespace Vl
open PySem PySem.Spec PyProof.Rows L2

def PureA (f : Env → R (List D)) : Prop := ∀ ρ d ρ', f ρ = .ok d ρ' → ρ' = ρ
def PureO (f : Eo) : Prop := ∀ ρ d ρ', f ρ = .ok d ρ' → ρ' = ρ
def PureP (f : Pv) : Prop := ∀ ρ d ρ', f ρ = .ok d ρ' → ρ' = ρ
theorem bind_ok {β γ : Type} {x : R β} {k : β → Env → R γ} {v : γ} {ρ : Env} (h : x.bind k = .ok v ρ) : ∃ u ρ1, x = .ok u ρ1 ∧ k u ρ1 = .ok v ρ := by
  cases x with
  | ok u ρ1 => exact ⟨u, ρ1, rfl, h⟩
  | exc c fs ρ1 => cases h
  | bad => cases h
theorem of_ok {β : Type} {o : Option β} {v : β} {ρ ρ' : Env} (h : R.of o ρ = .ok v ρ') : o = some v ∧ ρ' = ρ := by
  cases o with
  | none => cases h
  | some u => cases h; exact ⟨rfl, rfl⟩
section
variable {f g h : Ev} {fa : Env → R (List D)} {p : Pv}
theorem pu_c {d : D} : PureE (E.c d) := fun ρ d ρ' h => by cases h; rfl
theorem pu_var {i : Nat} : PureP (P.var i) := fun ρ d ρ' h => by
  unfold P.var at h
  split at h <;> cases h
  rfl
theorem pu_at (hp : PureP p) : PureE (E.at p) := fun ρ d ρ' h => by
  obtain ⟨q, ρ1, h1, h2⟩ := bind_ok h
  rw [hp _ _ _ h1] at h2
  split at h2
  · cases h2; rfl
  · cases h2
theorem pu_un {k : D → Option D} (hf : PureE f) : PureE (E.un k f) := fun ρ d ρ' h => by
  obtain ⟨q, ρ1, h1, h2⟩ := bind_ok h
  rw [(of_ok h2).2, hf _ _ _ h1]
theorem pu_bin {k : D → D → Option D} (hf : PureE f) (hg : PureE g) : PureE (E.bin k f g) := fun ρ d ρ' h => by
  obtain ⟨q, ρ1, h1, h2⟩ := bind_ok h
  obtain ⟨q2, ρ2, h3, h4⟩ := bind_ok h2
  rw [(of_ok h4).2, hg _ _ _ h3, hf _ _ _ h1]
theorem pu_nil : PureA E.nil := fun ρ d ρ' h => by cases h; rfl
theorem pu_nil2 : PureA A.nil := fun ρ d ρ' h => by cases h; rfl
theorem pu_cons (hf : PureE f) (ha : PureA fa) : PureA (E.cons f fa) := fun ρ d ρ' h => by
  obtain ⟨q, ρ1, h1, h2⟩ := bind_ok h
  obtain ⟨q2, ρ2, h3, h4⟩ := bind_ok h2
  cases h4
  rw [ha _ _ _ h3, hf _ _ _ h1]
theorem pu_args {k : List D → Option D} (ha : PureA fa) : PureE (E.args k fa) := fun ρ d ρ' h => by
  obtain ⟨q, ρ1, h1, h2⟩ := bind_ok h
  rw [(of_ok h2).2, ha _ _ _ h1]
theorem pu_call {c : Fc} {dd : List A} (ha : PureA fa) : PureE (E.call c dd fa) := fun ρ d ρ' h => by
  obtain ⟨q, ρ1, h1, h2⟩ := bind_ok h
  have e := ha _ _ _ h1
  split at h2
  · cases ho : c.fn (q ++ dd.map er) with
    | ok d os => rw [ho] at h2; cases h2; exact e
    | exc n fs os => rw [ho] at h2; cases h2
    | bad => rw [ho] at h2; cases h2
  · cases h2
theorem pu_meth {n m : Str} {c : Fc} {dd : List A} (hf : PureE f) (ha : PureA fa) : PureE (E.meth n m c dd f fa) := fun ρ d ρ' h => by
  obtain ⟨q, ρ1, h1, h2⟩ := bind_ok h
  have e := hf _ _ _ h1
  split at h2
  · split at h2
    · obtain ⟨q2, ρ2, h3, h4⟩ := bind_ok h2
      have e2 := ha _ _ _ h3
      rename_i n' fs _ _ _ _
      split at h4
      · generalize hx : c.fn _ = o at h4
        cases o with
        | ok d os => cases h4; rw [e2, e]
        | exc n fs os => cases h4
        | bad => cases h4
      · cases h4
    · cases h2
  · cases h2
theorem pu_no : PureO E.no := fun ρ d ρ' h => by cases h; rfl
theorem pu_part (hf : PureE f) : PureO (E.part f) := fun ρ d ρ' h => by
  obtain ⟨q, ρ1, h1, h2⟩ := bind_ok h
  split at h2
  · cases h2; exact hf _ _ _ h1
  · cases h2
theorem pu_sl {lo hi : Eo} (hf : PureE f) (hl : PureO lo) (hh : PureO hi) : PureE (E.sl f lo hi) := fun ρ d ρ' h => by
  obtain ⟨q, ρ1, h1, h2⟩ := bind_ok h
  obtain ⟨q2, ρ2, h3, h4⟩ := bind_ok h2
  obtain ⟨q3, ρ3, h5, h6⟩ := bind_ok h4
  rw [(of_ok h6).2, hh _ _ _ h5, hl _ _ _ h3, hf _ _ _ h1]
theorem pu_ms1 {k : Str → D → Option D} (hf : PureE f) (hg : PureE g) : PureE (E.ms1 k f g) := fun ρ d ρ' h => by
  obtain ⟨q, ρ1, h1, h2⟩ := bind_ok h
  split at h2
  · obtain ⟨q2, ρ2, h3, h4⟩ := bind_ok h2
    rw [(of_ok h4).2, hg _ _ _ h3, hf _ _ _ h1]
  · cases h2
theorem pu_and (hf : PureE f) (hg : PureE g) : PureE (E.and f g) := fun ρ d ρ' h => by
  obtain ⟨q, ρ1, h1, h2⟩ := bind_ok h
  have e := hf _ _ _ h1
  split at h2
  · rw [hg _ _ _ h2, e]
  · cases h2; exact e
  · cases h2
theorem pu_or (hf : PureE f) (hg : PureE g) : PureE (E.or f g) := fun ρ d ρ' h => by
  obtain ⟨q, ρ1, h1, h2⟩ := bind_ok h
  have e := hf _ _ _ h1
  split at h2
  · cases h2; exact e
  · rw [hg _ _ _ h2, e]
  · cases h2
theorem pu_ite (hf : PureE f) (hg : PureE g) (hh : PureE h) : PureE (E.ite f g h) := fun ρ d ρ' h0 => by
  obtain ⟨q, ρ1, h1, h2⟩ := bind_ok h0
  have e := hf _ _ _ h1
  split at h2
  · rw [hg _ _ _ h2, e]
  · rw [hh _ _ _ h2, e]
  · cases h2
theorem pu_chain {k k' : D → D → Option D} (hf : PureE f) (hg : PureE g) (hh : PureE h) : PureE (E.chain k k' f g h) := fun ρ d ρ' h0 => by
  obtain ⟨q, ρ1, h1, h2⟩ := bind_ok h0
  obtain ⟨q2, ρ2, h3, h4⟩ := bind_ok h2
  have e := hf _ _ _ h1
  have e2 := hg _ _ _ h3
  split at h4
  · obtain ⟨q3, ρ3, h5, h6⟩ := bind_ok h4
    rw [(of_ok h6).2, hh _ _ _ h5, e2, e]
  · cases h4; rw [e2, e]
  · cases h4
theorem pu_isi {T : String} (hf : PureE f) : PureE (E.isi T f) := fun ρ d ρ' h => by
  obtain ⟨q, ρ1, h1, h2⟩ := bind_ok h
  split at h2
  · cases h2; exact hf _ _ _ h1
  · cases h2
theorem pu_fld {Cs : List Str} {n : Str} (hp : PureP p) : PureP (P.fld Cs n p) := fun ρ d ρ' h => by
  obtain ⟨q, ρ1, h1, h2⟩ := bind_ok h
  have e := hp _ _ _ h1
  split at h2
  · split at h2
    · split at h2
      · cases h2; exact e
      · cases h2
    · cases h2
  · cases h2
theorem pu_ix (hp : PureP p) (hf : PureE f) : PureP (P.ix p f) := fun ρ d ρ' h => by
  obtain ⟨q, ρ1, h1, h2⟩ := bind_ok h
  obtain ⟨q2, ρ2, h3, h4⟩ := bind_ok h2
  have e := hp _ _ _ h1
  have e2 := hf _ _ _ h3
  split at h4
  · split at h4
    · cases h4; rw [e2, e]
    · cases h4
  · split at h4
    · cases h4; rw [e2, e]
    · cases h4
  · cases h4
def PureI (f : Iv) : Prop := ∀ ρ d ρ', f ρ = .ok d ρ' → ρ' = ρ
theorem pu_of (hf : PureE f) : PureI (I.of f) := fun ρ d ρ' h => by
  obtain ⟨q, ρ1, h1, h2⟩ := bind_ok h
  split at h2
  · cases h2; exact hf _ _ _ h1
  · cases h2
theorem pu_range1 (ha : PureA fa) : PureI (I.range1 fa) := fun ρ d ρ' h => by
  obtain ⟨q, ρ1, h1, h2⟩ := bind_ok h
  have e := ha _ _ _ h1
  split at h2
  · split at h2
    · cases h2; exact e
    · cases h2
  · cases h2
theorem pu_range2 (ha : PureA fa) : PureI (I.range2 fa) := fun ρ d ρ' h => by
  obtain ⟨q, ρ1, h1, h2⟩ := bind_ok h
  have e := ha _ _ _ h1
  split at h2
  · split at h2
    · cases h2; exact e
    · cases h2
  · cases h2
theorem pu_zip (ha : PureA fa) : PureI (I.zip fa) := fun ρ d ρ' h => by
  obtain ⟨q, ρ1, h1, h2⟩ := bind_ok h
  rw [(of_ok h2).2, ha _ _ _ h1]
theorem pu_lc {fi : Iv} {vs : List Nat} {gv : Gv} {t : Ev} (hi : PureI fi) : PureE (E.lc fi vs gv t f) := fun ρ d ρ' h => by
  obtain ⟨q, ρ1, h1, h2⟩ := bind_ok h
  have e := hi _ _ _ h1
  split at h2
  · split at h2
    · cases h2; exact e
    · cases h2
  · cases h2
end
theorem nofix {fx : List (Nat × V)} {ms : List Bool} {i : Nat} (h : ∀ p ∈ fx, ms[p.1]? = some true) (hi : ms[i]? ≠ some true) : ∀ p ∈ fx, p.1 ≠ i := fun p hp e => hi (by rw [← e]; exact h p hp)
theorem nofixL {fx : List (Nat × V)} {ms : List Bool} {vs : List Nat} (h : ∀ p ∈ fx, ms[p.1]? = some true) (hi : vs.all (fun i => decide (ms[i]? ≠ some true)) = true) : ∀ p ∈ fx, p.1 ∉ vs := fun p hp e => by
  have := of_decide_eq_true (List.all_eq_true.mp hi p.1 e)
  exact this (h p hp)
/-- a def of the module that may be called by its name -/
structure Cal (P : Program) (w : World) (K : PySem.W.Frag) (mg : Str → Option Value) (base : Heap) (cf : Str → Addr) (k : Nat) (x : Str) (c : Fc) (dd : List A) : Prop where
  ex : ∃ (f : Addr) (fd : FuncData) (ps : List Str) (ds : List Value), FnOk P w K mg base (L2.CX P w) k f fd ps (spM K cf c) ∧ mg x = some (.ref f) ∧ PySem.W.keepIn K (.ref f) = true ∧ Binds K fd ps ds ∧ Vals (dd.map val) ds
section
variable {ca : Ca} {C : Cx} {W : WX} {e : Expr} {es : List Expr} {fa : Env → R (List D)} {c : Fc} {dd : List A} {x : Str} {p pos : Pos} {j k : Nat}
theorem ce_callN (h : Cal C.prog C.w C.K C.mg C.base ca.f k x c dd) (hr : Room j C.A) (hk : k ≤ j) (hg : Gl C x) (tk : Takes C W) (ha : CA ca C W (e :: es) fa) (hdd : dd.all leafA = true := by rfl) (hdb : (x == ("__debug__" : Str)) = false := by decide)
    (he : starEach (e :: es) C.env = (false, eval e C.env) :: starEach es C.env := by rfl) (hpl : (backTo pos (starEach es C.env)).any (·.1) = false := by rfl) : CE ca C W (.Call (.Name x p) (e :: es) [] pos) (E.call c dd fa) := by
  obtain ⟨f, fd, ps, ds, Fn, hm, hkp, hb, hd⟩ := h.ex
  exact ce_call Fn (hr.mono hk) hg hm hkp hb hd tk hdd ha hdb he hpl
/-- a constant of a class, by names -/
def CVN (K : PySem.W.Frag) (mg : Str → Option Value) (y n : Str) (d : D) : Prop := ∃ (B : Addr) (mc u : Value), mg y = some (.ref B) ∧ ClX.CRead K B mc ∧ ClX.CVal K B mc n (val (up d)) u
theorem ce_cvalN {y n : Str} {d : D} (h : plain d = true) (hg : Gl C y) (hc : CVN C.K C.mg y n d) (hdb : (y == ("__debug__" : Str)) = false := by decide) (hb : attributeBase (.Name y p) n C.env (eval (.Name y p) C.env) = eval (.Name y p) C.env := by rfl) : CE ca C W (.Attribute (.Name y p) n pos) (E.c d) := by
  obtain ⟨B, mc, u, hm, hr, hv⟩ := hc
  exact ce_cval h hg hm hr hv hdb hb
/-- a text of the module -/
theorem ce_gstr {y z : Str} (hg : Gl C y) (h : ∃ t, C.mg y = some (.str z t)) (hdb : (y == ("__debug__" : Str)) = false := by decide) : CE ca C W (.Name y pos) (E.c (.str z)) := by
  obtain ⟨t, hm⟩ := h
  exact ce_const rfl (pe_glob hg hm (v := .str z) ⟨t, rfl⟩ hdb)
theorem ce_gint {y : Str} {z : Int} (hg : Gl C y) (h : ∃ t, C.mg y = some (.int z t)) (hdb : (y == ("__debug__" : Str)) = false := by decide) : CE ca C W (.Name y pos) (E.c (.int z)) := by
  obtain ⟨t, hm⟩ := h
  exact ce_const rfl (pe_glob hg hm (v := .int z) ⟨t, rfl⟩ hdb)
end
end Vl
/-! The value layer, 27: a law's end; facts of classes. -/
namespace Vl
open PySem PySem.Spec PyProof.Rows L2

theorem cx_none {P : Program} {w : World} {l : List PySem.Env} {H : Hp} {s : Shared} {e : Value} {s' : Shared} (h : L2.CX P w l H s (fun _ _ _ => False) e s') : False := by
  obtain ⟨_, _, _, _, _, _, _, _, _, _, _, _, z⟩ := h
  exact z
theorem scr_ok {X : Ctx} {F H : Hp} {a : Addr} {ns : List Int} (h : SqL X.K F a (ns.map V.int)) : Ok X F H (.nd .scr .c (a, 0) (ns.map T.int)) := by
  refine ⟨⟨trivial, ?_, ?_⟩, OkL_iff.mpr fun x hx => ?_⟩
  · show SqL X.K F a ((ns.map T.int).map val)
    rw [List.map_map]; exact h
  · rw [allL_eq, List.all_eq_true]
    intro x hx
    obtain ⟨i, _, rfl⟩ := List.mem_map.mp hx
    rfl
  · obtain ⟨i, _, rfl⟩ := List.mem_map.mp hx
    trivial
/-- a law: what it does with every script -/
theorem law_sp {K : PySem.W.Frag} {cf : Str → Addr} {c : Fc} {ns : List Int} {H : Hp} {a : Addr} (hn : c.np = 1) (hc : ∃ os, c.fn [.nd .scr .c () (ns.map T.int)] = .ok (.bl true) os) (hS : SqL K H a (ns.map V.int)) :
    spM K cf c [.ref a] H (fun v _ => v = .bl true) fun _ _ _ => False := by
  obtain ⟨os, hc⟩ := hc
  have e : ([.nd .scr .c (a, 0) (ns.map T.int)] : List A).map er = [.nd .scr .c () (ns.map T.int)] := by
    show [T.nd .scr .c () (mapL (fun _ => ()) (ns.map T.int))] = _
    rw [mapL_eq, List.map_map]; rfl
  have ad : ∀ q, q ≠ Mk.c → adrL q [(.nd .scr .c (a, 0) (ns.map T.int) : A)] = [] := fun q hq => by
    rw [adrL, adrL, List.append_nil, adr, if_neg (fun z => hq z.symm), List.nil_append, adrL_eq]
    rw [List.flatMap_eq_nil_iff]
    intro x hx
    obtain ⟨i, _, rfl⟩ := List.mem_map.mp hx
    rfl
  refine ⟨H, [.nd .scr .c (a, 0) (ns.map T.int)], rfl, Sub.refl H, ⟨scr_ok hS, trivial⟩, by rw [ad .o (by decide)]; exact List.nodup_nil, by rw [ad .b (by decide)]; exact fun _ z => (by cases z), by rw [hn]; rfl, ?_⟩
  rw [e, hc]
  intro F' H' ys z dn gv ez
  cases z with
  | bl b => cases ez; rfl
  | _ => cases ez
theorem walk_law {l : PySem.W.OpenLaw} {n k : Nat} {q : Program} {loose : List Str} {XP : (Str → Option Value) → Heap → Prop} {YP : World → Heap → Prop} {d : DefRec} {x : Str}
    (hn : l.most = some n) (hn2 : n ≤ sizeLine) (hdf : d.params.defaults = []) (hr : Room k callerA)
    (F : ∀ (w : World) (mg : Str → Option Value) (fa : Addr) (h : Heap), YP w h → h.Ns mainGlobals mg → mg d.name = some (.ref fa) → ∃ (K : PySem.W.Frag) (fd : FuncData) (cf : Str → Addr) (c : Fc), K.In h ∧
      (∀ (s : Shared) (u : Value), BindsTo s fd ⟨[u], []⟩ [(x, u)]) ∧ c.np = 1 ∧ (∀ ns : List Int, ns.length ≤ n → ∃ os, c.fn [.nd .scr .c () (ns.map T.int)] = .ok (.bl true) os) ∧
      ∀ base : Heap, K.In base → base.Ns mainGlobals mg → FnOk l.prog w K mg base (L2.CX l.prog w) k fa fd [x] (spM K cf c)) :
    PySem.W.WalkO q loose XP YP l.row.toRowW d [] (fun f vs => PySem.call f vs) := by
  refine Att.attach_call hn hdf ?_
  intro w s₀ s₁ mg mb fa o pm cd doc a vs ns G Y ho hd hcd hmg hobj hints hlen hg
  obtain ⟨K, fd, cf, c, KX, hb, h1, hc, hF⟩ := F w mg fa _ Y G.T.g hmg
  exact law_call KX G.T.g G.T.b G.T.builtins G.T.nolimit hg hobj hints (Nat.le_trans hlen hn2) hr hF hb (fun H _ hS => law_sp h1 (hc ns hlen) hS) fun H e s' => cx_none
/-! ### classes -/
def crdB (K : PySem.W.Frag) (C : Str) : Bool := PySem.W.readsIn K (He.ga K C) (.type "type") && He.eqO (PySem.W.specialIn K (.ref (He.ga K C)) "__getattribute__") (some (some (.builtin "type.__getattribute__")))
def cvlB (K : PySem.W.Frag) (C f : Str) (d : He.Dv) : Bool := match PySem.W.findCls K (.ref (He.ga K C)) (.type "type") f with
  | some (.val u) => He.relB (d.v K) u
  | _ => false
theorem cvn_ok {K : PySem.W.Frag} {h : Heap} {mg : Str → Option Value} {C f : Str} {d : D} {v : He.Dv} (X : K.In h) (G : h.Ns mainGlobals mg) (hg : (He.Fa.glo C).ok K = true) (h1 : crdB K C = true) (h2 : cvlB K C f v = true) (hv : v.v K = val (up d)) : CVN K mg C f d := by
  obtain ⟨a1, a2⟩ := He.ba h1
  unfold cvlB at h2
  split at h2
  · rename_i u hu
    exact ⟨He.ga K C, .type "type", u, He.glo_ok X G hg, ⟨a1, He.eqO_ok a2⟩, ⟨hu, by rw [← hv]; exact He.relB_ok h2⟩⟩
  · cases h2
/-! ### what the head looks at -/
def asV (g : Addr → Option Obj) (n : Nat) : List Addr := He.asD g n ++ [cStatics]
def obsV (n : Nat) (fa : List He.Fa) (fn : List He.DefD) (ts : List He.Tab) (ex : PySem.W.Frag → Bool) (g : Addr → Option Obj) : He.AlT × Bool := (He.obsT fa fn ts (He.frG g (asV g n)), ex (He.frG g (asV g n)))
structure SaysV (fa : List He.Fa) (fn : List He.DefD) (ts : List He.Tab) (ex : PySem.W.Frag → Bool) (w : World) (K : PySem.W.Frag) : Prop where
  t : He.SaysT fa fn ts w K
  more : ex K = true
def hookV (n : Nat) (fa : List He.Fa) (fn : List He.DefD) (ts : List He.Tab) (ex : PySem.W.Frag → Bool) : PySem.W.Hook where
  α := He.AlT × Bool
  obs := fun s => obsV n fa fn ts ex s.heap.get?
  val := fun w => (He.valT fn ts w, true)
  says := fun w h => ∃ K : PySem.W.Frag, K.In h ∧ SaysV fa fn ts ex w K
  of := fun _ _ e => ⟨_, He.frG_in, ⟨congrArg (fun z : He.AlT × Bool => z.1) e, congrArg (fun z : He.AlT × Bool => z.2) e⟩⟩
  keeps := fun _ _ _ ⟨K, hK, c⟩ k => ⟨K, PySem.W.Frag.In.keeps hK k, c⟩
theorem obsV_eq {n : Nat} {fa : List He.Fa} {fn : List He.DefD} {ts : List He.Tab} {ex : PySem.W.Frag → Bool} {g : Addr → Option Obj} {s : Shared} (h : ∀ a, g a = s.heap.get? a) : obsV n fa fn ts ex g = (hookV n fa fn ts ex).obs s := by
  have e : g = s.heap.get? := funext h
  rw [e]; rfl
end Vl
/-! The value layer, 28: running the functions by simp: the left part first, what follows only when it is known (what follows is named, so that simp does not enter it). -/
namespace Vl
open PySem PySem.Spec PyProof.Rows L2

def K.bin1 (k : D → D → Option D) (g : Ev) (x : R D) : R D := x.bind fun d1 ρ1 => (g ρ1).bind fun d2 ρ2 => R.of (k d1 d2) ρ2
def K.bin2 (k : D → D → Option D) (d1 : D) (x : R D) : R D := x.bind fun d2 ρ2 => R.of (k d1 d2) ρ2
def K.un (k : D → Option D) (x : R D) : R D := x.bind fun d1 ρ1 => R.of (k d1) ρ1
def K.args (k : List D → Option D) (x : R (List D)) : R D := x.bind fun d1 ρ1 => R.of (k d1) ρ1
def K.cons1 (fa : Vl.Env → R (List D)) (x : R D) : R (List D) := x.bind fun d ρ1 => (fa ρ1).bind fun ds ρ2 => .ok (d :: ds) ρ2
def K.cons2 (d : D) (x : R (List D)) : R (List D) := x.bind fun ds ρ2 => .ok (d :: ds) ρ2
def K.and (g : Ev) (x : R D) : R D := x.bind fun d ρ1 => match d with | .bl true => g ρ1 | .bl false => .ok (.bl false) ρ1 | _ => .bad
def K.or (g : Ev) (x : R D) : R D := x.bind fun d ρ1 => match d with | .bl true => .ok (.bl true) ρ1 | .bl false => g ρ1 | _ => .bad
def K.ite (g h : Ev) (x : R D) : R D := x.bind fun d ρ1 => match d with | .bl true => g ρ1 | .bl false => h ρ1 | _ => .bad
def K.call (c : Fc) (dd : List A) (x : R (List D)) : R D := x.bind fun ds ρ1 => if ds.length + dd.length = c.np then (c.fn (ds ++ dd.map er)).toR ρ1 else .bad
def K.ret (x : R D) : SR := x.toS fun d ρ1 => if d.nob = true then .ret d ρ1 else .bad
def K.sif (u v : Sv) (x : R D) : SR := x.toS fun d ρ1 => match d with | .bl true => u ρ1 | .bl false => v ρ1 | _ => .bad
def K.asg (gv : Gv) (x : R D) : SR := x.toS fun d ρ1 => if d.nob = true then match gv d ρ1 with | some ρ2 => .nx ρ2 | none => .bad else .bad
def K.for_ (gv : Gv) (u : Sv) (x : R (List D)) : SR := x.toS fun ds ρ1 => forL gv u ds ρ1
def K.seq (v : Sv) (x : SR) : SR := x.andThen v
def K.lm (gk : List D → D → Option (List D)) (i : Nat) (x : R D) : SR := x.toS fun d ρ2 => match getR ρ2 i [] with
  | some (.nd .lst .o _ xs) => match gk xs d with
    | some ys => .nx (modS (T.kids ys) ρ2 i [])
    | none => .bad
  | _ => .bad
section
variable {ρ : Vl.Env} {f g h : Ev} {fa : Vl.Env → R (List D)} {u v : Sv} {i : Nat} {d e : D} {ds : List D} {b : Bool} {k : D → D → Option D} {k1 : D → Option D} {kn : List D → Option D} {c : Fc} {dd : List A} {gv : Gv} {fi : Iv} {gk : List D → D → Option (List D)} {n : Str} {fs : List (Str × D)}
theorem x_c : E.c d ρ = .ok d ρ := rfl
theorem x_at : E.at (P.var i) ρ = (match ρ[i]? with | some (some d) => .ok d.vw ρ | _ => .bad) := by
  unfold E.at P.var getR
  cases e : ρ[i]? with
  | none => rfl
  | some o =>
    cases o with
    | none => rfl
    | some d => simp [R.bind, e, getT]
theorem x_tk : E.tk (P.var i) ρ = (match ρ[i]? with | some (some d) => if d.cold = true then .ok d ρ else if d.nob = true then .ok d.fz (modS T.fz ρ i []) else .bad | _ => .bad) := by
  unfold E.tk P.var getR
  cases e : ρ[i]? with
  | none => rfl
  | some o =>
    cases o with
    | none => rfl
    | some d => simp [R.bind, e, getT]
theorem x_bin : E.bin k f g ρ = K.bin1 k g (f ρ) := rfl
theorem k_bin1 : K.bin1 k g (.ok d ρ) = K.bin2 k d (g ρ) := rfl
theorem k_bin2 : K.bin2 k d (.ok e ρ) = R.of (k d e) ρ := rfl
theorem x_un : E.un k1 f ρ = K.un k1 (f ρ) := rfl
theorem k_un : K.un k1 (.ok d ρ) = R.of (k1 d) ρ := rfl
theorem x_args : E.args kn fa ρ = K.args kn (fa ρ) := rfl
theorem k_args : K.args kn (.ok ds ρ) = R.of (kn ds) ρ := rfl
theorem x_nil : E.nil ρ = .ok [] ρ := rfl
theorem x_cons : E.cons f fa ρ = K.cons1 fa (f ρ) := rfl
theorem k_cons1 : K.cons1 fa (.ok d ρ) = K.cons2 d (fa ρ) := rfl
theorem k_cons2 : K.cons2 d (.ok ds ρ) = .ok (d :: ds) ρ := rfl
theorem x_and : E.and f g ρ = K.and g (f ρ) := rfl
theorem k_and1 : K.and g (.ok (.bl true) ρ) = g ρ := rfl
theorem k_and0 : K.and g (.ok (.bl false) ρ) = .ok (.bl false) ρ := rfl
theorem x_or : E.or f g ρ = K.or g (f ρ) := rfl
theorem k_or1 : K.or g (.ok (.bl true) ρ) = .ok (.bl true) ρ := rfl
theorem k_or0 : K.or g (.ok (.bl false) ρ) = g ρ := rfl
theorem x_ite : E.ite f g h ρ = K.ite g h (f ρ) := rfl
theorem k_ite1 : K.ite g h (.ok (.bl true) ρ) = g ρ := rfl
theorem k_ite0 : K.ite g h (.ok (.bl false) ρ) = h ρ := rfl
theorem x_call : E.call c dd fa ρ = K.call c dd (fa ρ) := rfl
theorem k_call : K.call c dd (.ok ds ρ) = if ds.length + dd.length = c.np then (c.fn (ds ++ dd.map er)).toR ρ else .bad := rfl
theorem x_seq : S.seq u v ρ = K.seq v (u ρ) := rfl
theorem x_snil : S.nil ρ = .nx ρ := rfl
theorem x_ret : S.ret f ρ = K.ret (f ρ) := rfl
theorem k_ret : K.ret (.ok d ρ) = if d.nob = true then .ret d ρ else .bad := rfl
theorem x_sif : S.ite f u v ρ = K.sif u v (f ρ) := rfl
theorem k_sif1 : K.sif u v (.ok (.bl true) ρ) = u ρ := rfl
theorem k_sif0 : K.sif u v (.ok (.bl false) ρ) = v ρ := rfl
theorem x_asg : S.asg f gv ρ = K.asg gv (f ρ) := rfl
theorem k_asg : K.asg gv (.ok d ρ) = if d.nob = true then match gv d ρ with | some ρ2 => .nx ρ2 | none => .bad else .bad := rfl
theorem x_name : G.name i d ρ = if i < ρ.length then some (ρ.set i (some d)) else none := rfl
theorem x_for : S.for_ fi gv u ρ = K.for_ gv u (fi ρ) := rfl
theorem k_for : K.for_ gv u (.ok ds ρ) = forL gv u ds ρ := rfl
theorem x_lm1 : S.lm1 gk (P.var i) f ρ = (match ρ[i]? with
  | some (some (.nd .lst .o _ _)) => K.lm gk i (f ρ)
  | _ => .bad) := by
  unfold S.lm1 P.var getR
  cases e : ρ[i]? with
  | none => rfl
  | some o =>
    cases o with
    | none => rfl
    | some d =>
      simp only [R.ok_toS, e, getT]
      cases d with
      | nd k m a xs => cases k <;> cases m <;> rfl
      | _ => rfl
theorem k_lm : K.lm gk i (.ok d ρ) = (match getR ρ i [] with
  | some (.nd .lst .o _ xs) => match gk xs d with
    | some ys => .nx (modS (T.kids ys) ρ i [])
    | none => .bad
  | _ => .bad) := rfl
theorem t_ok {β : Type} (v : β) (k : β → Vl.Env → SR) : (R.ok v ρ).toS k = k v ρ := rfl
theorem b_ok {β γ : Type} (v : β) (k : β → Vl.Env → R γ) : (R.ok v ρ).bind k = k v ρ := rfl
theorem a_nx : K.seq u (.nx ρ) = u ρ := rfl
theorem a_ret : K.seq u (.ret d ρ) = .ret d ρ := rfl
theorem a_exc : K.seq u (.exc n fs ρ) = .exc n fs ρ := rfl
theorem a_bk : K.seq u (.bk ρ) = .bk ρ := rfl
theorem a_ct : K.seq u (.ct ρ) = .ct ρ := rfl
theorem o_some {β : Type} (v : β) : R.of (some v) ρ = .ok v ρ := rfl
end
end Vl
namespace K01
open PySem PySem.Spec PyProof.Rows L2 Vl
def top (i : Nat) : Stmt := PySem.Challenge.pw_heldcalls_k01_names.main.body.getD i (.Pass ⟨0, 0, 0, 0⟩)
def frees : List Str := ["abs", "all", "bool", "int", "isinstance", "len", "range", "str", "zip"]
section
variable {Pg : Program} {w : World} {K : PySem.W.Frag} {mg : Str → Option Value} {base : Heap} {cf : Str → Addr} {f : Addr} {fd : FuncData}
abbrev st_is_name : Stmt := top 3
def N_is_name : List Str := ["word", "letter"]
theorem nd_is_name : N_is_name.Nodup := by decide +kernel
def g_is_name : Sv := (S.seq (S.ite (E.or (E.bin D.lt (E.args D.len (E.cons (E.at (P.var 0)) E.nil)) (E.c (.int 1))) (E.bin D.gt (E.args D.len (E.cons (E.at (P.var 0)) E.nil)) (E.c (.int 8)))) (S.seq (S.ret (E.c (.bl false))) S.nil) S.nil) (S.seq (S.ret (E.args D.all1 (E.cons (E.lc (I.of (E.tk (P.var 0))) [1] (G.name 1) E.yes (E.bin D.in_ (E.at (P.var 1)) (E.c (.str "abcdefghijklmnopqrstuvwxyz")))) E.nil))) S.nil))
def c_is_name : Fc := ⟨1, [], runF [] 2 g_is_name⟩
theorem sc_is_name : FnScope N_is_name ["word"] (defScope st_is_name) := ⟨rfl, rfl, rfl, nd_is_name, rfl, by decide +kernel, by decide +kernel⟩
theorem ok_is_name (Fx : FunD K "is_name" "is_name" (defArgs st_is_name) (defBody st_is_name) (defScope st_is_name) [] [] f fd) (gx : mg "is_name" = some (.ref f)) (hB : ∀ x ∈ frees, mg x = none) (cv_Bounds_LETTERS : CVN K mg "Bounds" "LETTERS" (.int 8)) (gs_ALPHABET : ∃ t, mg "ALPHABET" = some (.str "abcdefghijklmnopqrstuvwxyz" t)) : Cal Pg w K mg base cf 1 "is_name" c_is_name [] := by
  refine ⟨f, fd, ["word"], [], fn_ok (ms := []) Fx sc_is_name (by decide) (fun fx cdv A outer s H E hr hfx => ?_), gx, Fx.kp, Fx.bindsN fun _ _ _ _ _ _ us hl => match us, hl with | [_], _ => rfl, .nil⟩
  have tk := takes_of (X := cxOf (L2.CX Pg w) Pg w K mg base N_is_name "is_name" (defScope st_is_name) f cdv A outer s H E) rfl rfl rfl rfl
  exact (css_cons (by exact (cs_ite (ct_w (cw_or (And.right (cb_lt (ce_callB opn_len rfl (hB "len" (by decide)) boot_len (ca_cons (ce_at cp_var) ca_nil)) ce_int)) (cw_or1 (And.right (cb_gt (ce_callB opn_len rfl (hB "len" (by decide)) boot_len (ca_cons (ce_at cp_var) ca_nil)) (ce_cvalN rfl rfl cv_Bounds_LETTERS)))))) (css_cons (by exact (cs_ret ce_bl))
  css_nil) css_nil))
  (css_cons (by exact (cs_ret (ce_callB (opn_all rfl) rfl (hB "all" (by decide)) boot_all (ca_cons (ce_lc (own := [("letter", 1)]) rfl (nofixL hfx (by decide)) (by decide) rfl nd_is_name (ci_of (ce_tk cp_var)) (blkOk_by (N := N_is_name) (sc := defScope st_is_name) (by decide +kernel)) (pu_bin (pu_at pu_var) pu_c) pure_yes (fun _ _ _ _ _ => (cg_name (nofix hfx (by decide)) nd_is_name)) (fun _ _ _ _ _ => cts_nil) (fun _ _ _ _ _ => (And.left (cb_in hr.units (ce_at cp_var) (ce_gstr rfl gs_ALPHABET))))) ca_nil))))
  css_nil))
abbrev st_law_numbers : Stmt := top 5
def N_law_numbers : List Str := ["script", "at", "many", "cell", "skip", "size", "found", "k", "mixed"]
theorem nd_law_numbers : N_law_numbers.Nodup := by decide +kernel
def b_law_numbers_1 : Sv := (S.seq (S.asg (E.bin D.mod (E.args D.int_ (E.cons (E.bin D.mul (E.at (P.var 5)) (E.bin D.add (E.c (.int 48271)) (E.bin D.mul (E.c (.int 69621)) (E.bin D.add (E.at (P.var 7)) (E.at (P.var 4)))))) E.nil)) (E.c (.int 2147483647))) (G.name 8)) (S.seq (S.append (P.var 6) (E.bin D.mod (E.args D.int_ (E.cons (E.bin D.mul (E.bin D.mul (E.at (P.var 8)) (E.at (P.var 8))) (E.c (.int 16807))) E.nil)) (E.c (.int 2147483629)))) S.nil))
def b_law_numbers_2 : Sv := (S.seq (S.append (P.var 6) (E.bin D.mod (E.args D.int_ (E.cons (E.at (P.var 5)) E.nil)) (E.c (.int 100)))) (S.seq (S.asg (E.bin D.fdiv (E.at (P.var 5)) (E.c (.int 100))) (G.name 5)) S.nil))
def g_law_numbers : Sv := (S.seq (S.asg (E.c (.int 0)) (G.name 3)) (S.seq (S.asg (E.c (.int 0)) (G.name 4)) (S.seq (S.ite (E.bin D.lt (E.at (P.var 1)) (E.args D.len (E.cons (E.at (P.var 0)) E.nil))) (S.seq (S.asg (E.bin D.idx (E.at (P.var 0)) (E.at (P.var 1))) (G.name 3)) S.nil) (S.seq (S.ite (E.and (E.bin D.gt (E.args D.len (E.cons (E.at (P.var 0)) E.nil)) (E.c (.int 0))) (E.bin D.lt (E.args D.abs (E.cons (E.bin D.idx (E.at (P.var 0)) (E.bin D.mod (E.args D.int_ (E.cons (E.at (P.var 1)) E.nil)) (E.args D.len (E.cons (E.at (P.var 0)) E.nil)))) E.nil)) (E.bin D.pow (E.c (.int 10)) (E.c (.int 18))))) (S.seq (S.asg (E.bin D.idx (E.at (P.var 0)) (E.bin D.mod (E.args D.int_ (E.cons (E.at (P.var 1)) E.nil)) (E.args D.len (E.cons (E.at (P.var 0)) E.nil)))) (G.name 3)) (S.seq (S.asg (E.bin D.mul (E.c (.int 60)) (E.at (P.var 1))) (G.name 4)) S.nil)) S.nil) S.nil)) (S.seq (S.asg (E.bin D.add (E.args D.abs (E.cons (E.at (P.var 3)) E.nil)) (E.args D.int_ (E.cons (E.bin D.lt (E.at (P.var 3)) (E.c (.int 0))) E.nil))) (G.name 5)) (S.seq (S.asg (E.args D.mkl E.nil) (G.name 6)) (S.seq (S.ite (E.bin D.lt (E.at (P.var 5)) (E.bin D.pow (E.c (.int 10)) (E.c (.int 18)))) (S.seq (S.for_ (I.range1 (E.cons (E.at (P.var 2)) E.nil)) (G.name 7) b_law_numbers_1) (S.seq (S.ret (E.tk (P.var 6))) S.nil)) S.nil) (S.seq (S.for_ (I.range1 (E.cons (E.at (P.var 2)) E.nil)) (G.name 7) b_law_numbers_2) (S.seq (S.ret (E.tk (P.var 6))) S.nil))))))))
def c_law_numbers : Fc := ⟨3, [], runF [] 9 g_law_numbers⟩
theorem sc_law_numbers : FnScope N_law_numbers ["script", "at", "many"] (defScope st_law_numbers) := ⟨rfl, rfl, rfl, nd_law_numbers, rfl, by decide +kernel, by decide +kernel⟩
theorem ok_law_numbers (Fx : FunD K "_law_numbers" "_law_numbers" (defArgs st_law_numbers) (defBody st_law_numbers) (defScope st_law_numbers) [] [] f fd) (gx : mg "_law_numbers" = some (.ref f)) (hB : ∀ x ∈ frees, mg x = none) : Cal Pg w K mg base cf 1 "_law_numbers" c_law_numbers [] := by
  refine ⟨f, fd, ["script", "at", "many"], [], fn_ok (ms := []) Fx sc_law_numbers (by decide) (fun fx cdv A outer s H E hr hfx => ?_), gx, Fx.kp, Fx.bindsN fun _ _ _ _ _ _ us hl => match us, hl with | [_, _, _], _ => rfl, .nil⟩
  have tk := takes_of (X := cxOf (L2.CX Pg w) Pg w K mg base N_law_numbers "_law_numbers" (defScope st_law_numbers) f cdv A outer s H E) rfl rfl rfl rfl
  exact (css_cons (by exact (cs_asg ce_int (cg_name (nofix hfx (by decide)) nd_law_numbers)))
  (css_cons (by exact (cs_asg ce_int (cg_name (nofix hfx (by decide)) nd_law_numbers)))
  (css_cons (by exact (cs_ite (And.right (cb_lt (ce_at cp_var) (ce_callB opn_len rfl (hB "len" (by decide)) boot_len (ca_cons (ce_at cp_var) ca_nil)))) (css_cons (by exact (cs_asg (ce_ix hr.units (ce_at cp_var) (ce_at cp_var)) (cg_name (nofix hfx (by decide)) nd_law_numbers)))
  css_nil) (css_cons (by exact (cs_ite (ct_w (cw_and (And.right (cb_gt (ce_callB opn_len rfl (hB "len" (by decide)) boot_len (ca_cons (ce_at cp_var) ca_nil)) ce_int)) (cw_and1 (And.right (cb_lt (ce_callB opn_abs rfl (hB "abs" (by decide)) boot_abs (ca_cons (ce_ix hr.units (ce_at cp_var) (ce_mod (ce_callTy opn_int rfl (hB "int" (by decide)) boot_int (ca_cons (ce_at cp_var) ca_nil)) (ce_callB opn_len rfl (hB "len" (by decide)) boot_len (ca_cons (ce_at cp_var) ca_nil)))) ca_nil)) (ce_pow ce_int ce_int)))))) (css_cons (by exact (cs_asg (ce_ix hr.units (ce_at cp_var) (ce_mod (ce_callTy opn_int rfl (hB "int" (by decide)) boot_int (ca_cons (ce_at cp_var) ca_nil)) (ce_callB opn_len rfl (hB "len" (by decide)) boot_len (ca_cons (ce_at cp_var) ca_nil)))) (cg_name (nofix hfx (by decide)) nd_law_numbers)))
  (css_cons (by exact (cs_asg (ce_mul ce_int (ce_at cp_var)) (cg_name (nofix hfx (by decide)) nd_law_numbers)))
  css_nil)) css_nil))
  css_nil)))
  (css_cons (by exact (cs_asg (ce_add (ce_callB opn_abs rfl (hB "abs" (by decide)) boot_abs (ca_cons (ce_at cp_var) ca_nil)) (ce_callTy opn_int rfl (hB "int" (by decide)) boot_int (ca_cons (And.left (cb_lt (ce_at cp_var) ce_int)) ca_nil))) (cg_name (nofix hfx (by decide)) nd_law_numbers)))
  (css_cons (by exact (cs_asg (ce_lst ca_nil) (cg_name (nofix hfx (by decide)) nd_law_numbers)))
  (css_cons (by exact (cs_ite (And.right (cb_lt (ce_at cp_var) (ce_pow ce_int ce_int))) (css_cons (by exact (cs_for (passes_of rfl) rfl (ci_range1 rfl (hB "range" (by decide)) (ca_cons (ce_at cp_var) ca_nil)) (cg_name (nofix hfx (by decide)) nd_law_numbers) (css_cons (by exact (cs_asg (ce_mod (ce_callTy opn_int rfl (hB "int" (by decide)) boot_int (ca_cons (ce_mul (ce_at cp_var) (ce_add ce_int (ce_mul ce_int (ce_add (ce_at cp_var) (ce_at cp_var))))) ca_nil)) ce_int) (cg_name (nofix hfx (by decide)) nd_law_numbers)))
  (css_cons (by exact (cs_lm1 PySem.F.slot_list_append PySem.F.type_list_append mt_append lm_append cp_var (ce_mod (ce_callTy opn_int rfl (hB "int" (by decide)) boot_int (ca_cons (ce_mul (ce_mul (ce_at cp_var) (ce_at cp_var)) ce_int) ca_nil)) ce_int)))
  css_nil))))
  (css_cons (by exact (cs_ret (ce_tk cp_var)))
  css_nil)) css_nil))
  (css_cons (by exact (cs_for (passes_of rfl) rfl (ci_range1 rfl (hB "range" (by decide)) (ca_cons (ce_at cp_var) ca_nil)) (cg_name (nofix hfx (by decide)) nd_law_numbers) (css_cons (by exact (cs_lm1 PySem.F.slot_list_append PySem.F.type_list_append mt_append lm_append cp_var (ce_mod (ce_callTy opn_int rfl (hB "int" (by decide)) boot_int (ca_cons (ce_at cp_var) ca_nil)) ce_int)))
  (css_cons (by exact (cs_asg (ce_fdiv (ce_at cp_var) ce_int) (cg_name (nofix hfx (by decide)) nd_law_numbers)))
  css_nil))))
  (css_cons (by exact (cs_ret (ce_tk cp_var)))
  css_nil))))))))
abbrev st_law_leaf : Stmt := top 6
def N_law_leaf : List Str := ["told", "due"]
theorem nd_law_leaf : N_law_leaf.Nodup := by decide +kernel
def g_law_leaf : Sv := (S.seq (S.ite (E.bin D.isN (E.at (P.var 1)) (E.c .non)) (S.seq (S.ret (E.bin D.isN (E.at (P.var 0)) (E.c .non))) S.nil) S.nil) (S.seq (S.ite (E.un D.tru (E.isi "bool" (E.at (P.var 1)))) (S.seq (S.ret (E.and (E.isi "bool" (E.at (P.var 0))) (E.bin D.eq (E.at (P.var 0)) (E.at (P.var 1))))) S.nil) S.nil) (S.seq (S.ite (E.un D.tru (E.isi "int" (E.at (P.var 1)))) (S.seq (S.ret (E.and (E.isi "int" (E.at (P.var 0))) (E.and (E.un D.not (E.isi "bool" (E.at (P.var 0)))) (E.bin D.eq (E.at (P.var 0)) (E.at (P.var 1)))))) S.nil) S.nil) (S.seq (S.ret (E.and (E.isi "str" (E.at (P.var 0))) (E.bin D.eq (E.at (P.var 0)) (E.at (P.var 1))))) S.nil))))
def c_law_leaf : Fc := ⟨2, [], runF [] 2 g_law_leaf⟩
theorem sc_law_leaf : FnScope N_law_leaf ["told", "due"] (defScope st_law_leaf) := ⟨rfl, rfl, rfl, nd_law_leaf, rfl, by decide +kernel, by decide +kernel⟩
theorem ok_law_leaf (Fx : FunD K "_law_leaf" "_law_leaf" (defArgs st_law_leaf) (defBody st_law_leaf) (defScope st_law_leaf) [] [] f fd) (gx : mg "_law_leaf" = some (.ref f)) (hB : ∀ x ∈ frees, mg x = none) : Cal Pg w K mg base cf 1 "_law_leaf" c_law_leaf [] := by
  refine ⟨f, fd, ["told", "due"], [], fn_ok (ms := []) Fx sc_law_leaf (by decide) (fun fx cdv A outer s H E hr hfx => ?_), gx, Fx.kp, Fx.bindsN fun _ _ _ _ _ _ us hl => match us, hl with | [_, _], _ => rfl, .nil⟩
  have tk := takes_of (X := cxOf (L2.CX Pg w) Pg w K mg base N_law_leaf "_law_leaf" (defScope st_law_leaf) f cdv A outer s H E) rfl rfl rfl rfl
  exact (css_cons (by exact (cs_ite (And.right (cb_is (ce_at cp_var) ce_non)) (css_cons (by exact (cs_ret (And.left (cb_is (ce_at cp_var) ce_non))))
  css_nil) css_nil))
  (css_cons (by exact (cs_ite (ct_truth (ce_isi ask_bool (ce_at cp_var) rfl (hB "isinstance" (by decide)) rfl (hB "bool" (by decide)) boot_bool)) (css_cons (by exact (cs_ret (ce_and (ce_isi ask_bool (ce_at cp_var) rfl (hB "isinstance" (by decide)) rfl (hB "bool" (by decide)) boot_bool) (ce_one (And.left (cb_eq hr.units (ce_at cp_var) (ce_at cp_var)))))))
  css_nil) css_nil))
  (css_cons (by exact (cs_ite (ct_truth (ce_isi ask_int (ce_at cp_var) rfl (hB "isinstance" (by decide)) rfl (hB "int" (by decide)) boot_int)) (css_cons (by exact (cs_ret (ce_and (ce_isi ask_int (ce_at cp_var) rfl (hB "isinstance" (by decide)) rfl (hB "int" (by decide)) boot_int) (ce_and (ce_not (ce_isi ask_bool (ce_at cp_var) rfl (hB "isinstance" (by decide)) rfl (hB "bool" (by decide)) boot_bool)) (ce_one (And.left (cb_eq hr.units (ce_at cp_var) (ce_at cp_var))))))))
  css_nil) css_nil))
  (css_cons (by exact (cs_ret (ce_and (ce_isi ask_str (ce_at cp_var) rfl (hB "isinstance" (by decide)) rfl (hB "str" (by decide)) boot_str) (ce_one (And.left (cb_eq hr.units (ce_at cp_var) (ce_at cp_var)))))))
  css_nil))))
abbrev st_law_word : Stmt := top 7
def N_law_word : List Str := ["draws", "letters", "signs", "size", "manner", "word", "cut", "d"]
theorem nd_law_word : N_law_word.Nodup := by decide +kernel
def g_law_word : Sv := (S.seq (S.asg (E.c (.str "abcdefghijklmnopqrstuvwxyz")) (G.name 1)) (S.seq (S.asg (E.bin D.add (E.at (P.var 1)) (E.c (.str " !\"#$&'()*+,-./0123456789:;<=>?@ABCDEFGHIJKLMNOPQRSTUVWXYZ[\\]^_`{|}~\n"))) (G.name 2)) (S.seq (S.asg (E.bin D.mod (E.args D.int_ (E.cons (E.bin D.idx (E.at (P.var 0)) (E.c (.int 0))) E.nil)) (E.c (.int 11))) (G.name 3)) (S.seq (S.asg (E.bin D.mod (E.args D.int_ (E.cons (E.bin D.idx (E.at (P.var 0)) (E.c (.int 1))) E.nil)) (E.c (.int 4))) (G.name 4)) (S.seq (S.asg (E.ms1 gJoin (E.c (.str "")) (E.lc (I.of (E.sl (E.at (P.var 0)) (E.part (E.c (.int 4))) (E.part (E.bin D.add (E.c (.int 4)) (E.at (P.var 3)))))) [7] (G.name 7) E.yes (E.bin D.idx (E.at (P.var 1)) (E.bin D.mod (E.args D.int_ (E.cons (E.at (P.var 7)) E.nil)) (E.c (.int 26)))))) (G.name 5)) (S.seq (S.ite (E.bin D.eq (E.at (P.var 4)) (E.c (.int 3))) (S.seq (S.asg (E.ms1 gJoin (E.c (.str "")) (E.lc (I.of (E.sl (E.at (P.var 0)) (E.part (E.c (.int 4))) (E.part (E.bin D.add (E.c (.int 4)) (E.at (P.var 3)))))) [7] (G.name 7) E.yes (E.bin D.idx (E.at (P.var 2)) (E.bin D.mod (E.args D.int_ (E.cons (E.at (P.var 7)) E.nil)) (E.args D.len (E.cons (E.at (P.var 2)) E.nil)))))) (G.name 5)) S.nil) S.nil) (S.seq (S.ite (E.bin D.eq (E.at (P.var 4)) (E.c (.int 2))) (S.seq (S.asg (E.bin D.mod (E.args D.int_ (E.cons (E.bin D.idx (E.at (P.var 0)) (E.c (.int 2))) E.nil)) (E.bin D.add (E.at (P.var 3)) (E.c (.int 1)))) (G.name 6)) (S.seq (S.asg (E.bin D.add (E.bin D.add (E.sl (E.at (P.var 5)) E.no (E.part (E.at (P.var 6)))) (E.bin D.idx (E.at (P.var 2)) (E.bin D.mod (E.args D.int_ (E.cons (E.bin D.idx (E.at (P.var 0)) (E.c (.int 3))) E.nil)) (E.args D.len (E.cons (E.at (P.var 2)) E.nil))))) (E.sl (E.at (P.var 5)) (E.part (E.at (P.var 6))) E.no)) (G.name 5)) S.nil)) S.nil) (S.seq (S.ret (E.tk (P.var 5))) S.nil))))))))
def c_law_word : Fc := ⟨1, [], runF [] 8 g_law_word⟩
theorem sc_law_word : FnScope N_law_word ["draws"] (defScope st_law_word) := ⟨rfl, rfl, rfl, nd_law_word, rfl, by decide +kernel, by decide +kernel⟩
theorem ok_law_word (Fx : FunD K "_law_word" "_law_word" (defArgs st_law_word) (defBody st_law_word) (defScope st_law_word) [] [] f fd) (gx : mg "_law_word" = some (.ref f)) (hB : ∀ x ∈ frees, mg x = none) : Cal Pg w K mg base cf 1 "_law_word" c_law_word [] := by
  refine ⟨f, fd, ["draws"], [], fn_ok (ms := []) Fx sc_law_word (by decide) (fun fx cdv A outer s H E hr hfx => ?_), gx, Fx.kp, Fx.bindsN fun _ _ _ _ _ _ us hl => match us, hl with | [_], _ => rfl, .nil⟩
  have tk := takes_of (X := cxOf (L2.CX Pg w) Pg w K mg base N_law_word "_law_word" (defScope st_law_word) f cdv A outer s H E) rfl rfl rfl rfl
  exact (css_cons (by exact (cs_asg ce_str (cg_name (nofix hfx (by decide)) nd_law_word)))
  (css_cons (by exact (cs_asg (ce_add (ce_at cp_var) ce_str) (cg_name (nofix hfx (by decide)) nd_law_word)))
  (css_cons (by exact (cs_asg (ce_mod (ce_callTy opn_int rfl (hB "int" (by decide)) boot_int (ca_cons (ce_ix hr.units (ce_at cp_var) ce_int) ca_nil)) ce_int) (cg_name (nofix hfx (by decide)) nd_law_word)))
  (css_cons (by exact (cs_asg (ce_mod (ce_callTy opn_int rfl (hB "int" (by decide)) boot_int (ca_cons (ce_ix hr.units (ce_at cp_var) ce_int) ca_nil)) ce_int) (cg_name (nofix hfx (by decide)) nd_law_word)))
  (css_cons (by exact (cs_asg (ce_join ce_str (ce_lc (own := [("d", 7)]) rfl (nofixL hfx (by decide)) (by decide) rfl nd_law_word (ci_of (ce_sl (ce_at cp_var) (co_some ce_int) (co_some (ce_add ce_int (ce_at cp_var))))) (blkOk_by (N := N_law_word) (sc := defScope st_law_word) (by decide +kernel)) (pu_bin (pu_at pu_var) (pu_bin (pu_args (pu_cons (pu_at pu_var) pu_nil)) pu_c)) pure_yes (fun _ _ _ _ _ => (cg_name (nofix hfx (by decide)) nd_law_word)) (fun _ _ _ _ _ => cts_nil) (fun _ _ _ _ _ => (ce_ix hr.units (ce_at cp_var) (ce_mod (ce_callTy opn_int rfl (hB "int" (by decide)) boot_int (ca_cons (ce_at cp_var) ca_nil)) ce_int))))) (cg_name (nofix hfx (by decide)) nd_law_word)))
  (css_cons (by exact (cs_ite (And.right (cb_eq hr.units (ce_at cp_var) ce_int)) (css_cons (by exact (cs_asg (ce_join ce_str (ce_lc (own := [("d", 7)]) rfl (nofixL hfx (by decide)) (by decide) rfl nd_law_word (ci_of (ce_sl (ce_at cp_var) (co_some ce_int) (co_some (ce_add ce_int (ce_at cp_var))))) (blkOk_by (N := N_law_word) (sc := defScope st_law_word) (by decide +kernel)) (pu_bin (pu_at pu_var) (pu_bin (pu_args (pu_cons (pu_at pu_var) pu_nil)) (pu_args (pu_cons (pu_at pu_var) pu_nil)))) pure_yes (fun _ _ _ _ _ => (cg_name (nofix hfx (by decide)) nd_law_word)) (fun _ _ _ _ _ => cts_nil) (fun _ _ _ _ _ => (ce_ix hr.units (ce_at cp_var) (ce_mod (ce_callTy opn_int rfl (hB "int" (by decide)) boot_int (ca_cons (ce_at cp_var) ca_nil)) (ce_callB opn_len rfl (hB "len" (by decide)) boot_len (ca_cons (ce_at cp_var) ca_nil))))))) (cg_name (nofix hfx (by decide)) nd_law_word)))
  css_nil) css_nil))
  (css_cons (by exact (cs_ite (And.right (cb_eq hr.units (ce_at cp_var) ce_int)) (css_cons (by exact (cs_asg (ce_mod (ce_callTy opn_int rfl (hB "int" (by decide)) boot_int (ca_cons (ce_ix hr.units (ce_at cp_var) ce_int) ca_nil)) (ce_add (ce_at cp_var) ce_int)) (cg_name (nofix hfx (by decide)) nd_law_word)))
  (css_cons (by exact (cs_asg (ce_add (ce_add (ce_sl (ce_at cp_var) co_none (co_some (ce_at cp_var))) (ce_ix hr.units (ce_at cp_var) (ce_mod (ce_callTy opn_int rfl (hB "int" (by decide)) boot_int (ca_cons (ce_ix hr.units (ce_at cp_var) ce_int) ca_nil)) (ce_callB opn_len rfl (hB "len" (by decide)) boot_len (ca_cons (ce_at cp_var) ca_nil))))) (ce_sl (ce_at cp_var) (co_some (ce_at cp_var)) co_none)) (cg_name (nofix hfx (by decide)) nd_law_word)))
  css_nil)) css_nil))
  (css_cons (by exact (cs_ret (ce_tk cp_var)))
  css_nil))))))))
abbrev st_law_due : Stmt := top 8
def N_law_due : List Str := ["word", "letters", "sign"]
theorem nd_law_due : N_law_due.Nodup := by decide +kernel
def g_law_due : Sv := (S.seq (S.asg (E.c (.str "abcdefghijklmnopqrstuvwxyz")) (G.name 1)) (S.seq (S.ret (E.and (E.chain (D.cmp (fun i j => decide (i < j))) (D.cmp (fun i j => decide (i < j))) (E.c (.int 0)) (E.args D.len (E.cons (E.at (P.var 0)) E.nil)) (E.c (.int 9))) (E.bin D.eq (E.args D.len (E.cons (E.lc (I.of (E.tk (P.var 0))) [2] (G.name 2) (E.bin D.in_ (E.at (P.var 2)) (E.at (P.var 1))) (E.at (P.var 2))) E.nil)) (E.args D.len (E.cons (E.at (P.var 0)) E.nil))))) S.nil))
def c_law_due : Fc := ⟨1, [], runF [] 3 g_law_due⟩
theorem sc_law_due : FnScope N_law_due ["word"] (defScope st_law_due) := ⟨rfl, rfl, rfl, nd_law_due, rfl, by decide +kernel, by decide +kernel⟩
theorem ok_law_due (Fx : FunD K "_law_due" "_law_due" (defArgs st_law_due) (defBody st_law_due) (defScope st_law_due) [] [] f fd) (gx : mg "_law_due" = some (.ref f)) (hB : ∀ x ∈ frees, mg x = none) : Cal Pg w K mg base cf 1 "_law_due" c_law_due [] := by
  refine ⟨f, fd, ["word"], [], fn_ok (ms := []) Fx sc_law_due (by decide) (fun fx cdv A outer s H E hr hfx => ?_), gx, Fx.kp, Fx.bindsN fun _ _ _ _ _ _ us hl => match us, hl with | [_], _ => rfl, .nil⟩
  have tk := takes_of (X := cxOf (L2.CX Pg w) Pg w K mg base N_law_due "_law_due" (defScope st_law_due) f cdv A outer s H E) rfl rfl rfl rfl
  exact (css_cons (by exact (cs_asg ce_str (cg_name (nofix hfx (by decide)) nd_law_due)))
  (css_cons (by exact (cs_ret (ce_and (And.left (chain_both op_lt op_lt ce_int (ce_callB opn_len rfl (hB "len" (by decide)) boot_len (ca_cons (ce_at cp_var) ca_nil)) ce_int rfl)) (ce_one (And.left (cb_eq hr.units (ce_callB opn_len rfl (hB "len" (by decide)) boot_len (ca_cons (ce_lc (own := [("sign", 2)]) rfl (nofixL hfx (by decide)) (by decide) rfl nd_law_due (ci_of (ce_tk cp_var)) (blkOk_by (N := N_law_due) (sc := defScope st_law_due) (by decide +kernel)) (pu_at pu_var) (pu_bin (pu_at pu_var) (pu_at pu_var)) (fun _ _ _ _ _ => (cg_name (nofix hfx (by decide)) nd_law_due)) (fun _ _ _ _ _ => (cts_one (And.right (cb_in hr.units (ce_at cp_var) (ce_at cp_var))) (pu_bin (pu_at pu_var) (pu_at pu_var)))) (fun _ _ _ _ _ => (ce_at cp_var))) ca_nil)) (ce_callB opn_len rfl (hB "len" (by decide)) boot_len (ca_cons (ce_at cp_var) ca_nil))))))))
  css_nil))
abbrev st_law : Stmt := top 9
def N_law : List Str := ["script", "letter", "words", "at", "word", "bounds", "told", "due"]
theorem nd_law : N_law.Nodup := by decide +kernel
def b_law_1 : Sv := (S.seq (S.append (P.var 2) (E.call c_law_word [] (E.cons (E.call c_law_numbers [] (E.cons (E.tk (P.var 0)) (E.cons (E.tk (P.var 3)) (E.cons (E.c (.int 14)) E.nil)))) E.nil))) S.nil)
def b_law_2 : Sv := (S.seq (S.ite (E.un D.not (E.un D.tru (E.call c_law_leaf [] (E.cons (E.call c_is_name [] (E.cons (E.tk (P.var 4)) E.nil)) (E.cons (E.call c_law_due [] (E.cons (E.tk (P.var 4)) E.nil)) E.nil))))) (S.seq (S.ret (E.c (.bl false))) S.nil) S.nil) S.nil)
def b_law_3 : Sv := (S.seq (S.ite (E.un D.not (E.un D.tru (E.call c_law_leaf [] (E.cons (E.tk (P.var 6)) (E.cons (E.tk (P.var 7)) E.nil))))) (S.seq (S.ret (E.c (.bl false))) S.nil) S.nil) S.nil)
def g_law : Sv := (S.seq (S.asg (E.bin D.idx (E.c (.str "abcdefghijklmnopqrstuvwxyz")) (E.bin D.mod (E.args D.int_ (E.cons (E.bin D.idx (E.call c_law_numbers [] (E.cons (E.tk (P.var 0)) (E.cons (E.c (.int 0)) (E.cons (E.c (.int 1)) E.nil)))) (E.c (.int 0))) E.nil)) (E.c (.int 26)))) (G.name 1)) (S.seq (S.asg (E.args D.mkl (E.cons (E.c (.str "")) (E.cons (E.tk (P.var 1)) (E.cons (E.bin D.rep (E.at (P.var 1)) (E.c (.int 8))) (E.cons (E.bin D.rep (E.at (P.var 1)) (E.c (.int 9))) E.nil))))) (G.name 2)) (S.seq (S.for_ (I.range1 (E.cons (E.c (.int 20)) E.nil)) (G.name 3) b_law_1) (S.seq (S.for_ (I.of (E.tk (P.var 2))) (G.name 4) b_law_2) (S.seq (S.asg (E.args D.mkl (E.cons (E.c (.int 5)) (E.cons (E.c (.int 4)) (E.cons (E.c (.int 5)) (E.cons (E.c (.int 10)) (E.cons (E.c (.int 60)) (E.cons (E.c (.int 8)) E.nil))))))) (G.name 5)) (S.seq (S.for_ (I.zip (E.cons (E.tk (P.var 5)) (E.cons (E.args D.mkl (E.cons (E.c (.int 5)) (E.cons (E.c (.int 4)) (E.cons (E.c (.int 5)) (E.cons (E.c (.int 10)) (E.cons (E.c (.int 60)) (E.cons (E.c (.int 8)) E.nil))))))) E.nil))) (G.tup [(G.name 6), (G.name 7)]) b_law_3) (S.seq (S.ret (E.c (.bl true))) S.nil)))))))
def c_law : Fc := ⟨1, [], runF [] 8 g_law⟩
theorem sc_law : FnScope N_law ["script"] (defScope st_law) := ⟨rfl, rfl, rfl, nd_law, rfl, by decide +kernel, by decide +kernel⟩
theorem ok_law (Fx : FunD K "law" "law" (defArgs st_law) (defBody st_law) (defScope st_law) [] [] f fd) (hB : ∀ x ∈ frees, mg x = none) (cal__law_numbers : Cal Pg w K mg base cf 1 "_law_numbers" c_law_numbers []) (cal__law_word : Cal Pg w K mg base cf 1 "_law_word" c_law_word []) (cal__law_leaf : Cal Pg w K mg base cf 1 "_law_leaf" c_law_leaf []) (cal_is_name : Cal Pg w K mg base cf 1 "is_name" c_is_name []) (cal__law_due : Cal Pg w K mg base cf 1 "_law_due" c_law_due []) (cv_Bounds_LOCKS : CVN K mg "Bounds" "LOCKS" (.int 5)) (cv_Bounds_HOOKS : CVN K mg "Bounds" "HOOKS" (.int 4)) (cv_Bounds_ROUTINES : CVN K mg "Bounds" "ROUTINES" (.int 5)) (cv_Bounds_STATEMENTS : CVN K mg "Bounds" "STATEMENTS" (.int 10)) (cv_Bounds_LENGTH : CVN K mg "Bounds" "LENGTH" (.int 60)) (cv_Bounds_LETTERS : CVN K mg "Bounds" "LETTERS" (.int 8)) : FnOk Pg w K mg base (L2.CX Pg w) 2 f fd ["script"] (spM K cf c_law) := by
  refine fn_ok (ms := []) Fx sc_law (by decide) (fun fx cdv A outer s H E hr hfx => ?_)
  have tk := takes_of (X := cxOf (L2.CX Pg w) Pg w K mg base N_law "law" (defScope st_law) f cdv A outer s H E) rfl rfl rfl rfl
  exact (css_cons (by exact (cs_asg (ce_ix hr.units ce_str (ce_mod (ce_callTy opn_int rfl (hB "int" (by decide)) boot_int (ca_cons (ce_ix hr.units (ce_callN cal__law_numbers hr (by decide) rfl tk (ca_cons (ce_tk cp_var) (ca_cons ce_int (ca_cons ce_int ca_nil)))) ce_int) ca_nil)) ce_int)) (cg_name (nofix hfx (by decide)) nd_law)))
  (css_cons (by exact (cs_asg (ce_lst (ca_cons ce_str (ca_cons (ce_tk cp_var) (ca_cons (ce_rep (ce_at cp_var) ce_int) (ca_cons (ce_rep (ce_at cp_var) ce_int) ca_nil))))) (cg_name (nofix hfx (by decide)) nd_law)))
  (css_cons (by exact (cs_for (passes_of rfl) rfl (ci_range1 rfl (hB "range" (by decide)) (ca_cons ce_int ca_nil)) (cg_name (nofix hfx (by decide)) nd_law) (css_cons (by exact (cs_lm1 PySem.F.slot_list_append PySem.F.type_list_append mt_append lm_append cp_var (ce_callN cal__law_word hr (by decide) rfl tk (ca_cons (ce_callN cal__law_numbers hr (by decide) rfl tk (ca_cons (ce_tk cp_var) (ca_cons (ce_tk cp_var) (ca_cons ce_int ca_nil)))) ca_nil))))
  css_nil)))
  (css_cons (by exact (cs_for (passes_of rfl) rfl (ci_of (ce_tk cp_var)) (cg_name (nofix hfx (by decide)) nd_law) (css_cons (by exact (cs_ite (ct_not (ct_truth (ce_callN cal__law_leaf hr (by decide) rfl tk (ca_cons (ce_callN cal_is_name hr (by decide) rfl tk (ca_cons (ce_tk cp_var) ca_nil)) (ca_cons (ce_callN cal__law_due hr (by decide) rfl tk (ca_cons (ce_tk cp_var) ca_nil)) ca_nil))))) (css_cons (by exact (cs_ret ce_bl))
  css_nil) css_nil))
  css_nil)))
  (css_cons (by exact (cs_asg (ce_lst (ca_cons (ce_cvalN rfl rfl cv_Bounds_LOCKS) (ca_cons (ce_cvalN rfl rfl cv_Bounds_HOOKS) (ca_cons (ce_cvalN rfl rfl cv_Bounds_ROUTINES) (ca_cons (ce_cvalN rfl rfl cv_Bounds_STATEMENTS) (ca_cons (ce_cvalN rfl rfl cv_Bounds_LENGTH) (ca_cons (ce_cvalN rfl rfl cv_Bounds_LETTERS) ca_nil))))))) (cg_name (nofix hfx (by decide)) nd_law)))
  (css_cons (by exact (cs_for (passes_of rfl) rfl (ci_zip rfl (hB "zip" (by decide)) (ca_cons (ce_tk cp_var) (ca_cons (ce_lst (ca_cons ce_int (ca_cons ce_int (ca_cons ce_int (ca_cons ce_int (ca_cons ce_int (ca_cons ce_int ca_nil))))))) ca_nil))) (cg_tup rfl (cgs_cons (cg_name (nofix hfx (by decide)) nd_law) (cgs_cons (cg_name (nofix hfx (by decide)) nd_law) cgs_nil))) (css_cons (by exact (cs_ite (ct_not (ct_truth (ce_callN cal__law_leaf hr (by decide) rfl tk (ca_cons (ce_tk cp_var) (ca_cons (ce_tk cp_var) ca_nil))))) (css_cons (by exact (cs_ret ce_bl))
  css_nil) css_nil))
  css_nil)))
  (css_cons (by exact (cs_ret ce_bl))
  css_nil)))))))
end
def dd_is_name : He.DefD := ⟨("is_name", none), "is_name", "is_name", defArgs st_is_name, defBody st_is_name, defScope st_is_name, [], []⟩
def dd_law_numbers : He.DefD := ⟨("_law_numbers", none), "_law_numbers", "_law_numbers", defArgs st_law_numbers, defBody st_law_numbers, defScope st_law_numbers, [], []⟩
def dd_law_leaf : He.DefD := ⟨("_law_leaf", none), "_law_leaf", "_law_leaf", defArgs st_law_leaf, defBody st_law_leaf, defScope st_law_leaf, [], []⟩
def dd_law_word : He.DefD := ⟨("_law_word", none), "_law_word", "_law_word", defArgs st_law_word, defBody st_law_word, defScope st_law_word, [], []⟩
def dd_law_due : He.DefD := ⟨("_law_due", none), "_law_due", "_law_due", defArgs st_law_due, defBody st_law_due, defScope st_law_due, [], []⟩
def dd_law : He.DefD := ⟨("law", none), "law", "law", defArgs st_law, defBody st_law, defScope st_law, [], []⟩
def fn : List He.DefD := [dd_is_name, dd_law_numbers, dd_law_leaf, dd_law_word, dd_law_due, dd_law]
def fa : List He.Fa := [.glo "is_name", .glo "_law_numbers", .glo "_law_leaf", .glo "_law_word", .glo "_law_due", .glo "law", .free "abs", .free "all", .free "bool", .free "int", .free "isinstance", .free "len", .free "range", .free "str", .free "zip", .str "ALPHABET" "abcdefghijklmnopqrstuvwxyz", .glo "Bounds"]
def ex (K : PySem.W.Frag) : Bool := (crdB K "Bounds" && (cvlB K "Bounds" "LOCKS" (.int 5) && (cvlB K "Bounds" "HOOKS" (.int 4) && (cvlB K "Bounds" "ROUTINES" (.int 5) && (cvlB K "Bounds" "STATEMENTS" (.int 10) && (cvlB K "Bounds" "LENGTH" (.int 60) && (cvlB K "Bounds" "LETTERS" (.int 8) && true)))))))
abbrev R : PySem.W.OpenRow := PySem.W.OpenLaw.row PySem.Challenge.rw_heldcalls_k01_names
abbrev hk : PySem.W.Hook := Vl.hookV 4 fa fn [] ex
def ob (s : PySem.W.SharedT) : He.AlT × Bool := Vl.obsV 4 fa fn [] ex (HandSHeadRun.getT s)
theorem ob_eq (s : PySem.W.SharedT) : ob s = hk.obs s.abs := Vl.obsV_eq (HandSHeadRun.getT_eq s)
theorem run (w : World) : HandSHeadRun.RunEq R (PySem.W.view R.prog [9]) hk ob 4000 ["ALPHABET", "Bounds", "is_name", "_law_numbers", "_law_leaf", "_law_word", "_law_due"] w := by
  intro os
  kernel_rfl
theorem facts {Pg : Program} {w : World} {h : Heap} {mg : Str → Option Value} {f : Addr} (Y : hk.says w h) (G : h.Ns mainGlobals mg) (hfa : mg ("law" : Str) = some (.ref f)) :
    ∃ (K : PySem.W.Frag) (fd : FuncData) (cf : Str → Addr) (c : Fc), K.In h ∧ (∀ (s : Shared) (u : Value), BindsTo s fd ⟨[u], []⟩ [("script", u)]) ∧ c = c_law ∧ ∀ base : Heap, K.In base → base.Ns mainGlobals mg → FnOk Pg w K mg base (L2.CX Pg w) 2 f fd ["script"] (spM K cf c) := by
  obtain ⟨K, X, c⟩ := Y
  have cd := c.t.d
  have ce := c.more
  unfold ex at ce
  obtain ⟨e0, ce⟩ := He.ba ce
  obtain ⟨e1, ce⟩ := He.ba ce
  obtain ⟨e2, ce⟩ := He.ba ce
  obtain ⟨e3, ce⟩ := He.ba ce
  obtain ⟨e4, ce⟩ := He.ba ce
  obtain ⟨e5, ce⟩ := He.ba ce
  obtain ⟨e6, ce⟩ := He.ba ce
  have hB : ∀ x ∈ frees, mg x = none := fun x hx => He.free_ok X G (cd.facts (f := .free x) (by
    simp only [frees, List.mem_cons, List.not_mem_nil, or_false] at hx
    rcases hx with rfl | rfl | rfl | rfl | rfl | rfl | rfl | rfl | rfl <;> simp [fa]))
  obtain ⟨fd_is_name, F_is_name⟩ := cd.defs (d := dd_is_name) (by simp [fn])
  have m_is_name := He.glo_ok X G (cd.facts (f := .glo "is_name") (by simp [fa]))
  obtain ⟨fd_law_numbers, F_law_numbers⟩ := cd.defs (d := dd_law_numbers) (by simp [fn])
  have m_law_numbers := He.glo_ok X G (cd.facts (f := .glo "_law_numbers") (by simp [fa]))
  obtain ⟨fd_law_leaf, F_law_leaf⟩ := cd.defs (d := dd_law_leaf) (by simp [fn])
  have m_law_leaf := He.glo_ok X G (cd.facts (f := .glo "_law_leaf") (by simp [fa]))
  obtain ⟨fd_law_word, F_law_word⟩ := cd.defs (d := dd_law_word) (by simp [fn])
  have m_law_word := He.glo_ok X G (cd.facts (f := .glo "_law_word") (by simp [fa]))
  obtain ⟨fd_law_due, F_law_due⟩ := cd.defs (d := dd_law_due) (by simp [fn])
  have m_law_due := He.glo_ok X G (cd.facts (f := .glo "_law_due") (by simp [fa]))
  obtain ⟨fd_law, F_law⟩ := cd.defs (d := dd_law) (by simp [fn])
  have m_law := He.glo_ok X G (cd.facts (f := .glo "law") (by simp [fa]))
  cases hfa.symm.trans m_law
  have b := FunD.bindsA (ps := ["script"]) F_law fun _ _ _ _ _ _ us hl => match us, hl with | [_], _ => rfl
  have gs_ALPHABET := He.str_ok X G (cd.facts (f := .str "ALPHABET" "abcdefghijklmnopqrstuvwxyz") (by simp [fa]))
  have g_Bounds := cd.facts (f := .glo "Bounds") (by simp [fa])
  have cv_Bounds_LOCKS : CVN K mg "Bounds" "LOCKS" (.int 5) := cvn_ok X G g_Bounds e0 e1 rfl
  have cv_Bounds_HOOKS : CVN K mg "Bounds" "HOOKS" (.int 4) := cvn_ok X G g_Bounds e0 e2 rfl
  have cv_Bounds_ROUTINES : CVN K mg "Bounds" "ROUTINES" (.int 5) := cvn_ok X G g_Bounds e0 e3 rfl
  have cv_Bounds_STATEMENTS : CVN K mg "Bounds" "STATEMENTS" (.int 10) := cvn_ok X G g_Bounds e0 e4 rfl
  have cv_Bounds_LENGTH : CVN K mg "Bounds" "LENGTH" (.int 60) := cvn_ok X G g_Bounds e0 e5 rfl
  have cv_Bounds_LETTERS : CVN K mg "Bounds" "LETTERS" (.int 8) := cvn_ok X G g_Bounds e0 e6 rfl
  refine ⟨K, fd_law, He.ga K, c_law, X, fun s v => b s [v] rfl, rfl, fun base _ _ => ?_⟩
  have cal__law_numbers := ok_law_numbers (Pg := Pg) (w := w) (base := base) (cf := He.ga K) F_law_numbers m_law_numbers hB 
  have cal__law_word := ok_law_word (Pg := Pg) (w := w) (base := base) (cf := He.ga K) F_law_word m_law_word hB 
  have cal__law_leaf := ok_law_leaf (Pg := Pg) (w := w) (base := base) (cf := He.ga K) F_law_leaf m_law_leaf hB 
  have cal_is_name := ok_is_name (Pg := Pg) (w := w) (base := base) (cf := He.ga K) F_is_name m_is_name hB cv_Bounds_LETTERS gs_ALPHABET
  have cal__law_due := ok_law_due (Pg := Pg) (w := w) (base := base) (cf := He.ga K) F_law_due m_law_due hB 
  exact ok_law F_law hB cal__law_numbers cal__law_word cal__law_leaf cal_is_name cal__law_due cv_Bounds_LOCKS cv_Bounds_HOOKS cv_Bounds_ROUTINES cv_Bounds_STATEMENTS cv_Bounds_LENGTH cv_Bounds_LETTERS
abbrev intsD (vs : List Int) : List D := vs.map T.int
theorem ints_c (vs : List Int) : allL isC (intsD vs) = true := by rw [allL_eq, List.all_eq_true]; intro x hx; obtain ⟨i, _, rfl⟩ := List.mem_map.mp hx; rfl
theorem ints_b (vs : List Int) : allL notB (intsD vs) = true := allC_notB (ints_c vs)
theorem ints_mk (f : Mk → Mk) (vs : List Int) : mkL f (intsD vs) = intsD vs := by rw [mkL_eq, List.map_map]; rfl
theorem at_ix {α : Type} {xs : List α} {a : Int} (h0 : 0 ≤ a) (h : a < xs.length) : ∃ v, v ∈ xs ∧ atI xs a = some v := by
  have hl : a.toNat < xs.length := by omega
  refine ⟨xs[a.toNat], List.getElem_mem hl, ?_⟩
  unfold atI ixN
  rw [if_pos h0, if_pos h]
  show xs[a.toNat]? = _
  exact List.getElem?_eq_getElem hl
theorem ints_at {ns : List Int} {a : Int} (h0 : 0 ≤ a) (h : a < ns.length) : ∃ v, atI (intsD ns) a = some (.int v) := by
  obtain ⟨v, hv, e⟩ := at_ix (xs := intsD ns) h0 (by rw [List.length_map]; exact h)
  obtain ⟨i, _, rfl⟩ := List.mem_map.mp hv
  exact ⟨i, e⟩
theorem forL_inv {g : Gv} {body : Sv} {Inv : Nat → Vl.Env → Prop} : ∀ {ds : List D} {j : Nat} {ρ : Vl.Env}, Inv j ρ → (∀ i d ρ, ds[i]? = some d → Inv (j + i) ρ → ∃ ρ1 ρ2, g d ρ = some ρ1 ∧ (body ρ1 = .nx ρ2 ∨ body ρ1 = .ct ρ2) ∧ Inv (j + i + 1) ρ2) → ∃ ρ', forL g body ds ρ = .nx ρ' ∧ Inv (j + ds.length) ρ'
  | [], j, ρ, h, _ => ⟨ρ, rfl, h⟩
  | d :: ds, j, ρ, h, k => by
    obtain ⟨ρ1, ρ2, e1, e2, h2⟩ := k 0 d ρ rfl h
    obtain ⟨ρ', e3, h3⟩ := forL_inv (ds := ds) (j := j + 1) (ρ := ρ2) h2 fun i d ρ hd hi => by
      have := k (i + 1) d ρ hd (by rw [show j + (i + 1) = j + 1 + i by omega]; exact hi)
      rw [show j + (i + 1) + 1 = j + 1 + i + 1 by omega] at this
      exact this
    refine ⟨ρ', ?_, by rw [List.length_cons, show j + (ds.length + 1) = j + 1 + ds.length by omega]; exact h3⟩
    unfold forL
    rw [e1]
    dsimp only
    rcases e2 with e2 | e2 <;> (rw [e2]; exact e3)
theorem range_at {lo : Int} {n i : Nat} {d : D} (h : (rangeD lo n)[i]? = some d) : d = .int (lo + i) ∧ i < n := by
  unfold rangeD at h
  rw [List.getElem?_map] at h
  by_cases hi : i < n
  · rw [List.getElem?_range hi] at h
    cases h; exact ⟨rfl, hi⟩
  · rw [List.getElem?_eq_none (by simpa using hi)] at h; cases h
theorem range_len {lo : Int} {n : Nat} : (rangeD lo n).length = n := by unfold rangeD; simp
theorem ints_snoc (vs : List Int) (v : Int) : intsD vs ++ [T.int v] = intsD (vs ++ [v]) := by show vs.map T.int ++ [T.int v] = (vs ++ [v]).map T.int; rw [List.map_append]; rfl
theorem seq_step {P : SR → Prop} {f g : Sv} {ρ ρ1 : Vl.Env} (h : f ρ = .nx ρ1) (k : P (g ρ1)) : P (S.seq f g ρ) := by unfold S.seq; rw [h]; exact k
theorem numbers_1 (sc at_ : D) (m cell skip : Int) (hm : 0 ≤ m) (hm2 : m ≤ 64) (size : Int) (hs : 0 ≤ size) (hs2 : size < 10 ^ 18) :
    ∃ (vs : List Int) (y7 y8 : Option D), vs.length = m.toNat ∧ S.for_ (I.range1 (E.cons (E.at (P.var 2)) E.nil)) (G.name 7) b_law_numbers_1 [some sc, some at_, some (.int m), some (.int cell), some (.int skip), some (.int size), some (.nd .lst .o () []), none, none] = .nx [some sc, some at_, some (.int m), some (.int cell), some (.int skip), some (.int size), some (.nd .lst .o () (intsD vs)), y7, y8] := by
  have hr : okRg m = true := by unfold okRg; exact decide_eq_true ⟨by omega, by omega⟩
  have loop := forL_inv (g := G.name 7) (body := b_law_numbers_1) (ds := rangeD 0 m.toNat) (j := 0)
    (Inv := fun i ρ => ∃ (vs : List Int) (x7 x8 : Option D), vs.length = i ∧ ρ = [some sc, some at_, some (.int m), some (.int cell), some (.int skip), some (.int size), some (.nd .lst .o () (intsD vs)), x7, x8]) ⟨[], none, none, rfl, rfl⟩ ?_
  · obtain ⟨ρ', e, vs, y7, y8, hl, rfl⟩ := loop
    rw [range_len, Nat.zero_add] at hl
    simp only [List.map_nil] at e
    refine ⟨vs, y7, y8, hl, ?_⟩
    simp [x_for, I.range1, x_cons, x_at, x_nil, b_ok, k_bin1, k_bin2, k_un, k_args, k_cons1, k_cons2, k_and1, k_and0, k_or1, k_or0, k_ite1, k_ite0, k_call, k_ret, k_sif1, k_sif0, k_asg, k_for, k_lm, T.vw, T.mk, hr, t_ok, e]
  · intro i d ρ hd hi
    obtain ⟨vs, y7, y8, hl, rfl⟩ := hi
    obtain ⟨rfl, hin⟩ := range_at hd
    have h1 : -18446744073709551616 < size := by omega
    have h2 : size < 18446744073709551616 := by omega
    have h3 : ∀ x : Int, -18446744073709551616 < x % 2147483647 := fun x => by omega
    have h4 : ∀ x : Int, x % 2147483647 < 18446744073709551616 := fun x => by omega
    have h5 : vs.length < sizeLine := by rw [sizeLine_eq]; omega
    refine ⟨_, _, by simp [x_name]; rfl, .inl (by
      unfold b_law_numbers_1
      simp [x_c, x_at, x_bin, x_args, x_nil, x_cons, x_seq, x_snil, x_asg, x_name, x_lm1, t_ok, b_ok, k_bin1, k_bin2, k_un, k_args, k_cons1, k_cons2, k_and1, k_and0, k_or1, k_or0, k_ite1, k_ite0, k_call, k_ret, k_sif1, k_sif0, k_asg, k_for, k_lm, a_nx, o_some, T.nob, T.vw, T.all, T.mk, D.int_, D.mul, okMul, D.add, D.mod, h1, h2, h3, h4, S.append, getR, getT, gAppend, h5, modS, T.mod, T.kids, T.fz]
      rfl), ?_⟩
    rw [ints_snoc]
    exact ⟨_, _, _, by rw [List.length_append, hl]; rfl, rfl⟩
theorem numbers_2 (sc at_ : D) (m cell skip : Int) (hm : 0 ≤ m) (hm2 : m ≤ 64) (size : Int) :
    ∃ (vs : List Int) (s2 : Int) (y7 y8 : Option D), vs.length = m.toNat ∧ S.for_ (I.range1 (E.cons (E.at (P.var 2)) E.nil)) (G.name 7) b_law_numbers_2 [some sc, some at_, some (.int m), some (.int cell), some (.int skip), some (.int size), some (.nd .lst .o () []), none, none] = .nx [some sc, some at_, some (.int m), some (.int cell), some (.int skip), some (.int s2), some (.nd .lst .o () (intsD vs)), y7, y8] := by
  have hr : okRg m = true := by unfold okRg; exact decide_eq_true ⟨by omega, by omega⟩
  have loop := forL_inv (g := G.name 7) (body := b_law_numbers_2) (ds := rangeD 0 m.toNat) (j := 0)
    (Inv := fun i ρ => ∃ (vs : List Int) (size : Int) (x7 x8 : Option D), vs.length = i ∧ ρ = [some sc, some at_, some (.int m), some (.int cell), some (.int skip), some (.int size), some (.nd .lst .o () (intsD vs)), x7, x8]) ⟨[], size, none, none, rfl, rfl⟩ ?_
  · obtain ⟨ρ', e, vs, size, y7, y8, hl, rfl⟩ := loop
    rw [range_len, Nat.zero_add] at hl
    simp only [List.map_nil] at e
    refine ⟨vs, size, y7, y8, hl, ?_⟩
    simp [x_for, I.range1, x_cons, x_at, x_nil, b_ok, k_bin1, k_bin2, k_un, k_args, k_cons1, k_cons2, k_and1, k_and0, k_or1, k_or0, k_ite1, k_ite0, k_call, k_ret, k_sif1, k_sif0, k_asg, k_for, k_lm, T.vw, T.mk, hr, t_ok, e]
  · intro i d ρ hd hi
    obtain ⟨vs, size, y7, y8, hl, rfl⟩ := hi
    obtain ⟨rfl, hin⟩ := range_at hd
    have h5 : vs.length < sizeLine := by rw [sizeLine_eq]; omega
    refine ⟨_, _, by simp [x_name]; rfl, .inl (by
      unfold b_law_numbers_2
      simp [x_c, x_at, x_bin, x_args, x_nil, x_cons, x_seq, x_snil, x_asg, x_name, x_lm1, t_ok, b_ok, k_bin1, k_bin2, k_un, k_args, k_cons1, k_cons2, k_and1, k_and0, k_or1, k_or0, k_ite1, k_ite0, k_call, k_ret, k_sif1, k_sif0, k_asg, k_for, k_lm, a_nx, o_some, T.nob, T.vw, T.all, T.mk, D.int_, D.mod, D.fdiv, S.append, getR, getT, gAppend, h5, modS, T.mod, T.kids, T.fz]
      rfl), ?_⟩
    rw [ints_snoc]
    exact ⟨_, _, _, _, by rw [List.length_append, hl]; rfl, rfl⟩
theorem numbers_ok (ns : List Int) (a m : Int) (ha : 0 ≤ a) (hm : 0 ≤ m) (hm2 : m ≤ 64) : ∃ vs : List Int, vs.length = m.toNat ∧ c_law_numbers.fn [.nd .scr .c () (intsD ns), .int a, .int m] = .ok (.nd .lst .c () (intsD vs)) [] := by
  suffices go : ∃ vs : List Int, vs.length = m.toNat ∧ ∃ ρ', g_law_numbers [some (.nd .scr .c () (intsD ns)), some (.int a), some (.int m), none, none, none, none, none, none] = .ret (.nd .lst .c () (intsD vs)) ρ' by
    obtain ⟨vs, hl, ρ', e⟩ := go
    refine ⟨vs, hl, ?_⟩
    show runF [] 9 g_law_numbers _ = _
    unfold runF
    simp [e, fin, pick, T.nob, T.all, notB, ints_b, allL]
  have tail : ∀ cell skip : Int, ∃ vs : List Int, vs.length = m.toNat ∧ ∃ ρ', (S.seq (S.asg (E.bin D.add (E.args D.abs (E.cons (E.at (P.var 3)) E.nil)) (E.args D.int_ (E.cons (E.bin D.lt (E.at (P.var 3)) (E.c (.int 0))) E.nil))) (G.name 5)) (S.seq (S.asg (E.args D.mkl E.nil) (G.name 6)) (S.seq (S.ite (E.bin D.lt (E.at (P.var 5)) (E.bin D.pow (E.c (.int 10)) (E.c (.int 18)))) (S.seq (S.for_ (I.range1 (E.cons (E.at (P.var 2)) E.nil)) (G.name 7) b_law_numbers_1) (S.seq (S.ret (E.tk (P.var 6))) S.nil)) S.nil) (S.seq (S.for_ (I.range1 (E.cons (E.at (P.var 2)) E.nil)) (G.name 7) b_law_numbers_2) (S.seq (S.ret (E.tk (P.var 6))) S.nil))))) [some (.nd .scr .c () (intsD ns)), some (.int a), some (.int m), some (.int cell), some (.int skip), none, none, none, none] = .ret (.nd .lst .c () (intsD vs)) ρ' := by
    intro cell skip
    obtain ⟨size, hs, es⟩ : ∃ size : Int, 0 ≤ size ∧ (if cell < 0 then -cell else cell) + (if cell < 0 then 1 else 0) = size := ⟨_, by split <;> omega, rfl⟩
    by_cases hb : size < 1000000000000000000
    · obtain ⟨vs, y7, y8, hl, e1⟩ := numbers_1 (.nd .scr .c () (intsD ns)) (.int a) m cell skip hm hm2 size hs (by omega)
      refine ⟨vs, hl, ?_⟩
      simp [x_c, x_at, x_bin, x_args, x_nil, x_cons, x_seq, x_sif, x_snil, x_asg, x_name, t_ok, b_ok, k_bin1, k_bin2, k_un, k_args, k_cons1, k_cons2, k_and1, k_and0, k_or1, k_or0, k_ite1, k_ite0, k_call, k_ret, k_sif1, k_sif0, k_asg, k_for, k_lm, a_nx, a_ret, o_some, T.nob, T.vw, T.all, T.mk, D.int_, D.abs, D.add, D.cmp, D.mkl, D.pow, allL, mkL, notB, lend, ints_mk, es, hb, e1, x_ret, x_tk, isC, T.cold, T.fz, calm, ints_b, ints_c]
    · obtain ⟨vs, s2, y7, y8, hl, e1⟩ := numbers_2 (.nd .scr .c () (intsD ns)) (.int a) m cell skip hm hm2 size
      refine ⟨vs, hl, ?_⟩
      simp [x_c, x_at, x_bin, x_args, x_nil, x_cons, x_seq, x_sif, x_snil, x_asg, x_name, t_ok, b_ok, k_bin1, k_bin2, k_un, k_args, k_cons1, k_cons2, k_and1, k_and0, k_or1, k_or0, k_ite1, k_ite0, k_call, k_ret, k_sif1, k_sif0, k_asg, k_for, k_lm, a_nx, a_ret, o_some, T.nob, T.vw, T.all, T.mk, D.int_, D.abs, D.add, D.cmp, D.mkl, D.pow, allL, mkL, notB, lend, ints_mk, es, hb, e1, x_ret, x_tk, isC, T.cold, T.fz, calm, ints_b, ints_c]
  unfold g_law_numbers
  by_cases h1 : a < ns.length
  · obtain ⟨v, hv⟩ := ints_at ha h1
    obtain ⟨vs, hl, ρ', e⟩ := tail v 0
    refine ⟨vs, hl, ρ', ?_⟩
    refine seq_step (P := fun r => r = _) (ρ1 := [some (.nd .scr .c () (intsD ns)), some (.int a), some (.int m), some (.int 0), none, none, none, none, none]) ?_ (seq_step (P := fun r => r = _) (ρ1 := [some (.nd .scr .c () (intsD ns)), some (.int a), some (.int m), some (.int 0), some (.int 0), none, none, none, none]) ?_ (seq_step (P := fun r => r = _) ?_ e))
    · simp [k_bin1, k_bin2, k_un, k_args, k_cons1, k_cons2, k_and1, k_and0, k_or1, k_or0, k_ite1, k_ite0, k_call, k_ret, k_sif1, k_sif0, k_asg, k_for, k_lm, x_c, x_asg, x_name, t_ok, T.nob, T.all]
    · simp [k_bin1, k_bin2, k_un, k_args, k_cons1, k_cons2, k_and1, k_and0, k_or1, k_or0, k_ite1, k_ite0, k_call, k_ret, k_sif1, k_sif0, k_asg, k_for, k_lm, x_c, x_asg, x_name, t_ok, T.nob, T.all]
    · simp [x_c, x_at, x_bin, x_args, x_nil, x_cons, x_seq, x_sif, x_snil, x_asg, x_name, t_ok, b_ok, k_bin1, k_bin2, k_un, k_args, k_cons1, k_cons2, k_and1, k_and0, k_or1, k_or0, k_ite1, k_ite0, k_call, k_ret, k_sif1, k_sif0, k_asg, k_for, k_lm, a_nx, o_some, T.nob, T.vw, T.all, T.mk, D.cmp, D.len, lend, ints_mk, h1, D.idx, hv]
  · by_cases h2 : 0 < ns.length
    · have h3 : 0 ≤ a % (ns.length : Int) := Int.emod_nonneg _ (by omega)
      have h4 : a % (ns.length : Int) < ns.length := Int.emod_lt_of_pos _ (by omega)
      obtain ⟨v, hv⟩ := ints_at h3 h4
      have h5 : (0 : Int) < ns.length := by omega
      by_cases h6 : (if v < 0 then -v else v) < 1000000000000000000
      · obtain ⟨vs, hl, ρ', e⟩ := tail v (60 * a)
        refine ⟨vs, hl, ρ', ?_⟩
        refine seq_step (P := fun r => r = _) (ρ1 := [some (.nd .scr .c () (intsD ns)), some (.int a), some (.int m), some (.int 0), none, none, none, none, none]) ?_ (seq_step (P := fun r => r = _) (ρ1 := [some (.nd .scr .c () (intsD ns)), some (.int a), some (.int m), some (.int 0), some (.int 0), none, none, none, none]) ?_ (seq_step (P := fun r => r = _) ?_ e))
        · simp [k_bin1, k_bin2, k_un, k_args, k_cons1, k_cons2, k_and1, k_and0, k_or1, k_or0, k_ite1, k_ite0, k_call, k_ret, k_sif1, k_sif0, k_asg, k_for, k_lm, x_c, x_asg, x_name, t_ok, T.nob, T.all]
        · simp [k_bin1, k_bin2, k_un, k_args, k_cons1, k_cons2, k_and1, k_and0, k_or1, k_or0, k_ite1, k_ite0, k_call, k_ret, k_sif1, k_sif0, k_asg, k_for, k_lm, x_c, x_asg, x_name, t_ok, T.nob, T.all]
        · simp [x_c, x_at, x_bin, x_args, x_nil, x_cons, x_and, x_seq, x_sif, x_snil, x_asg, x_name, t_ok, b_ok, k_bin1, k_bin2, k_un, k_args, k_cons1, k_cons2, k_and1, k_and0, k_or1, k_or0, k_ite1, k_ite0, k_call, k_ret, k_sif1, k_sif0, k_asg, k_for, k_lm, a_nx, o_some, T.nob, T.vw, T.all, T.mk, D.cmp, D.len, lend, ints_mk, h1, h2, h5, D.idx, hv, D.int_, D.mod, D.abs, D.pow, h6, D.mul, okMul]
      · obtain ⟨vs, hl, ρ', e⟩ := tail 0 0
        refine ⟨vs, hl, ρ', ?_⟩
        refine seq_step (P := fun r => r = _) (ρ1 := [some (.nd .scr .c () (intsD ns)), some (.int a), some (.int m), some (.int 0), none, none, none, none, none]) ?_ (seq_step (P := fun r => r = _) (ρ1 := [some (.nd .scr .c () (intsD ns)), some (.int a), some (.int m), some (.int 0), some (.int 0), none, none, none, none]) ?_ (seq_step (P := fun r => r = _) ?_ e))
        · simp [k_bin1, k_bin2, k_un, k_args, k_cons1, k_cons2, k_and1, k_and0, k_or1, k_or0, k_ite1, k_ite0, k_call, k_ret, k_sif1, k_sif0, k_asg, k_for, k_lm, x_c, x_asg, x_name, t_ok, T.nob, T.all]
        · simp [k_bin1, k_bin2, k_un, k_args, k_cons1, k_cons2, k_and1, k_and0, k_or1, k_or0, k_ite1, k_ite0, k_call, k_ret, k_sif1, k_sif0, k_asg, k_for, k_lm, x_c, x_asg, x_name, t_ok, T.nob, T.all]
        · simp [x_c, x_at, x_bin, x_args, x_nil, x_cons, x_and, x_seq, x_sif, x_snil, x_asg, x_name, t_ok, b_ok, k_bin1, k_bin2, k_un, k_args, k_cons1, k_cons2, k_and1, k_and0, k_or1, k_or0, k_ite1, k_ite0, k_call, k_ret, k_sif1, k_sif0, k_asg, k_for, k_lm, a_nx, o_some, T.nob, T.vw, T.all, T.mk, D.cmp, D.len, lend, ints_mk, h1, h2, h5, D.idx, hv, D.int_, D.mod, D.abs, D.pow, h6, D.mul, okMul]
    · obtain ⟨vs, hl, ρ', e⟩ := tail 0 0
      have h5 : ¬ (0 : Int) < ns.length := by omega
      refine ⟨vs, hl, ρ', ?_⟩
      refine seq_step (P := fun r => r = _) (ρ1 := [some (.nd .scr .c () (intsD ns)), some (.int a), some (.int m), some (.int 0), none, none, none, none, none]) ?_ (seq_step (P := fun r => r = _) (ρ1 := [some (.nd .scr .c () (intsD ns)), some (.int a), some (.int m), some (.int 0), some (.int 0), none, none, none, none]) ?_ (seq_step (P := fun r => r = _) ?_ e))
      · simp [k_bin1, k_bin2, k_un, k_args, k_cons1, k_cons2, k_and1, k_and0, k_or1, k_or0, k_ite1, k_ite0, k_call, k_ret, k_sif1, k_sif0, k_asg, k_for, k_lm, x_c, x_asg, x_name, t_ok, T.nob, T.all]
      · simp [k_bin1, k_bin2, k_un, k_args, k_cons1, k_cons2, k_and1, k_and0, k_or1, k_or0, k_ite1, k_ite0, k_call, k_ret, k_sif1, k_sif0, k_asg, k_for, k_lm, x_c, x_asg, x_name, t_ok, T.nob, T.all]
      · simp [x_c, x_at, x_bin, x_args, x_nil, x_cons, x_and, x_seq, x_sif, x_snil, x_asg, x_name, t_ok, b_ok, k_bin1, k_bin2, k_un, k_args, k_cons1, k_cons2, k_and1, k_and0, k_or1, k_or0, k_ite1, k_ite0, k_call, k_ret, k_sif1, k_sif0, k_asg, k_for, k_lm, a_nx, o_some, T.nob, T.vw, T.all, T.mk, D.cmp, D.len, lend, ints_mk, h1, h2, h5]
theorem leaf_bl (a b : Bool) : c_law_leaf.fn [.bl a, .bl b] = .ok (.bl (decide (a = b))) [] := by
  unfold c_law_leaf
  dsimp only
  unfold runF g_law_leaf
  simp [x_c, x_at, x_bin, x_un, x_and, x_seq, x_sif, x_snil, x_ret, t_ok, b_ok, k_bin1, k_bin2, k_un, k_args, k_cons1, k_cons2, k_and1, k_and0, k_or1, k_or0, k_ite1, k_ite0, k_call, k_ret, k_sif1, k_sif0, k_asg, k_for, k_lm, a_nx, a_ret, o_some, T.nob, T.vw, T.all, T.mk, D.isN, E.isi, D.tyn, isTy, D.tru, D.eq, D.eqv, fin, pick, allL]
theorem leaf_int (a b : Int) : c_law_leaf.fn [.int a, .int b] = .ok (.bl (decide (a = b))) [] := by
  unfold c_law_leaf
  dsimp only
  unfold runF g_law_leaf
  simp [x_c, x_at, x_bin, x_un, x_and, x_seq, x_sif, x_snil, x_ret, t_ok, b_ok, k_bin1, k_bin2, k_un, k_args, k_cons1, k_cons2, k_and1, k_and0, k_or1, k_or0, k_ite1, k_ite0, k_call, k_ret, k_sif1, k_sif0, k_asg, k_for, k_lm, a_nx, a_ret, o_some, T.nob, T.vw, T.all, T.mk, D.isN, E.isi, D.tyn, isTy, D.tru, D.eq, D.eqv, D.not, fin, pick, allL]
def alpha : List Nat := (Str.ofString "abcdefghijklmnopqrstuvwxyz").cps.toList
def sgn (c : Nat) : D := .str ⟨#[c]⟩
theorem lcL_map {g : Gv} {t f : Ev} {ρw : Vl.Env} {F : D → D} : ∀ {ds : List D}, (∀ d ∈ ds, ∃ ρ1 ρ2 ρ3, g d ρw = some ρ1 ∧ t ρ1 = .ok (.bl true) ρ2 ∧ f ρ1 = .ok (F d) ρ3 ∧ (F d).nob = true) → lcL g t f ρw ds = some (ds.map F)
  | [], _ => rfl
  | d :: ds, h => by
    obtain ⟨ρ1, ρ2, ρ3, h1, h2, h3, h4⟩ := h d List.mem_cons_self
    unfold lcL
    rw [h1]; dsimp only; rw [h2]; dsimp only; rw [h3]; dsimp only
    rw [if_pos h4, lcL_map fun d hd => h d (List.mem_cons_of_mem _ hd)]; rfl
theorem lcL_filter {g : Gv} {t f : Ev} {ρw : Vl.Env} {F : D → D} {p : D → Bool} : ∀ {ds : List D}, (∀ d ∈ ds, ∃ ρ1 ρ2 ρ3, g d ρw = some ρ1 ∧ t ρ1 = .ok (.bl (p d)) ρ2 ∧ f ρ1 = .ok (F d) ρ3 ∧ (F d).nob = true) → lcL g t f ρw ds = some ((ds.filter p).map F)
  | [], _ => rfl
  | d :: ds, h => by
    obtain ⟨ρ1, ρ2, ρ3, h1, h2, h3, h4⟩ := h d List.mem_cons_self
    have ih := lcL_filter fun d hd => h d (List.mem_cons_of_mem _ hd)
    unfold lcL
    rw [h1]; dsimp only; rw [h2]
    cases hp : p d with
    | true =>
      dsimp only; rw [h3]; dsimp only
      rw [if_pos h4, ih, List.filter_cons_of_pos hp]; rfl
    | false =>
      dsimp only
      rw [ih, List.filter_cons_of_neg (by rw [hp]; exact Bool.false_ne_true)]
theorem bls_map (p : Nat → Bool) : ∀ cs : List Nat, blsL (cs.map fun c => .bl (p c)) = some (cs.map p)
  | [] => rfl
  | c :: cs => by
    show (blsL (cs.map fun c => .bl (p c))).map (p c :: ·) = _
    rw [bls_map p cs]; rfl
def isNm (w : Str) : Bool := decide (1 ≤ w.length) && decide (w.length ≤ 8) && w.cps.toList.all fun c => decide (c ∈ alpha)
theorem is_name_ok (w : Str) (hz : w.length ≤ sizeLine) : c_is_name.fn [.str w] = .ok (.bl (isNm w)) [] := by
  unfold c_is_name
  dsimp only
  unfold runF g_is_name
  have lc : lcL (G.name 1) E.yes (E.bin D.in_ (E.at (P.var 1)) (E.c (.str "abcdefghijklmnopqrstuvwxyz"))) [some (.str w), none] (w.cps.toList.map sgn) = some (w.cps.toList.map fun c => .bl (decide (c ∈ alpha))) := by
    rw [lcL_map (F := fun d => match d with | .str z => .bl (decide (z.cps.toList.headD 0 ∈ alpha)) | _ => .non)]
    · rw [List.map_map]; rfl
    · intro d hd
      obtain ⟨c, _, rfl⟩ := List.mem_map.mp hd
      refine ⟨_, _, _, by simp [x_name]; rfl, rfl, by simp [x_bin, x_at, x_c, b_ok, k_bin1, k_bin2, k_un, k_args, k_cons1, k_cons2, k_and1, k_and0, k_or1, k_or0, k_ite1, k_ite0, k_call, k_ret, k_sif1, k_sif0, k_asg, k_for, k_lm, T.vw, T.mk, sgn, D.in_, D.isin, o_some, alpha]; rfl, rfl⟩
  by_cases h1 : w.length < 1
  · have e : isNm w = false := by unfold isNm; rw [decide_eq_false (by omega)]; rfl
    have h1' : (w.length : Int) < 1 := by omega
    simp [x_c, x_at, x_bin, x_args, x_cons, x_nil, x_or, x_seq, x_sif, x_snil, x_ret, t_ok, b_ok, k_bin1, k_bin2, k_un, k_args, k_cons1, k_cons2, k_and1, k_and0, k_or1, k_or0, k_ite1, k_ite0, k_call, k_ret, k_sif1, k_sif0, k_asg, k_for, k_lm, a_nx, a_ret, o_some, T.nob, T.vw, T.all, T.mk, D.len, D.cmp, hz, h1', e, fin, pick, allL]
  · have h1' : ¬ (w.length : Int) < 1 := by omega
    by_cases h2 : 8 < w.length
    · have e : isNm w = false := by unfold isNm; rw [decide_eq_false (show ¬ w.length ≤ 8 by omega), Bool.and_false]; rfl
      have h2' : (8 : Int) < w.length := by omega
      simp [x_c, x_at, x_bin, x_args, x_cons, x_nil, x_or, x_seq, x_sif, x_snil, x_ret, t_ok, b_ok, k_bin1, k_bin2, k_un, k_args, k_cons1, k_cons2, k_and1, k_and0, k_or1, k_or0, k_ite1, k_ite0, k_call, k_ret, k_sif1, k_sif0, k_asg, k_for, k_lm, a_nx, a_ret, o_some, T.nob, T.vw, T.all, T.mk, D.len, D.cmp, hz, h1', h2', e, fin, pick, allL]
    · have h2' : ¬ (8 : Int) < w.length := by omega
      have e : isNm w = w.cps.toList.all fun c => decide (c ∈ alpha) := by unfold isNm; rw [decide_eq_true (show 1 ≤ w.length by omega), decide_eq_true (show w.length ≤ 8 by omega)]; rfl
      have hl : w.cps.size ≤ sizeLine := hz
      have al : (w.cps.toList.map fun c => decide (c ∈ alpha)).all id = w.cps.toList.all fun c => decide (c ∈ alpha) := by rw [List.all_map]; rfl
      simp only [show sgn = fun c => (T.str ⟨#[c]⟩ : D) from rfl] at lc
      rw [e, ← al]
      simp only [x_c, x_at, x_bin, x_args, x_cons, x_nil, x_or, x_seq, x_sif, x_snil, x_ret, x_tk, t_ok, b_ok, k_bin1, k_bin2, k_un, k_args, k_cons1, k_cons2, k_and1, k_and0, k_or1, k_or0, k_ite1, k_ite0, k_call, k_ret, k_sif1, k_sif0, k_asg, k_for, k_lm, a_nx, a_ret, o_some, T.nob, T.vw, T.all, T.mk, D.len, D.cmp, hz, h1', h2', fin, pick, allL, E.lc, I.of, D.its, T.cold, wipeL, hl, lc, D.all1, bls_map, List.length_cons, List.length_nil, List.getElem?_cons_zero, decide_false, if_true, List.length_map, Array.length_toList, List.set_cons_succ, List.set_cons_zero, List.map_cons, List.map_nil, List.replicate, List.cons_append, List.nil_append, Nat.reduceAdd, Nat.reduceSub, true_and, and_true, and_self, Option.map_some]
theorem due_ok (w : Str) (hz : w.length ≤ sizeLine) : c_law_due.fn [.str w] = .ok (.bl (isNm w)) [] := by
  unfold c_law_due
  dsimp only
  unfold runF g_law_due
  have lc : lcL (G.name 2) (E.bin D.in_ (E.at (P.var 2)) (E.at (P.var 1))) (E.at (P.var 2)) [some (.str w), some (.str "abcdefghijklmnopqrstuvwxyz"), none] (w.cps.toList.map sgn) = some ((w.cps.toList.filter fun c => decide (c ∈ alpha)).map sgn) := by
    rw [lcL_filter (F := fun d => d) (p := fun d => match d with | .str z => decide (z.cps.toList.headD 0 ∈ alpha) | _ => false)]
    · rw [List.map_id', List.filter_map]; rfl
    · intro d hd
      obtain ⟨c, _, rfl⟩ := List.mem_map.mp hd
      refine ⟨_, _, _, by simp [x_name]; rfl, by simp [x_bin, x_at, x_c, b_ok, k_bin1, k_bin2, k_un, k_args, k_cons1, k_cons2, k_and1, k_and0, k_or1, k_or0, k_ite1, k_ite0, k_call, k_ret, k_sif1, k_sif0, k_asg, k_for, k_lm, T.vw, T.mk, sgn, D.in_, D.isin, o_some, alpha]; rfl, by simp [x_at, T.vw, T.mk, sgn]; rfl, rfl⟩
  simp only [show sgn = fun c => (T.str ⟨#[c]⟩ : D) from rfl] at lc
  have hl : w.cps.size ≤ sizeLine := hz
  have key : isNm w = (decide ((0 : Int) < w.length) && decide ((w.length : Int) < 9) && decide (((w.cps.toList.filter fun c => decide (c ∈ alpha)).length : Int) = w.length)) := by
    unfold isNm
    have e1 : decide (1 ≤ w.length) = decide ((0 : Int) < w.length) := by rw [decide_eq_decide]; omega
    have e2 : decide (w.length ≤ 8) = decide ((w.length : Int) < 9) := by rw [decide_eq_decide]; omega
    have e3 : (w.cps.toList.all fun c => decide (c ∈ alpha)) = decide (((w.cps.toList.filter fun c => decide (c ∈ alpha)).length : Int) = w.length) := by
      rw [Bool.eq_iff_iff, List.all_eq_true, decide_eq_true_eq]
      have e4 : w.length = w.cps.toList.length := by rw [Array.length_toList]; rfl
      rw [e4, Int.ofNat_inj, List.length_filter_eq_length_iff]
    rw [e1, e2, e3]
  rw [key]
  by_cases h1 : (0 : Int) < w.length
  · by_cases h2 : (w.length : Int) < 9
    · simp only [x_c, x_at, x_bin, x_args, x_cons, x_nil, x_and, x_seq, x_sif, x_snil, x_ret, x_tk, x_asg, x_name, t_ok, b_ok, k_bin1, k_bin2, k_un, k_args, k_cons1, k_cons2, k_and1, k_and0, k_or1, k_or0, k_ite1, k_ite0, k_call, k_ret, k_sif1, k_sif0, k_asg, k_for, k_lm, a_nx, a_ret, o_some, T.nob, T.vw, T.all, T.mk, D.len, D.cmp, E.chain, hz, h1, h2, fin, pick, allL, E.lc, I.of, D.its, T.cold, wipeL, hl, lc, D.eq, D.eqv, List.length_cons, List.length_nil, List.getElem?_cons_zero, List.getElem?_cons_succ, decide_true, if_true, List.length_map, Array.length_toList, List.set_cons_succ, List.set_cons_zero, List.map_cons, List.map_nil, List.replicate, List.cons_append, List.nil_append, Nat.reduceAdd, Nat.reduceSub, Nat.reduceLT, true_and, and_true, and_self, Option.map_some, Bool.true_and]
    · have h1n : 0 < w.length := by omega
      simp [h1n, x_c, x_at, x_bin, x_args, x_cons, x_nil, x_and, x_seq, x_sif, x_snil, x_ret, x_tk, x_asg, x_name, t_ok, b_ok, k_bin1, k_bin2, k_un, k_args, k_cons1, k_cons2, k_and1, k_and0, k_or1, k_or0, k_ite1, k_ite0, k_call, k_ret, k_sif1, k_sif0, k_asg, k_for, k_lm, a_nx, a_ret, o_some, T.nob, T.vw, T.all, T.mk, D.len, D.cmp, E.chain, hz, h1, h2, fin, pick, allL]
  · have h1n : w.length = 0 := by omega
    simp [h1n, x_c, x_at, x_bin, x_args, x_cons, x_nil, x_and, x_seq, x_sif, x_snil, x_ret, x_tk, x_asg, x_name, t_ok, b_ok, k_bin1, k_bin2, k_un, k_args, k_cons1, k_cons2, k_and1, k_and0, k_or1, k_or0, k_ite1, k_ite0, k_call, k_ret, k_sif1, k_sif0, k_asg, k_for, k_lm, a_nx, a_ret, o_some, T.nob, T.vw, T.all, T.mk, D.len, D.cmp, E.chain, fin, pick, allL]
theorem txtL_map (cs : List Nat) : txtL (cs.map sgn) = some (cs.map fun c => (⟨#[c]⟩ : Str)) := by
  induction cs with
  | nil => rfl
  | cons c cs ih =>
    show (txtL (cs.map sgn)).map ((⟨#[c]⟩ : Str) :: ·) = _
    rw [ih]; rfl
theorem joinL_one : ∀ cs : List Nat, TL.joinL [] (cs.map fun c => [c]) = cs
  | [] => rfl
  | [c] => rfl
  | c :: d :: cs => by
    show [c] ++ ([] ++ TL.joinL [] ((d :: cs).map fun c => [c])) = _
    rw [joinL_one (d :: cs)]; rfl
theorem join_sgn (cs : List Nat) : Txt.join (Str.ofString "") (cs.map fun c => (⟨#[c]⟩ : Str)) = ⟨cs.toArray⟩ := by
  have := SX.join_S [] (cs.map fun c => [c])
  rw [joinL_one, List.map_map] at this
  exact this
theorem gJoin_sgn {m : Mk} {cs : List Nat} (h : cs.length ≤ 1000) : gJoin (Str.ofString "") (.nd .lst m () (cs.map sgn)) = some (.str ⟨cs.toArray⟩) := by
  unfold gJoin
  dsimp only
  rw [txtL_map, Option.bind_some, join_sgn]
  have e : ((cs.map fun c => (⟨#[c]⟩ : Str)).map (·.length)).sum = cs.length := by
    rw [List.map_map]
    induction cs with
    | nil => rfl
    | cons c cs ih =>
      rw [List.map_cons, List.sum_cons, ih (by rw [List.length_cons] at h; omega), List.length_cons]
      show 1 + cs.length = _
      omega
  rw [e, if_pos]
  show cs.length + _ * 0 ≤ _
  omega
theorem str_ix (z : Str) (hz : z.length ≤ sizeLine) (hp : 0 < z.length) (i : Int) : ∃ c, D.idx (.str z) (.int (i % (z.length : Int))) = some (sgn c) := by
  have h3 : 0 ≤ i % (z.length : Int) := Int.emod_nonneg _ (by omega)
  have h4 : i % (z.length : Int) < z.length := Int.emod_lt_of_pos _ (by omega)
  obtain ⟨c, _, e⟩ := at_ix (xs := z.cps.toList) h3 (by rw [Array.length_toList]; exact h4)
  refine ⟨c, ?_⟩
  unfold D.idx
  dsimp only
  rw [if_pos hz, e]; rfl
theorem lc_sgn {g : Gv} {f : Ev} {ρw : Vl.Env} (h : ∀ v : Int, ∃ ρ1 c ρ3, g (.int v) ρw = some ρ1 ∧ f ρ1 = .ok (sgn c) ρ3) : ∀ ws : List Int, ∃ cs : List Nat, cs.length = ws.length ∧ lcL g E.yes f ρw (intsD ws) = some (cs.map sgn)
  | [] => ⟨[], rfl, rfl⟩
  | v :: ws => by
    obtain ⟨ρ1, c, ρ3, h1, h2⟩ := h v
    obtain ⟨cs, hl, e⟩ := lc_sgn h ws
    refine ⟨c :: cs, by rw [List.length_cons, hl, List.length_cons], ?_⟩
    show lcL g E.yes f ρw (.int v :: intsD ws) = _
    unfold lcL
    rw [h1]; dsimp only [E.yes]; rw [h2]; dsimp only
    rw [if_pos (show (sgn c).nob = true from rfl), e]; rfl
theorem cut_len {α : Type} (xs : List α) (lo hi : Option Int) : (cutG xs lo hi).length ≤ xs.length := by
  unfold cutG
  rw [List.length_take, List.length_drop]
  omega
theorem add_str {x y : Str} (h : x.length + y.length ≤ sizeLine) : D.add (.str x) (.str y) = some (.str (x ++ y)) := by
  unfold D.add
  exact if_pos h
theorem str_len (x y : Str) : (x ++ y).length = x.length + y.length := by
  show (x.cps ++ y.cps).size = _
  rw [Array.size_append]; rfl
theorem word_ok (vs : List Int) (hl : vs.length = 14) : ∃ w : Str, w.length ≤ 100 ∧ c_law_word.fn [.nd .lst .c () (intsD vs)] = .ok (.str w) [] := by
  obtain ⟨v0, h0⟩ := ints_at (ns := vs) (a := 0) (by omega) (by omega)
  obtain ⟨v1, h1⟩ := ints_at (ns := vs) (a := 1) (by omega) (by omega)
  obtain ⟨v2, h2⟩ := ints_at (ns := vs) (a := 2) (by omega) (by omega)
  obtain ⟨v3, h3⟩ := ints_at (ns := vs) (a := 3) (by omega) (by omega)
  obtain ⟨lt, elt⟩ : ∃ z : Str, z = Str.ofString "abcdefghijklmnopqrstuvwxyz" := ⟨_, rfl⟩
  have llt : lt.length = 26 := by rw [elt]; decide +kernel
  obtain ⟨sx, esx⟩ : ∃ z : Str, z = Str.ofString " !\"#$&'()*+,-./0123456789:;<=>?@ABCDEFGHIJKLMNOPQRSTUVWXYZ[\\]^_`{|}~\n" := ⟨_, rfl⟩
  have lsx : sx.length = 69 := by rw [esx]; decide +kernel
  obtain ⟨sg, esg⟩ : ∃ z : Str, z = lt ++ sx := ⟨_, rfl⟩
  have lsg : sg.length = 95 := by rw [esg, str_len, llt, lsx]
  have hzl : sizeLine = 16777216 := sizeLine_eq
  obtain ⟨sz, esz⟩ : ∃ z : Int, z = v0 % 11 := ⟨_, rfl⟩
  have hsz : 0 ≤ sz ∧ sz < 11 := by omega
  obtain ⟨mn, emn⟩ : ∃ z : Int, z = v1 % 4 := ⟨_, rfl⟩
  obtain ⟨ws, ews⟩ : ∃ z, z = cutG vs (some 4) (some (4 + sz)) := ⟨_, rfl⟩
  have hws : ws.length ≤ 14 := by rw [ews, ← hl]; exact cut_len _ _ _
  have hcut : cutG (intsD vs) (some 4) (some (4 + sz)) = intsD ws := by rw [ews]; exact cutG_map _ _ _ _
  have go : ∃ w : Str, w.length ≤ 100 ∧ ∃ ρ', g_law_word [some (.nd .lst .c () (intsD vs)), none, none, none, none, none, none, none] = .ret (.str w) ρ' := by
    unfold g_law_word
    rw [← elt, ← esx]
    obtain ⟨c1, l1, e1⟩ := lc_sgn (g := G.name 7) (f := E.bin D.idx (E.at (P.var 1)) (E.bin D.mod (E.args D.int_ (E.cons (E.at (P.var 7)) E.nil)) (E.c (.int 26)))) (ρw := [some (.nd .lst .c () (intsD vs)), some (.str lt), some (.str sg), some (.int sz), some (.int mn), none, none, none]) (fun v => by
      obtain ⟨c, hc⟩ := str_ix lt (by omega) (by omega) v
      rw [llt] at hc
      have hc' : D.idx (.str lt) (.int (v % 26)) = some (sgn c) := hc
      exact ⟨_, c, _, by simp [x_name]; rfl, by simp [x_bin, x_at, x_args, x_cons, x_nil, x_c, b_ok, k_bin1, k_bin2, k_un, k_args, k_cons1, k_cons2, k_and1, k_and0, k_or1, k_or0, k_ite1, k_ite0, k_call, k_ret, k_sif1, k_sif0, k_asg, k_for, k_lm, T.vw, T.mk, D.int_, D.mod, o_some, hc']; rfl⟩) ws
    have hz1 : ws.length ≤ sizeLine := by omega
    have j1 : gJoin (Str.ofString "") (.nd .lst .o () (c1.map sgn)) = some (.str ⟨c1.toArray⟩) := gJoin_sgn (by omega)
    have s1 : (⟨c1.toArray⟩ : Str).length ≤ 14 := by show c1.toArray.size ≤ 14; rw [List.size_toArray]; omega
    have hsl : D.slice (.nd .lst .c () (intsD vs)) (some 4) (some (4 + sz)) = some (.nd .lst .o () (intsD ws)) := by
      unfold D.slice
      dsimp only
      rw [if_pos (ints_c vs), hcut]
    have hits : D.its (.nd .lst .o () (intsD ws)) = some (intsD ws) := if_pos ⟨by decide, ints_c ws⟩
    have hadd : D.add (.str lt) (.str sx) = some (.str sg) := by rw [add_str (by omega), ← esg]
    refine seq_step (P := fun r => ∃ w : Str, w.length ≤ 100 ∧ ∃ ρ', r = .ret (.str w) ρ') (ρ1 := [some (.nd .lst .c () (intsD vs)), some (.str lt), none, none, none, none, none, none]) (by simp [x_c, x_at, x_bin, x_args, x_cons, x_nil, x_seq, x_sif, x_snil, x_asg, x_name, t_ok, b_ok, k_bin1, k_bin2, k_un, k_args, k_cons1, k_cons2, k_and1, k_and0, k_or1, k_or0, k_ite1, k_ite0, k_call, k_ret, k_sif1, k_sif0, k_asg, k_for, k_lm, a_nx, o_some, T.nob, T.vw, T.all, T.mk, lend]) ?_
    refine seq_step (P := fun r => ∃ w : Str, w.length ≤ 100 ∧ ∃ ρ', r = .ret (.str w) ρ') (ρ1 := [some (.nd .lst .c () (intsD vs)), some (.str lt), some (.str sg), none, none, none, none, none]) (by simp [x_c, x_at, x_bin, x_args, x_cons, x_nil, x_seq, x_sif, x_snil, x_asg, x_name, t_ok, b_ok, k_bin1, k_bin2, k_un, k_args, k_cons1, k_cons2, k_and1, k_and0, k_or1, k_or0, k_ite1, k_ite0, k_call, k_ret, k_sif1, k_sif0, k_asg, k_for, k_lm, a_nx, o_some, T.nob, T.vw, T.all, T.mk, lend, hadd]) ?_
    refine seq_step (P := fun r => ∃ w : Str, w.length ≤ 100 ∧ ∃ ρ', r = .ret (.str w) ρ') (ρ1 := [some (.nd .lst .c () (intsD vs)), some (.str lt), some (.str sg), some (.int sz), none, none, none, none]) (by simp [x_c, x_at, x_bin, x_args, x_cons, x_nil, x_seq, x_sif, x_snil, x_asg, x_name, t_ok, b_ok, k_bin1, k_bin2, k_un, k_args, k_cons1, k_cons2, k_and1, k_and0, k_or1, k_or0, k_ite1, k_ite0, k_call, k_ret, k_sif1, k_sif0, k_asg, k_for, k_lm, a_nx, o_some, T.nob, T.vw, T.all, T.mk, lend, ints_mk, D.idx, h0, D.int_, D.mod, esz]) ?_
    refine seq_step (P := fun r => ∃ w : Str, w.length ≤ 100 ∧ ∃ ρ', r = .ret (.str w) ρ') (ρ1 := [some (.nd .lst .c () (intsD vs)), some (.str lt), some (.str sg), some (.int sz), some (.int mn), none, none, none]) (by simp [x_c, x_at, x_bin, x_args, x_cons, x_nil, x_seq, x_sif, x_snil, x_asg, x_name, t_ok, b_ok, k_bin1, k_bin2, k_un, k_args, k_cons1, k_cons2, k_and1, k_and0, k_or1, k_or0, k_ite1, k_ite0, k_call, k_ret, k_sif1, k_sif0, k_asg, k_for, k_lm, a_nx, o_some, T.nob, T.vw, T.all, T.mk, lend, ints_mk, D.idx, h1, D.int_, D.mod, emn]) ?_
    refine seq_step (P := fun r => ∃ w : Str, w.length ≤ 100 ∧ ∃ ρ', r = .ret (.str w) ρ') (ρ1 := [some (.nd .lst .c () (intsD vs)), some (.str lt), some (.str sg), some (.int sz), some (.int mn), some (.str ⟨c1.toArray⟩), none, none]) (by simp [x_c, x_at, x_bin, x_args, x_cons, x_nil, x_seq, x_sif, x_snil, x_asg, x_name, t_ok, b_ok, k_bin1, k_bin2, k_un, k_args, k_cons1, k_cons2, k_and1, k_and0, k_or1, k_or0, k_ite1, k_ite0, k_call, k_ret, k_sif1, k_sif0, k_asg, k_for, k_lm, a_nx, o_some, T.nob, T.vw, T.all, T.mk, lend, ints_mk, E.ms1, E.lc, I.of, E.sl, E.part, D.add, hsl, hits, hz1, wipeL, e1, j1]) ?_
    have tail : ∀ w5 : Str, w5.length ≤ 14 → ∃ w : Str, w.length ≤ 100 ∧ ∃ ρ', (S.seq (S.ite (E.bin D.eq (E.at (P.var 4)) (E.c (.int 2))) (S.seq (S.asg (E.bin D.mod (E.args D.int_ (E.cons (E.bin D.idx (E.at (P.var 0)) (E.c (.int 2))) E.nil)) (E.bin D.add (E.at (P.var 3)) (E.c (.int 1)))) (G.name 6)) (S.seq (S.asg (E.bin D.add (E.bin D.add (E.sl (E.at (P.var 5)) E.no (E.part (E.at (P.var 6)))) (E.bin D.idx (E.at (P.var 2)) (E.bin D.mod (E.args D.int_ (E.cons (E.bin D.idx (E.at (P.var 0)) (E.c (.int 3))) E.nil)) (E.args D.len (E.cons (E.at (P.var 2)) E.nil))))) (E.sl (E.at (P.var 5)) (E.part (E.at (P.var 6))) E.no)) (G.name 5)) S.nil)) S.nil) (S.seq (S.ret (E.tk (P.var 5))) S.nil)) [some (.nd .lst .c () (intsD vs)), some (.str lt), some (.str sg), some (.int sz), some (.int mn), some (.str w5), none, none] = .ret (.str w) ρ' := by
      intro w5 h5
      by_cases hm : mn = 2
      · obtain ⟨c, hc⟩ := str_ix sg (by omega) (by omega) v3
        rw [lsg] at hc
        have hc' : D.idx (.str sg) (.int (v3 % 95)) = some (sgn c) := hc
        obtain ⟨ct, ect⟩ : ∃ z : Int, z = v2 % (sz + 1) := ⟨_, rfl⟩
        have hp : 0 < sz + 1 := by omega
        have hz5 : w5.length ≤ sizeLine := by omega
        have q1 := cutS_length w5 none (some ct)
        have q2 := cutS_length w5 (some ct) none
        have q3 : (⟨#[c]⟩ : Str).length = 1 := rfl
        have ad1 : D.add (.str (cutS w5 none (some ct))) (.str ⟨#[c]⟩) = some (.str (cutS w5 none (some ct) ++ ⟨#[c]⟩)) := add_str (by omega)
        have ad2 : D.add (.str (cutS w5 none (some ct) ++ ⟨#[c]⟩)) (.str (cutS w5 (some ct) none)) = some (.str (cutS w5 none (some ct) ++ ⟨#[c]⟩ ++ cutS w5 (some ct) none)) := add_str (by rw [str_len]; omega)
        have ad3 : D.add (.int sz) (.int 1) = some (.int (sz + 1)) := rfl
        have md : D.mod (.int v2) (.int (sz + 1)) = some (.int ct) := by unfold D.mod; dsimp only; rw [if_pos hp, ect]
        have ln : D.len [.str sg] = some (.int 95) := by unfold D.len; dsimp only; rw [if_pos (by omega), lsg]; rfl
        have md2 : D.mod (.int v3) (.int 95) = some (.int (v3 % 95)) := rfl
        have ix2 : D.idx (.nd .lst .c () (intsD vs)) (.int 2) = some (.int v2) := h2
        have ix3 : D.idx (.nd .lst .c () (intsD vs)) (.int 3) = some (.int v3) := h3
        have sl1 : D.slice (.str w5) none (some ct) = some (.str (cutS w5 none (some ct))) := if_pos hz5
        have sl2 : D.slice (.str w5) (some ct) none = some (.str (cutS w5 (some ct) none)) := if_pos hz5
        refine ⟨cutS w5 none (some ct) ++ ⟨#[c]⟩ ++ cutS w5 (some ct) none, by rw [str_len, str_len]; omega, ?_⟩
        simp [x_c, x_at, x_bin, x_args, x_cons, x_nil, x_seq, x_sif, x_snil, x_asg, x_name, t_ok, b_ok, k_bin1, k_bin2, k_un, k_args, k_cons1, k_cons2, k_and1, k_and0, k_or1, k_or0, k_ite1, k_ite0, k_call, k_ret, k_sif1, k_sif0, k_asg, k_for, k_lm, a_nx, o_some, T.nob, T.vw, T.all, T.mk, lend, a_ret, ints_mk, D.eq, D.eqv, hm, ix2, ix3, D.int_, ad3, md, ln, md2, hc', sgn, E.sl, E.no, E.part, sl1, sl2, ad1, ad2, x_ret, x_tk, T.cold]
      · refine ⟨w5, by omega, ?_⟩
        simp [x_c, x_at, x_bin, x_args, x_cons, x_nil, x_seq, x_sif, x_snil, x_asg, x_name, t_ok, b_ok, k_bin1, k_bin2, k_un, k_args, k_cons1, k_cons2, k_and1, k_and0, k_or1, k_or0, k_ite1, k_ite0, k_call, k_ret, k_sif1, k_sif0, k_asg, k_for, k_lm, a_nx, o_some, T.nob, T.vw, T.all, T.mk, lend, a_ret, ints_mk, D.eq, D.eqv, hm, x_ret, x_tk, T.cold]
    by_cases h3 : mn = 3
    · obtain ⟨c2, l2, e2⟩ := lc_sgn (g := G.name 7) (f := E.bin D.idx (E.at (P.var 2)) (E.bin D.mod (E.args D.int_ (E.cons (E.at (P.var 7)) E.nil)) (E.args D.len (E.cons (E.at (P.var 2)) E.nil)))) (ρw := [some (.nd .lst .c () (intsD vs)), some (.str lt), some (.str sg), some (.int sz), some (.int mn), some (.str ⟨c1.toArray⟩), none, none]) (fun v => by
        obtain ⟨c, hc⟩ := str_ix sg (by omega) (by omega) v
        rw [lsg] at hc
        have hc' : D.idx (.str sg) (.int (v % 95)) = some (sgn c) := hc
        have ln : D.len [.str sg] = some (.int 95) := by unfold D.len; dsimp only; rw [if_pos (by omega), lsg]; rfl
        exact ⟨_, c, _, by simp [x_name]; rfl, by simp [x_bin, x_at, x_args, x_cons, x_nil, x_c, b_ok, k_bin1, k_bin2, k_un, k_args, k_cons1, k_cons2, k_and1, k_and0, k_or1, k_or0, k_ite1, k_ite0, k_call, k_ret, k_sif1, k_sif0, k_asg, k_for, k_lm, T.vw, T.mk, D.int_, D.mod, o_some, hc', ln]; rfl⟩) ws
      have j2 : gJoin (Str.ofString "") (.nd .lst .o () (c2.map sgn)) = some (.str ⟨c2.toArray⟩) := gJoin_sgn (by omega)
      have s2 : (⟨c2.toArray⟩ : Str).length ≤ 14 := by show c2.toArray.size ≤ 14; rw [List.size_toArray]; omega
      refine seq_step (P := fun r => ∃ w : Str, w.length ≤ 100 ∧ ∃ ρ', r = .ret (.str w) ρ') (ρ1 := [some (.nd .lst .c () (intsD vs)), some (.str lt), some (.str sg), some (.int sz), some (.int mn), some (.str ⟨c2.toArray⟩), none, none]) ?_ (tail _ s2)
      rw [h3] at e2 ⊢
      simp [x_c, x_at, x_bin, x_args, x_cons, x_nil, x_seq, x_sif, x_snil, x_asg, x_name, t_ok, b_ok, k_bin1, k_bin2, k_un, k_args, k_cons1, k_cons2, k_and1, k_and0, k_or1, k_or0, k_ite1, k_ite0, k_call, k_ret, k_sif1, k_sif0, k_asg, k_for, k_lm, a_nx, o_some, T.nob, T.vw, T.all, T.mk, lend, D.eq, D.eqv, ints_mk, E.ms1, E.lc, I.of, E.sl, E.part, D.add, hsl, hits, hz1, wipeL, e2, j2]
    · refine seq_step (P := fun r => ∃ w : Str, w.length ≤ 100 ∧ ∃ ρ', r = .ret (.str w) ρ') (ρ1 := [some (.nd .lst .c () (intsD vs)), some (.str lt), some (.str sg), some (.int sz), some (.int mn), some (.str ⟨c1.toArray⟩), none, none]) ?_ (tail _ s1)
      simp [x_c, x_at, x_bin, x_args, x_cons, x_nil, x_seq, x_sif, x_snil, x_asg, x_name, t_ok, b_ok, k_bin1, k_bin2, k_un, k_args, k_cons1, k_cons2, k_and1, k_and0, k_or1, k_or0, k_ite1, k_ite0, k_call, k_ret, k_sif1, k_sif0, k_asg, k_for, k_lm, a_nx, o_some, T.nob, T.vw, T.all, T.mk, lend, D.eq, D.eqv, h3]
  obtain ⟨w, hw, ρ', e⟩ := go
  refine ⟨w, hw, ?_⟩
  unfold c_law_word
  dsimp only
  unfold runF
  simp [e, fin, pick, T.nob, T.all, allL]
abbrev strD (ws : List Str) : List D := ws.map T.str
theorem strs_c (ws : List Str) : allL isC (strD ws) = true := by rw [allL_eq, List.all_eq_true]; intro x hx; obtain ⟨i, _, rfl⟩ := List.mem_map.mp hx; rfl
theorem strs_b (ws : List Str) : allL notB (strD ws) = true := allC_notB (strs_c ws)
theorem strs_mk (f : Mk → Mk) (ws : List Str) : mkL f (strD ws) = strD ws := by rw [mkL_eq, List.map_map]; rfl
theorem strs_snoc (ws : List Str) (v : Str) : strD ws ++ [T.str v] = strD (ws ++ [v]) := by show ws.map T.str ++ [T.str v] = (ws ++ [v]).map T.str; rw [List.map_append]; rfl
theorem rep_ok (c : Nat) (n : Nat) (h2 : 2 ≤ n) (h : n ≤ 100) : ∃ w : Str, w.length ≤ sizeLine ∧ D.rep (.str ⟨#[c]⟩) (.int n) = some (.str w) := by
  have hz : sizeLine = 16777216 := sizeLine_eq
  have hl : (⟨#[c]⟩ : Str).length = 1 := rfl
  refine ⟨_, fits_reps (x := ⟨#[c]⟩) (k := (n : Int).toNat) ?_, ?_⟩
  · unfold Builtin.Str.tooLong
    rw [hl]
    simp
    omega
  · unfold D.rep
    dsimp only
    rw [if_pos ⟨by omega, by omega, by rw [hl]; omega, by rw [hl]; omega⟩]
theorem np_numbers : c_law_numbers.np = 3 := rfl
theorem np_word : c_law_word.np = 1 := rfl
theorem np_due : c_law_due.np = 1 := rfl
theorem np_is_name : c_is_name.np = 1 := rfl
theorem np_leaf : c_law_leaf.np = 2 := rfl
theorem math (ns : List Int) (hl : ns.length ≤ 63) : ∃ os, c_law.fn [.nd .scr .c () (ns.map T.int)] = .ok (.bl true) os := by
  have hzl : sizeLine = 16777216 := sizeLine_eq
  suffices go : ∃ ρ', g_law [some (.nd .scr .c () (intsD ns)), none, none, none, none, none, none, none] = .ret (.bl true) ρ' by
    obtain ⟨ρ', e⟩ := go
    refine ⟨[], ?_⟩
    unfold c_law
    dsimp only
    unfold runF
    simp [e, fin, pick, T.nob, T.all, allL]
  unfold g_law
  obtain ⟨lt, elt⟩ : ∃ z : Str, z = Str.ofString "abcdefghijklmnopqrstuvwxyz" := ⟨_, rfl⟩
  have llt : lt.length = 26 := by rw [elt]; decide +kernel
  rw [← elt]
  obtain ⟨v1, hv1, en1⟩ := numbers_ok ns 0 1 (by omega) (by omega) (by omega)
  obtain ⟨u, hu⟩ := ints_at (ns := v1) (a := 0) (by omega) (by rw [hv1]; decide)
  have hu' : D.idx (.nd .lst .c () (intsD v1)) (.int 0) = some (.int u) := hu
  obtain ⟨c, hc⟩ := str_ix lt (by omega) (by omega) u
  rw [llt] at hc
  have hc' : D.idx (.str lt) (.int (u % 26)) = some (.str ⟨#[c]⟩) := hc
  obtain ⟨w8, l8, e8⟩ := rep_ok c 8 (by omega) (by omega)
  obtain ⟨w9, l9, e9⟩ := rep_ok c 9 (by omega) (by omega)
  have e8' : D.rep (.str ⟨#[c]⟩) (.int 8) = some (.str w8) := e8
  have e9' : D.rep (.str ⟨#[c]⟩) (.int 9) = some (.str w9) := e9
  refine seq_step (P := fun r => ∃ ρ', r = .ret (.bl true) ρ') (ρ1 := [some (.nd .scr .c () (intsD ns)), some (.str ⟨#[c]⟩), none, none, none, none, none, none]) (by simp [x_c, x_at, x_bin, x_un, x_args, x_cons, x_nil, x_call, x_seq, x_sif, x_snil, x_asg, x_name, x_tk, t_ok, b_ok, k_bin1, k_bin2, k_un, k_args, k_cons1, k_cons2, k_and1, k_and0, k_or1, k_or0, k_ite1, k_ite0, k_call, k_ret, k_sif1, k_sif0, k_asg, k_for, k_lm, a_nx, a_ret, o_some, T.nob, T.vw, T.all, T.mk, lend, T.cold, isC, ints_c, np_numbers, en1, Out.toR, hu', D.int_, D.mod, hc']) ?_
  refine seq_step (P := fun r => ∃ ρ', r = .ret (.bl true) ρ') (ρ1 := [some (.nd .scr .c () (intsD ns)), some (.str ⟨#[c]⟩), some (.nd .lst .o () (strD [Str.ofString "", ⟨#[c]⟩, w8, w9])), none, none, none, none, none]) (by simp [x_c, x_at, x_bin, x_un, x_args, x_cons, x_nil, x_call, x_seq, x_sif, x_snil, x_asg, x_name, x_tk, t_ok, b_ok, k_bin1, k_bin2, k_un, k_args, k_cons1, k_cons2, k_and1, k_and0, k_or1, k_or0, k_ite1, k_ite0, k_call, k_ret, k_sif1, k_sif0, k_asg, k_for, k_lm, a_nx, a_ret, o_some, T.nob, T.vw, T.all, T.mk, lend, T.cold, e8', e9', D.mkl, allL, mkL, notB, hzl]) ?_
  -- the first loop
  obtain ⟨ρ1, f1, ws, x3, hws, rfl⟩ := forL_inv (g := G.name 3) (body := b_law_1) (ds := rangeD 0 20) (j := 0)
    (Inv := fun i ρ => ∃ (ws : List Str) (x3 : Option D), (ws.length = i + 4 ∧ ∀ w ∈ ws, w.length ≤ sizeLine) ∧ ρ = [some (.nd .scr .c () (intsD ns)), some (.str ⟨#[c]⟩), some (.nd .lst .o () (strD ws)), x3, none, none, none, none])
    ⟨[Str.ofString "", ⟨#[c]⟩, w8, w9], none, ⟨rfl, fun w hw => by
      simp only [List.mem_cons, List.not_mem_nil, or_false] at hw
      rcases hw with rfl | rfl | rfl | rfl
      · exact Nat.zero_le _
      · show 1 ≤ _; omega
      · exact l8
      · exact l9⟩, rfl⟩ (fun i d ρ hd hi => by
      obtain ⟨ws, x3, ⟨hws1, hws2⟩, rfl⟩ := hi
      obtain ⟨rfl, hin⟩ := range_at hd
      obtain ⟨vs, hvs, en⟩ := numbers_ok ns (0 + (i : Int)) 14 (by omega) (by omega) (by omega)
      obtain ⟨w, hw, ew⟩ := word_ok vs (by rw [hvs]; rfl)
      rw [show (0 + (i : Int)) = (i : Int) by omega] at en ⊢
      have hlt : ws.length < sizeLine := by omega
      refine ⟨_, _, by simp [x_name]; rfl, .inl (by
        unfold b_law_1
        simp [x_c, x_at, x_bin, x_un, x_args, x_cons, x_nil, x_call, x_seq, x_sif, x_snil, x_asg, x_name, x_tk, t_ok, b_ok, k_bin1, k_bin2, k_un, k_args, k_cons1, k_cons2, k_and1, k_and0, k_or1, k_or0, k_ite1, k_ite0, k_call, k_ret, k_sif1, k_sif0, k_asg, k_for, k_lm, a_nx, a_ret, o_some, T.nob, T.vw, T.all, T.mk, lend, T.cold, x_lm1, isC, ints_c, np_numbers, en, np_word, ew, Out.toR, S.append, getR, getT, gAppend, hlt, modS, T.mod, T.kids, T.fz]
        rfl), ?_⟩
      rw [strs_snoc]
      exact ⟨_, _, ⟨by rw [List.length_append, hws1]; show 0 + i + 4 + 1 = 0 + i + 1 + 4; omega, fun z hz => by
        rcases List.mem_append.mp hz with h | h
        · exact hws2 z h
        · have e : z = w := by simpa using h
          rw [e]; omega⟩, rfl⟩)
  have hr20 : okRg 20 = true := by decide
  refine seq_step (P := fun r => ∃ ρ', r = .ret (.bl true) ρ') (ρ1 := _) (by
    rw [x_for]
    simp only [I.range1, x_cons, x_nil, x_c, b_ok, k_bin1, k_bin2, k_un, k_args, k_cons1, k_cons2, k_and1, k_and0, k_or1, k_or0, k_ite1, k_ite0, k_call, k_ret, k_sif1, k_sif0, k_asg, k_for, k_lm, hr20, if_true, t_ok]
    exact f1) ?_
  -- the second loop
  obtain ⟨ρ2, f2, x4, rfl⟩ := forL_inv (g := G.name 4) (body := b_law_2) (ds := strD ws) (j := 0)
    (Inv := fun i ρ => ∃ (x4 : Option D), ρ = [some (.nd .scr .c () (intsD ns)), some (.str ⟨#[c]⟩), some (.nd .lst .c () (strD ws)), x3, x4, none, none, none])
    ⟨none, rfl⟩ (fun i d ρ hd hi => by
      obtain ⟨x4, rfl⟩ := hi
      obtain ⟨w, hw, rfl⟩ := List.mem_map.mp (List.mem_of_getElem? hd)
      have hz := hws.2 w hw
      refine ⟨_, _, by simp [x_name]; rfl, .inl (by
        unfold b_law_2
        simp [x_c, x_at, x_bin, x_un, x_args, x_cons, x_nil, x_call, x_seq, x_sif, x_snil, x_asg, x_name, x_tk, t_ok, b_ok, k_bin1, k_bin2, k_un, k_args, k_cons1, k_cons2, k_and1, k_and0, k_or1, k_or0, k_ite1, k_ite0, k_call, k_ret, k_sif1, k_sif0, k_asg, k_for, k_lm, a_nx, a_ret, o_some, T.nob, T.vw, T.all, T.mk, lend, T.cold, np_is_name, is_name_ok w hz, np_due, due_ok w hz, np_leaf, leaf_bl, Out.toR, D.tru, D.not]
        rfl), ?_⟩
      exact ⟨_, rfl⟩)
  refine seq_step (P := fun r => ∃ ρ', r = .ret (.bl true) ρ') (ρ1 := _) (by
    rw [x_for]
    simp [x_c, x_at, x_bin, x_un, x_args, x_cons, x_nil, x_call, x_seq, x_sif, x_snil, x_asg, x_name, x_tk, t_ok, b_ok, k_bin1, k_bin2, k_un, k_args, k_cons1, k_cons2, k_and1, k_and0, k_or1, k_or0, k_ite1, k_ite0, k_call, k_ret, k_sif1, k_sif0, k_asg, k_for, k_lm, a_nx, a_ret, o_some, T.nob, T.vw, T.all, T.mk, lend, T.cold, I.of, isC, strs_b, strs_c, strs_mk, modS, T.mod, T.fz, calm, D.its, notB]
    exact f2) ?_
  simp [x_c, x_at, x_bin, x_un, x_args, x_cons, x_nil, x_call, x_seq, x_sif, x_snil, x_asg, x_name, x_tk, t_ok, b_ok, k_bin1, k_bin2, k_un, k_args, k_cons1, k_cons2, k_and1, k_and0, k_or1, k_or0, k_ite1, k_ite0, k_call, k_ret, k_sif1, k_sif0, k_asg, k_for, k_lm, a_nx, a_ret, o_some, T.nob, T.vw, T.all, T.mk, lend, T.cold, D.mkl, allL, mkL, notB, hzl, x_for, I.zip, zipD, D.lits, isC, calm, T.fz, modS, T.mod, Vl.pairD, forL, G.tup, goG, b_law_3, np_leaf, leaf_int, Out.toR, D.tru, D.not, x_ret]

end K01
open PySem PySem.W PySem.Calls PyProof.Rows
theorem PySem.Challenge.cw_heldcalls_k01_names_holds : PySem.Challenge.rw_heldcalls_k01_names.Holds := by
  w_on; o_law
  refine HandSHeadRun.head_any (r := OpenLaw.row PySem.Challenge.rw_heldcalls_k01_names) (q := view (OpenLaw.row PySem.Challenge.rw_heldcalls_k01_names).prog [9]) (H := K01.hk) (ob := K01.ob) (M := 4000) (loose := ["ALPHABET", "Bounds", "is_name", "_law_numbers", "_law_leaf", "_law_word", "_law_due"]) (d := HandSHeadRun.topDef (OpenLaw.row PySem.Challenge.rw_heldcalls_k01_names).prog 9) (kwd := []) K01.ob_eq
    (by kernel_rfl) (fun s => by kernel_rfl) K01.run (by kernel_rfl) (by kernel_rfl) (by kernel_rfl) (by rfl) (by first | assumption | decide +kernel) (by decide +kernel) ⟨rfl, rfl, rfl, rfl, rfl, by decide +kernel⟩ ?hw ?hc
  case hw => w_witness2
  case hc =>
    refine Vl.walk_law (l := PySem.Challenge.rw_heldcalls_k01_names) (n := 63) (k := 2) (x := "script") rfl (by decide) (by kernel_rfl) ⟨rfl, by decide, by decide⟩ ?F
    intro w mg fa h Y G hmg0
    have hmg : mg ("law" : PySem.Str) = some (.ref fa) := by
      have e : (HandSHeadRun.topDef (OpenLaw.row PySem.Challenge.rw_heldcalls_k01_names).prog 9).name = ("law" : PySem.Str) := by kernel_rfl
      rw [← e]
      exact hmg0
    obtain ⟨K, fd, cf, c, X, hb, ec, hF⟩ := K01.facts (Pg := (PySem.Challenge.rw_heldcalls_k01_names).prog) (w := w) Y G hmg
    subst ec
    exact ⟨K, fd, cf, _, X, hb, rfl, fun ns hl => K01.math ns hl, hF⟩
