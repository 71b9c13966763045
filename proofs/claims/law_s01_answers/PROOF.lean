import PyProof.Rows.All
import Wide.All
import OpenK.AllK
import Wide.FinOn
import Open.SpecLaws
import KE.OsGo
import HandS.ForSpec
import HandS.ForMost
import HandS.TupSets
import HandS.Walk
import PySw71
import PyFlatLaws
import HandS.Flow
import KE.GoesEnum
import PySem.Challenge.RW_partscore_s01_answers
set_option Elab.async false
set_option linter.all false
set_option maxRecDepth 100000
set_option maxHeartbeats 4000000
/-! The data on the heap: what a list, a tuple of the program is worth in the document's words. -/
namespace Ps
open PySem PySem.Spec PyProof.Rows L2

/-! ### lists, one beside the other -/
theorem paired_at {A B : Type} {R : A → B → Prop} : ∀ {l : List A} {m : List B} {i : Nat} {x : A}, Paired R l m → l[i]? = some x → ∃ y, m[i]? = some y ∧ R x y
  | _, _, _, _, .nil, h => by simp at h
  | _, _, 0, _, .cons r _, h => by simp at h; subst h; exact ⟨_, rfl, r⟩
  | _, _, i + 1, x, .cons _ t, h => by
    obtain ⟨y, h1, h2⟩ := paired_at (i := i) (x := x) t (by simpa using h)
    exact ⟨y, by simpa using h1, h2⟩
theorem paired_at' {A B : Type} {R : A → B → Prop} : ∀ {l : List A} {m : List B} {i : Nat} {y : B}, Paired R l m → m[i]? = some y → ∃ x, l[i]? = some x ∧ R x y
  | _, _, _, _, .nil, h => by simp at h
  | _, _, 0, _, .cons r _, h => by simp at h; subst h; exact ⟨_, rfl, r⟩
  | _, _, i + 1, y, .cons _ t, h => by
    obtain ⟨x, h1, h2⟩ := paired_at' (i := i) (y := y) t (by simpa using h)
    exact ⟨x, by simpa using h1, h2⟩
theorem paired_append {A B : Type} {R : A → B → Prop} : ∀ {l l' : List A} {m m' : List B}, Paired R l m → Paired R l' m' → Paired R (l ++ l') (m ++ m')
  | _, _, _, _, .nil, h => h
  | _, _, _, _, .cons r t, h => .cons r (paired_append t h)
theorem paired_map {A B C : Type} {R : A → B → Prop} (f : C → A) (g : C → B) : ∀ {l : List C}, (∀ c ∈ l, R (f c) (g c)) → Paired R (l.map f) (l.map g)
  | [], _ => .nil
  | c :: l, h => .cons (h c (List.mem_cons_self ..)) (paired_map f g fun d hd => h d (List.mem_cons_of_mem _ hd))
theorem snoc_take {A : Type} : ∀ {l : List A} {i : Nat} {x : A}, l[i]? = some x → l.take (i + 1) = l.take i ++ [x]
  | [], i, x, h => by simp at h
  | a :: l, 0, x, h => by
    have e : a = x := Option.some.inj h
    subst e; rfl
  | a :: l, i + 1, x, h => by
    have ih := snoc_take (l := l) (i := i) (x := x) h
    show a :: l.take (i + 1) = a :: l.take i ++ [x]
    rw [ih]; rfl
theorem flat_take {A B : Type} {f : A → List B} {l : List A} {i : Nat} {x : A} (h : l[i]? = some x) : (l.take (i + 1)).flatMap f = (l.take i).flatMap f ++ f x := by
  rw [snoc_take h, List.flatMap_append, List.flatMap_cons, List.flatMap_nil, List.append_nil]
theorem flat_take_le {A B : Type} (f : A → List B) (l : List A) (i : Nat) : ((l.take i).flatMap f).length ≤ (l.flatMap f).length := by
  conv => rhs; rw [← List.take_append_drop i l, List.flatMap_append, List.length_append]
  omega
theorem lt_of_at {A : Type} {l : List A} {i : Nat} {x : A} (h : l[i]? = some x) : i < l.length := (List.getElem?_eq_some_iff.mp h).1

/-! ### numbers -/
def nV (l : List Nat) : List V := l.map fun (n : Nat) => V.int (n : Int)
theorem nV_append (l m : List Nat) : nV (l ++ m) = nV l ++ nV m := List.map_append
theorem nV_length (l : List Nat) : (nV l).length = l.length := List.length_map _
theorem nV_at {l : List Nat} {i : Nat} {v : V} (h : (nV l)[i]? = some v) : ∃ n, l[i]? = some n ∧ v = .int (n : Int) := by
  unfold nV at h
  rw [List.getElem?_map] at h
  cases e : l[i]? with
  | none => rw [e] at h; cases h
  | some n => rw [e] at h; exact ⟨n, rfl, (Option.some.inj h).symm⟩
theorem nV_get {l : List Nat} {i n : Nat} (h : l[i]? = some n) : (nV l)[i]? = some (.int (n : Int)) := by
  unfold nV
  rw [List.getElem?_map, h]; rfl
theorem nV_int (l : List Nat) : nV l = (l.map fun (n : Nat) => (n : Int)).map V.int := by
  unfold nV
  rw [List.map_map]; rfl
theorem nV_flat (l : List Nat) : (nV l).all flatV = true := by
  unfold nV
  rw [List.all_map]
  exact List.all_eq_true.mpr fun _ _ => rfl

/-! ### heaps: a part G of the heap that is data alone, and what a def adds to it -/
def Fr (r : Addr) (H H' : Hp) : Prop := ∀ b o, H b = some o → b ≠ r → H' b = some o
theorem Fr.refl (r : Addr) (H : Hp) : Fr r H H := fun _ _ h _ => h
theorem Fr.trans {r : Addr} {H H1 H2 : Hp} (a : Fr r H H1) (b : Fr r H1 H2) : Fr r H H2 := fun c o h n => b c o (a c o h n) n
theorem same_fr {H H' : Hp} (s : Same H H') (r : Addr) : Fr r H H' := fun b o h _ => s b o h
theorem same_upd {H : Hp} {p : Addr} {o : HO} (h : H p = none) : Same H (upd H p o) := fun b x e => by
  rw [upd_ne (ne_of_none e h)]; exact e
theorem fr_upd {H : Hp} {p : Addr} {o : HO} : Fr p H (upd H p o) := fun b x e n => by
  rw [upd_ne n]; exact e
theorem fr_new {H H' : Hp} {p : Addr} (h : H p = none) (f : Fr p H H') : Same H H' := fun b o e => f b o e (ne_of_none e h)
def datO : HO → Bool
  | .lst _ => true
  | .tup _ => true
  | _ => false
def Dat (G : Hp) : Prop := ∀ a o, G a = some o → datO o = true
def Hp0 : Hp := fun _ => none
theorem dat0 : Dat Hp0 := fun _ _ h => by cases h
theorem same0 (H : Hp) : Same Hp0 H := fun _ _ h => by cases h
/-- G, and the lists and tuples that are new in H' beside H -/
def Grow (G H H' : Hp) : Hp := fun a => match G a with
  | some o => some o
  | none => match H a with
    | some _ => none
    | none => match H' a with
      | some o => if datO o = true then some o else none
      | none => none
theorem grow_old {G H H' : Hp} {a : Addr} {o : HO} (h : G a = some o) : Grow G H H' a = some o := by unfold Grow; rw [h]
theorem grow_new {G H H' : Hp} {a : Addr} {o : HO} (s : Same G H) (h : H a = none) (h' : H' a = some o) (d : datO o = true) : Grow G H H' a = some o := by
  unfold Grow
  rw [s.free h, h, h']
  show (if datO o = true then some o else none) = some o
  rw [if_pos d]
theorem grow_inv {G H H' : Hp} {a : Addr} {o : HO} (h : Grow G H H' a = some o) : G a = some o ∨ (G a = none ∧ H a = none ∧ H' a = some o ∧ datO o = true) := by
  unfold Grow at h
  cases e : G a with
  | some x => rw [e] at h; exact .inl h
  | none =>
    rw [e] at h
    cases e1 : H a with
    | some x => rw [e1] at h; cases h
    | none =>
      rw [e1] at h
      cases e2 : H' a with
      | none => rw [e2] at h; cases h
      | some x =>
        rw [e2] at h
        have h : (if datO x = true then some x else none) = some o := h
        by_cases d : datO x = true
        · rw [if_pos d] at h
          cases h
          exact .inr ⟨rfl, rfl, rfl, d⟩
        · rw [if_neg d] at h; cases h
theorem grow_dat {G H H' : Hp} (d : Dat G) : Dat (Grow G H H') := fun a o h => by
  rcases grow_inv h with h | ⟨_, _, _, h⟩
  · exact d a o h
  · exact h
theorem same_grow (G H H' : Hp) : Same G (Grow G H H') := fun _ _ h => grow_old h
/-- what is not data, or was there beside G, isn't in it -/
theorem grow_out {G H H' : Hp} {a : Addr} {o : HO} (h : H a = some o) (g : G a = none) : Grow G H H' a = none := by
  unfold Grow; rw [g, h]
theorem dat_out {G H : Hp} {a : Addr} {o : HO} (d : Dat G) (s : Same G H) (h : H a = some o) (n : datO o = false) : G a = none := by
  cases e : G a with
  | none => rfl
  | some x =>
    have e2 := s a x e
    rw [h] at e2
    cases e2
    rw [d a _ e] at n
    cases n
theorem grow_in {G H H' : Hp} (s : Same G H') : Same (Grow G H H') H' := fun a o h => by
  rcases grow_inv h with h | ⟨_, _, h, _⟩
  · exact s a o h
  · exact h
theorem grow_mono {G H H' H'' : Hp} (s : ∀ b o, H b = none → H' b = some o → datO o = true → H'' b = some o) : Same (Grow G H H') (Grow G H H'') := fun a o h => by
  rcases grow_inv h with h | ⟨g, h1, h2, h3⟩
  · exact grow_old h
  · unfold Grow
    rw [g, h1, s a o h1 h2 h3]
    show (if datO o = true then some o else none) = some o
    rw [if_pos h3]
/-- the objects that are new behind a later heap are new behind an earlier one, too -/
theorem grow_later {G H H1 H' : Hp} (s : ∀ b, H1 b = none → H b = none) : Same (Grow G H1 H') (Grow G H H') := fun a o h => by
  rcases grow_inv h with h | ⟨g, h1, h2, h3⟩
  · exact grow_old h
  · unfold Grow
    rw [g, s a h1, h2]
    show (if datO o = true then some o else none) = some o
    rw [if_pos h3]
theorem grow_base {G G1 H H' : Hp} (s : Same G G1) (k : ∀ b o, G1 b = some o → G b = some o ∨ (H b = none ∧ H' b = some o ∧ datO o = true)) (sg : Same G H) : Same G1 (Grow G H H') := fun a o h => by
  rcases k a o h with h1 | ⟨h1, h2, h3⟩
  · exact grow_old h1
  · exact grow_new sg h1 h2 h3
/-- two steps -/
theorem grow_two {G H H1 H2 : Hp} (s1 : ∀ b, H1 b = none → H b = none) (s2 : ∀ b o, H b = none → H1 b = some o → datO o = true → H2 b = some o) : Same (Grow (Grow G H H1) H1 H2) (Grow G H H2) := fun a o h => by
  rcases grow_inv h with h | ⟨g, h1, h2, h3⟩
  · exact grow_mono s2 a o h
  · unfold Grow
    have ga : G a = none := by
      cases e : G a with
      | none => rfl
      | some x => rw [grow_old e] at g; cases g
    rw [ga, s1 a h1, h2]
    show (if datO o = true then some o else none) = some o
    rw [if_pos h3]
/-- none is new for what stands -/
theorem fr_none {r : Addr} {H H' : Hp} {o : HO} (hr : H' r = some o) (f : Fr r H H') : ∀ b, H' b = none → H b = none := fun b h => by
  cases e : H b with
  | none => rfl
  | some x =>
    by_cases c : b = r
    · subst c; rw [hr] at h; cases h
    · rw [f b x e c] at h; cases h
theorem same_none {H H' : Hp} (s : Same H H') : ∀ b, H' b = none → H b = none := fun _ h => s.free h

/-! ### what stands for a number, an item, a bar, a row of these -/
def ListAt {A : Type} (R : Hp → V → A → Prop) (G : Hp) (v : V) (l : List A) : Prop := ∃ a vs, v = .ref a ∧ G a = some (.lst vs) ∧ Paired (R G) vs l
def Mono {A : Type} (R : Hp → V → A → Prop) : Prop := ∀ G G' v x, Same G G' → R G v x → R G' v x
theorem listAt_mono {A : Type} {R : Hp → V → A → Prop} (m : Mono R) : Mono (ListAt R) := fun G G' v x s h => by
  obtain ⟨a, vs, e, h1, h2⟩ := h
  exact ⟨a, vs, e, s _ _ h1, Paired.mono (fun _ _ q => m _ _ _ _ s q) h2⟩
def NumsAt (G : Hp) (v : V) (l : List Nat) : Prop := ∃ a, v = .ref a ∧ G a = some (.lst (nV l))
theorem numsAt_mono : Mono NumsAt := fun _ _ _ _ s h => by
  obtain ⟨a, e, h1⟩ := h
  exact ⟨a, e, s _ _ h1⟩
def ItemAt (G : Hp) (v : V) (x : Sw71.Item) : Prop := ∃ t k, v = .ref t ∧ G t = some (.tup [.int (x.long : Int), k]) ∧ NumsAt G k x.keys
theorem itemAt_mono : Mono ItemAt := fun _ _ _ _ s h => by
  obtain ⟨t, k, e, h1, h2⟩ := h
  exact ⟨t, k, e, s _ _ h1, numsAt_mono _ _ _ _ s h2⟩
abbrev BarAt : Hp → V → Sw71.Bar → Prop := ListAt ItemAt
abbrev BarsAt : Hp → V → List Sw71.Bar → Prop := ListAt BarAt
abbrev RowsAt : Hp → V → List (List Nat) → Prop := ListAt NumsAt
theorem barAt_mono : Mono BarAt := listAt_mono itemAt_mono
theorem barsAt_mono : Mono BarsAt := listAt_mono barAt_mono
theorem rowsAt_mono : Mono RowsAt := listAt_mono numsAt_mono

/-! ### a global that is a whole number; a def of the text as callers have it -/
theorem pe_gi {X : Cx} {x : Str} {pos : Pos} {i : Int} (hg : Gl X x) (h : ∃ t, X.mg x = some (.int i t)) (hd : (x == ("__debug__" : Str)) = false := by decide) : PE X (.Name x pos) (tC (.int i)) := by
  obtain ⟨t, h⟩ := h
  exact pe_glob (v := .int i) hg h ⟨t, rfl⟩ hd
structure Dn (K : PySem.W.Frag) (mg : Str → Option Value) (x : Str) (st : Stmt) (ps : List Str) (f : Addr) (fd : FuncData) : Prop where
  fn : Fun K x x st f fd
  bd : Binds K fd ps []
  gf : mg x = some (.ref f)
/-- a def that may be called by its name -/
structure Cal (P : Program) (w : World) (K : PySem.W.Frag) (mg : Str → Option Value) (base : Heap) (x : Str) (k : Nat) (ps : List Str) (sp : Sp) : Prop where
  ex : ∃ f fd, FnOk P w K mg base CX0 k f fd ps sp ∧ mg x = some (.ref f) ∧ PySem.W.keepIn K (.ref f) = true ∧ Binds K fd ps []
theorem Dn.cal {P : Program} {w : World} {K : PySem.W.Frag} {mg : Str → Option Value} {base : Heap} {x : Str} {st : Stmt} {ps : List Str} {f : Addr} {fd : FuncData} {k : Nat} {sp : Sp} (D : Dn K mg x st ps f fd) (F : FnOk P w K mg base CX0 k f fd ps sp) : Cal P w K mg base x k ps sp :=
  ⟨f, fd, F, D.gf, D.fn.kp, D.bd⟩
/-- a method -/
structure Mth (P : Program) (w : World) (K : PySem.W.Frag) (mg : Str → Option Value) (base : Heap) (C : Addr) (m : Str) (k : Nat) (ps : List Str) (sp : Sp) : Prop where
  ex : ∃ f fd, FnOk P w K mg base CX0 k f fd ps sp ∧ Meth K C m f ∧ Binds K fd ps []
theorem iteF_of {c : Bool} {A B : Prop} (hc : c = false) (h : B) : if c = true then A else B := by
  rw [hc]; exact iteF h
theorem iteT_of {c : Bool} {A B : Prop} (hc : c = true) (h : A) : if c = true then A else B := by
  rw [hc]; exact iteT h
end Ps

namespace Ps
open PySem PySem.Spec PyProof.Rows L2
def top (i : Nat) : Stmt := PySem.Challenge.pw_partscore_s01_answers.main.body.getD i (.Pass ⟨0, 0, 0, 0⟩)
abbrev s_read_bar : Stmt := top 4
theorem sc_read_bar : FnScope ["reader", "bar", "turn", "length"] ["reader"] (defScope s_read_bar) := ⟨rfl, rfl, rfl, by decide +kernel, rfl, by decide +kernel, by decide +kernel⟩
abbrev s_read_bars : Stmt := top 5
theorem sc_read_bars : FnScope ["reader", "turn"] ["reader"] (defScope s_read_bars) := ⟨rfl, rfl, rfl, by decide +kernel, rfl, by decide +kernel, by decide +kernel⟩
abbrev s_bar_numbers : Stmt := top 6
theorem sc_bar_numbers : FnScope ["bar", "numbers", "length", "keys"] ["bar"] (defScope s_bar_numbers) := ⟨rfl, rfl, rfl, by decide +kernel, rfl, by decide +kernel, by decide +kernel⟩
abbrev s_bars_numbers : Stmt := top 7
theorem sc_bars_numbers : FnScope ["bars", "numbers", "bar"] ["bars"] (defScope s_bars_numbers) := ⟨rfl, rfl, rfl, by decide +kernel, rfl, by decide +kernel, by decide +kernel⟩
abbrev s_keys_as_told : Stmt := top 8
theorem sc_keys_as_told : FnScope ["keys", "lowest", "key"] ["keys"] (defScope s_keys_as_told) := ⟨rfl, rfl, rfl, by decide +kernel, rfl, by decide +kernel, by decide +kernel⟩
abbrev s_bar_as_told : Stmt := top 9
theorem sc_bar_as_told : FnScope ["bar", "bar_length", "total", "length", "keys"] ["bar", "bar_length"] (defScope s_bar_as_told) := ⟨rfl, rfl, rfl, by decide +kernel, rfl, by decide +kernel, by decide +kernel⟩
abbrev s_bars_as_told : Stmt := top 10
theorem sc_bars_as_told : FnScope ["bars", "bar_length", "bar"] ["bars", "bar_length"] (defScope s_bars_as_told) := ⟨rfl, rfl, rfl, by decide +kernel, rfl, by decide +kernel, by decide +kernel⟩
abbrev s_bar_rests : Stmt := top 11
theorem sc_bar_rests : FnScope ["bar", "length", "keys"] ["bar"] (defScope s_bar_rests) := ⟨rfl, rfl, rfl, by decide +kernel, rfl, by decide +kernel, by decide +kernel⟩
abbrev s_whole_rest : Stmt := top 12
theorem sc_whole_rest : FnScope ["bar_length"] ["bar_length"] (defScope s_whole_rest) := ⟨rfl, rfl, rfl, by decide +kernel, rfl, by decide +kernel, by decide +kernel⟩
abbrev s_kept_bar : Stmt := top 13
theorem sc_kept_bar : FnScope ["bar", "bar_length"] ["bar", "bar_length"] (defScope s_kept_bar) := ⟨rfl, rfl, rfl, by decide +kernel, rfl, by decide +kernel, by decide +kernel⟩
abbrev s_drawn_out : Stmt := top 18
theorem sc_drawn_out : FnScope ["score", "part", "least", "pieces", "place", "end"] ["score", "part", "least"] (defScope s_drawn_out) := ⟨rfl, rfl, rfl, by decide +kernel, rfl, by decide +kernel, by decide +kernel⟩
abbrev s_part_rests : Stmt := top 19
theorem sc_part_rests : FnScope ["score", "part", "place", "number"] ["score", "part", "place"] (defScope s_part_rests) := ⟨rfl, rfl, rfl, by decide +kernel, rfl, by decide +kernel, by decide +kernel⟩
abbrev s_rest_end : Stmt := top 20
theorem sc_rest_end : FnScope ["score", "part", "start", "end"] ["score", "part", "start"] (defScope s_rest_end) := ⟨rfl, rfl, rfl, by decide +kernel, rfl, by decide +kernel, by decide +kernel⟩
abbrev s_bar_piece : Stmt := top 21
theorem sc_bar_piece : FnScope ["score", "part", "place", "number"] ["score", "part", "place"] (defScope s_bar_piece) := ⟨rfl, rfl, rfl, by decide +kernel, rfl, by decide +kernel, by decide +kernel⟩
abbrev s_rest_pieces : Stmt := top 22
theorem sc_rest_pieces : FnScope ["score", "part", "start", "end", "least", "count", "cue", "cued"] ["score", "part", "start", "end", "least"] (defScope s_rest_pieces) := ⟨rfl, rfl, rfl, by decide +kernel, rfl, by decide +kernel, by decide +kernel⟩
abbrev s_cue_staff : Stmt := top 23
theorem sc_cue_staff : FnScope ["score", "part", "place", "number", "bars"] ["score", "part", "place"] (defScope s_cue_staff) := ⟨rfl, rfl, rfl, by decide +kernel, rfl, by decide +kernel, by decide +kernel⟩
abbrev s_Piece_init : Stmt := inClass (top 25) 0
theorem sc_Piece_init : FnScope ["self", "kind", "bar_count", "bars"] ["self", "kind", "bar_count", "bars"] (defScope s_Piece_init) := ⟨rfl, rfl, rfl, by decide +kernel, rfl, by decide +kernel, by decide +kernel⟩
abbrev s_read_piece : Stmt := top 26
theorem sc_read_piece : FnScope ["reader", "kind"] ["reader"] (defScope s_read_piece) := ⟨rfl, rfl, rfl, by decide +kernel, rfl, by decide +kernel, by decide +kernel⟩
abbrev s_read_pieces : Stmt := top 27
theorem sc_read_pieces : FnScope ["reader", "turn"] ["reader"] (defScope s_read_pieces) := ⟨rfl, rfl, rfl, by decide +kernel, rfl, by decide +kernel, by decide +kernel⟩
abbrev s_goes_over_break : Stmt := top 28
theorem sc_goes_over_break : FnScope ["score", "start", "end", "place"] ["score", "start", "end"] (defScope s_goes_over_break) := ⟨rfl, rfl, rfl, by decide +kernel, rfl, by decide +kernel, by decide +kernel⟩
abbrev s_piece_as_told : Stmt := top 29
theorem sc_piece_as_told : FnScope ["score", "staff_count", "piece", "place", "end", "bar"] ["score", "staff_count", "piece", "place"] (defScope s_piece_as_told) := ⟨rfl, rfl, rfl, by decide +kernel, rfl, by decide +kernel, by decide +kernel⟩
abbrev s_part_as_told : Stmt := top 30
theorem sc_part_as_told : FnScope ["score", "staff_count", "pieces", "place", "piece"] ["score", "staff_count", "pieces"] (defScope s_part_as_told) := ⟨rfl, rfl, rfl, by decide +kernel, rfl, by decide +kernel, by decide +kernel⟩
abbrev s_put_back : Stmt := top 31
theorem sc_put_back : FnScope ["score", "staff_count", "pieces", "number"] ["score", "staff_count", "pieces"] (defScope s_put_back) := ⟨rfl, rfl, rfl, by decide +kernel, rfl, by decide +kernel, by decide +kernel⟩
abbrev s_staff_put_back : Stmt := top 32
theorem sc_staff_put_back : FnScope ["score", "pieces", "number", "bars", "piece", "turn", "length"] ["score", "pieces", "number"] (defScope s_staff_put_back) := ⟨rfl, rfl, rfl, by decide +kernel, rfl, by decide +kernel, by decide +kernel⟩
abbrev s_LinedBar_init : Stmt := inClass (top 42) 0
theorem sc_LinedBar_init : FnScope ["self", "label", "lines"] ["self", "label", "lines"] (defScope s_LinedBar_init) := ⟨rfl, rfl, rfl, by decide +kernel, rfl, by decide +kernel, by decide +kernel⟩
abbrev s_read_lined_bar : Stmt := top 43
theorem sc_read_lined_bar : FnScope ["reader", "label"] ["reader"] (defScope s_read_lined_bar) := ⟨rfl, rfl, rfl, by decide +kernel, rfl, by decide +kernel, by decide +kernel⟩
abbrev s_read_lined_bars : Stmt := top 44
theorem sc_read_lined_bars : FnScope ["reader", "turn"] ["reader"] (defScope s_read_lined_bars) := ⟨rfl, rfl, rfl, by decide +kernel, rfl, by decide +kernel, by decide +kernel⟩
abbrev s_lined_bar_numbers : Stmt := top 45
theorem sc_lined_bar_numbers : FnScope ["lined"] ["lined"] (defScope s_lined_bar_numbers) := ⟨rfl, rfl, rfl, by decide +kernel, rfl, by decide +kernel, by decide +kernel⟩
abbrev s_items_chord : Stmt := top 46
theorem sc_items_chord : FnScope ["first", "second"] ["first", "second"] (defScope s_items_chord) := ⟨rfl, rfl, rfl, by decide +kernel, rfl, by decide +kernel, by decide +kernel⟩
abbrev s_bars_chord : Stmt := top 47
theorem sc_bars_chord : FnScope ["first", "second", "upper", "lower"] ["first", "second"] (defScope s_bars_chord) := ⟨rfl, rfl, rfl, by decide +kernel, rfl, by decide +kernel, by decide +kernel⟩
abbrev s_mode_of : Stmt := top 48
theorem sc_mode_of : FnScope ["first", "second"] ["first", "second"] (defScope s_mode_of) := ⟨rfl, rfl, rfl, by decide +kernel, rfl, by decide +kernel, by decide +kernel⟩
abbrev s_chords : Stmt := top 49
theorem sc_chords : FnScope ["first", "second", "upper", "lower"] ["first", "second"] (defScope s_chords) := ⟨rfl, rfl, rfl, by decide +kernel, rfl, by decide +kernel, by decide +kernel⟩
abbrev s_lines_of : Stmt := top 50
theorem sc_lines_of : FnScope ["mode", "first", "second"] ["mode", "first", "second"] (defScope s_lines_of) := ⟨rfl, rfl, rfl, by decide +kernel, rfl, by decide +kernel, by decide +kernel⟩
abbrev s_label_of : Stmt := top 51
theorem sc_label_of : FnScope ["mode", "in_force"] ["mode", "in_force"] (defScope s_label_of) := ⟨rfl, rfl, rfl, by decide +kernel, rfl, by decide +kernel, by decide +kernel⟩
abbrev s_put_on_one : Stmt := top 52
theorem sc_put_on_one : FnScope ["first", "second", "lined_bars", "in_force", "first_bar", "second_bar", "mode", "label"] ["first", "second"] (defScope s_put_on_one) := ⟨rfl, rfl, rfl, by decide +kernel, rfl, by decide +kernel, by decide +kernel⟩
abbrev s_labels_in_force : Stmt := top 53
theorem sc_labels_in_force : FnScope ["lined_bars", "labels", "in_force", "lined"] ["lined_bars"] (defScope s_labels_in_force) := ⟨rfl, rfl, rfl, by decide +kernel, rfl, by decide +kernel, by decide +kernel⟩
abbrev s_may_be_chords : Stmt := top 54
theorem sc_may_be_chords : FnScope ["line", "length", "keys"] ["line"] (defScope s_may_be_chords) := ⟨rfl, rfl, rfl, by decide +kernel, rfl, by decide +kernel, by decide +kernel⟩
abbrev s_lined_bar_as_told : Stmt := top 55
theorem sc_lined_bar_as_told : FnScope ["lined", "in_force", "bar_length"] ["lined", "in_force", "bar_length"] (defScope s_lined_bar_as_told) := ⟨rfl, rfl, rfl, by decide +kernel, rfl, by decide +kernel, by decide +kernel⟩
abbrev s_lined_bars_as_told : Stmt := top 56
theorem sc_lined_bars_as_told : FnScope ["lined_bars", "lengths", "labels", "lined", "in_force", "length"] ["lined_bars", "lengths"] (defScope s_lined_bars_as_told) := ⟨rfl, rfl, rfl, by decide +kernel, rfl, by decide +kernel, by decide +kernel⟩
abbrev s_parted_line : Stmt := top 57
theorem sc_parted_line : FnScope ["line", "in_force", "bar_length", "upper", "lower", "length", "keys"] ["line", "in_force", "bar_length"] (defScope s_parted_line) := ⟨rfl, rfl, rfl, by decide +kernel, rfl, by decide +kernel, by decide +kernel⟩
abbrev s_parted_bar : Stmt := top 58
theorem sc_parted_bar : FnScope ["lined", "in_force", "bar_length"] ["lined", "in_force", "bar_length"] (defScope s_parted_bar) := ⟨rfl, rfl, rfl, by decide +kernel, rfl, by decide +kernel, by decide +kernel⟩
abbrev s_parted_bars : Stmt := top 59
theorem sc_parted_bars : FnScope ["lined_bars", "lengths", "labels", "lined", "in_force", "length"] ["lined_bars", "lengths"] (defScope s_parted_bars) := ⟨rfl, rfl, rfl, by decide +kernel, rfl, by decide +kernel, by decide +kernel⟩
abbrev s_Reader_init : Stmt := inClass (top 61) 0
theorem sc_Reader_init : FnScope ["self", "numbers"] ["self", "numbers"] (defScope s_Reader_init) := ⟨rfl, rfl, rfl, by decide +kernel, rfl, by decide +kernel, by decide +kernel⟩
abbrev s_Reader_at_end : Stmt := inClass (top 61) 1
theorem sc_Reader_at_end : FnScope ["self"] ["self"] (defScope s_Reader_at_end) := ⟨rfl, rfl, rfl, by decide +kernel, rfl, by decide +kernel, by decide +kernel⟩
abbrev s_Reader_take : Stmt := inClass (top 61) 2
theorem sc_Reader_take : FnScope ["self", "number"] ["self"] (defScope s_Reader_take) := ⟨rfl, rfl, rfl, by decide +kernel, rfl, by decide +kernel, by decide +kernel⟩
abbrev s_Reader_take_row : Stmt := inClass (top 61) 3
theorem sc_Reader_take_row : FnScope ["self", "count", "row"] ["self"] (defScope s_Reader_take_row) := ⟨rfl, rfl, rfl, by decide +kernel, rfl, by decide +kernel, by decide +kernel⟩
abbrev s_with_lists : Stmt := top 67
theorem sc_with_lists : FnScope ["number", "rows", "answer", "row"] ["number", "rows"] (defScope s_with_lists) := ⟨rfl, rfl, rfl, by decide +kernel, rfl, by decide +kernel, by decide +kernel⟩
abbrev s_begins_as_told : Stmt := top 68
theorem sc_begins_as_told : FnScope ["lengths", "breaks", "length", "place"] ["lengths", "breaks"] (defScope s_begins_as_told) := ⟨rfl, rfl, rfl, by decide +kernel, rfl, by decide +kernel, by decide +kernel⟩
abbrev s_answer_begins : Stmt := top 69
theorem sc_answer_begins : FnScope ["score", "reader", "lengths", "breaks"] ["score", "reader"] (defScope s_answer_begins) := ⟨rfl, rfl, rfl, by decide +kernel, rfl, by decide +kernel, by decide +kernel⟩
abbrev s_staff_as_told : Stmt := top 70
theorem sc_staff_as_told : FnScope ["bars", "lengths", "bar", "length"] ["bars", "lengths"] (defScope s_staff_as_told) := ⟨rfl, rfl, rfl, by decide +kernel, rfl, by decide +kernel, by decide +kernel⟩
abbrev s_answer_staff : Stmt := top 71
theorem sc_answer_staff : FnScope ["score", "reader", "bars", "kept", "bar", "length"] ["score", "reader"] (defScope s_answer_staff) := ⟨rfl, rfl, rfl, by decide +kernel, rfl, by decide +kernel, by decide +kernel⟩
abbrev s_answer_staves : Stmt := top 72
theorem sc_answer_staves : FnScope ["score", "reader", "number"] ["score", "reader"] (defScope s_answer_staves) := ⟨rfl, rfl, rfl, by decide +kernel, rfl, by decide +kernel, by decide +kernel⟩
abbrev s_answer_draw : Stmt := top 73
theorem sc_answer_draw : FnScope ["score", "reader", "least", "part", "number", "pieces"] ["score", "reader"] (defScope s_answer_draw) := ⟨rfl, rfl, rfl, by decide +kernel, rfl, by decide +kernel, by decide +kernel⟩
abbrev s_answer_back : Stmt := top 74
theorem sc_answer_back : FnScope ["score", "reader", "staff_count", "pieces", "staves", "bars"] ["score", "reader"] (defScope s_answer_back) := ⟨rfl, rfl, rfl, by decide +kernel, rfl, by decide +kernel, by decide +kernel⟩
abbrev s_answer_two : Stmt := top 75
theorem sc_answer_two : FnScope ["score", "reader", "first", "second", "lined_bars", "lined"] ["score", "reader"] (defScope s_answer_two) := ⟨rfl, rfl, rfl, by decide +kernel, rfl, by decide +kernel, by decide +kernel⟩
abbrev s_answer_parted : Stmt := top 76
theorem sc_answer_parted : FnScope ["score", "reader", "lined_bars", "pairs", "first", "second", "pair"] ["score", "reader"] (defScope s_answer_parted) := ⟨rfl, rfl, rfl, by decide +kernel, rfl, by decide +kernel, by decide +kernel⟩
abbrev s_answer_call : Stmt := top 78
theorem sc_answer_call : FnScope ["score", "reader", "number"] ["score", "reader"] (defScope s_answer_call) := ⟨rfl, rfl, rfl, by decide +kernel, rfl, by decide +kernel, by decide +kernel⟩
abbrev s_Score_init : Stmt := inClass (top 80) 0
theorem sc_Score_init : FnScope ["self"] ["self"] (defScope s_Score_init) := ⟨rfl, rfl, rfl, by decide +kernel, rfl, by decide +kernel, by decide +kernel⟩
abbrev s_Score_begin : Stmt := inClass (top 80) 1
theorem sc_Score_begin : FnScope ["self", "lengths", "breaks"] ["self", "lengths", "breaks"] (defScope s_Score_begin) := ⟨rfl, rfl, rfl, by decide +kernel, rfl, by decide +kernel, by decide +kernel⟩
abbrev s_Score_add_staff : Stmt := inClass (top 80) 2
theorem sc_Score_add_staff : FnScope ["self", "bars"] ["self", "bars"] (defScope s_Score_add_staff) := ⟨rfl, rfl, rfl, by decide +kernel, rfl, by decide +kernel, by decide +kernel⟩
abbrev s_Score_has_staff : Stmt := inClass (top 80) 3
theorem sc_Score_has_staff : FnScope ["self", "number"] ["self", "number"] (defScope s_Score_has_staff) := ⟨rfl, rfl, rfl, by decide +kernel, rfl, by decide +kernel, by decide +kernel⟩
abbrev s_answers : Stmt := top 82
theorem sc_answers : FnScope ["calls", "reader", "score", "told", "answer"] ["calls"] (defScope s_answers) := ⟨rfl, rfl, rfl, by decide +kernel, rfl, by decide +kernel, by decide +kernel⟩
end Ps

namespace Ps
open PySem PySem.Spec PyProof.Rows L2
section
variable {P : Program} {w : World} {K : PySem.W.Frag} {mg : Str → Option Value} {base : Heap}
/-! ### bar_rests -/
def sp_bar_rests : Sp := fun vs H Q _ => ∃ v b, vs = [v] ∧ BarAt H v b ∧ Q (.bl (Sw71.rests b)) H
theorem rests_pre {b : Sw71.Bar} {i : Nat} {x : Sw71.Item} (h : b[i]? = some x) : (b.take (i + 1)).all (fun x => x.keys.isEmpty) = ((b.take i).all (fun x => x.keys.isEmpty) && x.keys.isEmpty) := by
  rw [snoc_take h, List.all_append]
  simp
theorem ok_bar_rests {f : Addr} {fd : FuncData} (D : Dn K mg "bar_rests" s_bar_rests ["bar"] f fd) : Cal P w K mg base "bar_rests" 1 ["bar"] sp_bar_rests := by
  refine D.cal (D.fn.ok sc_bar_rests (fun vs H Q E h => ?_) (fun cdv A outer s H vs Q E hr h => ?_))
  · obtain ⟨v, b, rfl, _⟩ := h
    rfl
  · obtain ⟨v, b, rfl, ⟨a, xs, rfl, ha, hp⟩, q⟩ := h
    refine ⟨_, (pss_cons (ps_for PassesOwn.never rfl (pi_list (pv 0)) (pg_tup rfl (pgs_cons (pg_name (i := 1) sc_bar_rests.nd rfl (Or.inl rfl)) (pgs_cons (pg_name (i := 2) sc_bar_rests.nd rfl (Or.inl rfl)) pgs_nil)))
        (pss_one (ps_if (pt_truth (pv 2) (by intro _; rfl))
          (pss_one (ps_ret pe_bl))
          pss_nil)))
      (pss_one (ps_ret pe_bl))), ?_⟩
    refine ⟨_, rfl, a, rfl, ⟨_, SqL.of ha⟩, for_list (K := K) (a := a) (xs := xs) (fun i σ H' => ∃ v1 v2, σ = [some (.ref a), v1, v2] ∧ H' = H ∧ (b.take i).all (fun x => x.keys.isEmpty) = true)
      ⟨none, none, rfl, rfl, rfl⟩ (fun i σ H' _ ⟨_, _, _, e, _⟩ => e ▸ SqL.of ha) ?_ ?_⟩
    · rintro i y σ H' hi ⟨v1, v2, rfl, rfl, hall⟩
      obtain ⟨x, hx, t, k, rfl, ht, l, rfl, hl⟩ := paired_at hp hi
      refine ⟨t, _, rfl, SqT.of ht, rfl, _, _, rfl, _, _, rfl, rfl, ?_⟩
      refine ⟨_, rfl, _, .inl ⟨_, SqL.of hl, rfl⟩, ?_⟩
      have step := rests_pre hx
      rw [hall] at step
      cases hk : x.keys with
      | nil =>
        rw [hk] at step
        refine iteF_of rfl ?_
        exact ⟨_, _, rfl, rfl, step⟩
      | cons z zs =>
        refine iteT_of rfl ?_
        have e : Sw71.rests b = false := by
          cases c : Sw71.rests b with
          | false => rfl
          | true =>
            have c2 : ∀ y ∈ b, y.keys.isEmpty = true := List.all_eq_true.mp c
            have c3 := c2 x (List.mem_of_getElem? hx)
            rw [hk] at c3
            cases c3
        rw [e] at q
        exact q
    · rintro σ H' ⟨v1, v2, rfl, rfl, hall⟩
      rw [hp.length, List.take_length] at hall
      have e : Sw71.rests b = true := hall
      rw [e] at q
      exact q
/-! ### keys_as_told -/
def kt : Nat → List Nat → Bool
  | _, [] => true
  | lo, k :: r => if k < lo ∨ 127 < k then false else kt (k + 1) r
theorem kt_eq : ∀ (ks : List Nat) (lo : Nat), kt lo ks = (Sw71.rising ks && (ks.all fun k => decide (k ≤ 127)) && (match ks with | [] => true | k :: _ => decide (lo ≤ k)))
  | [], _ => rfl
  | [k], lo => by
    simp only [kt, Sw71.rising, List.all_cons, List.all_nil, Bool.and_true, Bool.true_and]
    by_cases c : k < lo ∨ 127 < k
    · rw [if_pos c]
      rcases c with c | c
      · rw [decide_eq_false (show ¬ lo ≤ k by omega), Bool.and_false]
      · rw [decide_eq_false (show ¬ k ≤ 127 by omega), Bool.false_and]
    · rw [if_neg c, decide_eq_true (show k ≤ 127 by omega), decide_eq_true (show lo ≤ k by omega)]; rfl
  | k :: k2 :: r, lo => by
    have ih := kt_eq (k2 :: r) (k + 1)
    show (if k < lo ∨ 127 < k then false else kt (k + 1) (k2 :: r)) = ((decide (k < k2) && Sw71.rising (k2 :: r)) && (decide (k ≤ 127) && (k2 :: r).all fun k => decide (k ≤ 127)) && decide (lo ≤ k))
    by_cases c : k < lo ∨ 127 < k
    · rw [if_pos c]
      rcases c with c | c
      · rw [decide_eq_false (show ¬ lo ≤ k by omega), Bool.and_false]
      · rw [decide_eq_false (show ¬ k ≤ 127 by omega), Bool.false_and, Bool.and_false, Bool.false_and]
    · rw [if_neg c, ih, decide_eq_true (show k ≤ 127 by omega), decide_eq_true (show lo ≤ k by omega)]
      show (Sw71.rising (k2 :: r) && ((k2 :: r).all fun k => decide (k ≤ 127)) && decide (k + 1 ≤ k2)) = _
      rw [show decide (k + 1 ≤ k2) = decide (k < k2) from rfl]
      cases Sw71.rising (k2 :: r) <;> cases ((k2 :: r).all fun k => decide (k ≤ 127)) <;> cases decide (k < k2) <;> rfl
theorem kt_zero (ks : List Nat) : kt 0 ks = (Sw71.rising ks && ks.all fun k => decide (k ≤ 127)) := by
  rw [kt_eq]
  cases ks with
  | nil => rfl
  | cons k r =>
    show (_ && decide (0 ≤ k)) = _
    rw [decide_eq_true (Nat.zero_le k), Bool.and_true]
def keysOk (ks : List Nat) : Bool := decide (ks.length ≤ 6) && (Sw71.rising ks && ks.all fun k => decide (k ≤ 127))
theorem drop_at {A : Type} {l : List A} {i : Nat} {x : A} (h : l[i]? = some x) : l.drop i = x :: l.drop (i + 1) := by
  obtain ⟨h1, h2⟩ := List.getElem?_eq_some_iff.mp h
  rw [List.drop_eq_getElem_cons h1, h2]
def sp_keys_as_told : Sp := fun vs H Q _ => ∃ v ks, vs = [v] ∧ NumsAt H v ks ∧ Q (.bl (keysOk ks)) H
structure TxtK (mg : Str → Option Value) : Prop where
  g_MOST_ITEMS : ∃ t, mg "MOST_ITEMS" = some (.int 20 t)
  g_MOST_KEYS : ∃ t, mg "MOST_KEYS" = some (.int 6 t)
  g_HIGHEST_KEY : ∃ t, mg "HIGHEST_KEY" = some (.int 127 t)
  n_len : mg "len" = none
theorem ok_keys_as_told {f : Addr} {fd : FuncData} (T : TxtK mg) (D : Dn K mg "keys_as_told" s_keys_as_told ["keys"] f fd) : Cal P w K mg base "keys_as_told" 1 ["keys"] sp_keys_as_told := by
  refine D.cal (D.fn.ok sc_keys_as_told (fun vs H Q E h => ?_) (fun cdv A outer s H vs Q E hr h => ?_))
  · obtain ⟨v, b, rfl, _⟩ := h
    rfl
  · obtain ⟨v, ks, rfl, ⟨a, rfl, ha⟩, q⟩ := h
    refine ⟨_, (pss_cons (ps_if (pt_cmpR op_gt (pe_callB call_len_seq (by rfl) T.n_len PySem.boot_len (pa_cons (pv 0) pa_nil)) (pe_gi rfl T.g_MOST_KEYS) (nomark _))
        (pss_one (ps_ret pe_bl))
        pss_nil)
      (pss_cons (ps_set (i := 1) sc_keys_as_told.nd rfl (Or.inl rfl) pe_int)
      (pss_cons (ps_for PassesOwn.never rfl (pi_list (pv 0)) (pg_name (i := 2) sc_keys_as_told.nd rfl (Or.inl rfl))
        (pss_cons (ps_if (PW.pt (pw_or (pt_cmpR op_lt (pv 2) (pv 1) (nomark _)) (pw_or1 (pt_cmpR op_gt (pv 2) (pe_gi rfl T.g_HIGHEST_KEY) (nomark _)))))
          (pss_one (ps_ret pe_bl))
          pss_nil)
        (pss_one (ps_set (i := 1) sc_keys_as_told.nd rfl (Or.inl rfl) (pe_op op_add (pv 2) pe_int)))))
      (pss_one (ps_ret pe_bl))))), ?_⟩
    refine ⟨_, rfl, a, _, rfl, .inl (SqL.of ha), _, _, rfl, rfl, _, rfl, ?_⟩
    rw [nV_length]
    by_cases hlen : ks.length ≤ 6
    · refine iteF_of (decide_eq_false (by omega)) ?_
      have e6 : keysOk ks = kt 0 ks := by
        unfold keysOk
        rw [decide_eq_true hlen, kt_zero]; rfl
      rw [e6] at q
      refine ⟨_, rfl, a, rfl, ⟨_, SqL.of ha⟩, for_list (K := K) (a := a) (xs := nV ks) (fun i σ H' => ∃ (lo : Nat) (v2 : Option V), σ = [some (.ref a), some (.int (lo : Int)), v2] ∧ H' = H ∧ kt 0 ks = kt lo (ks.drop i))
        ⟨0, none, rfl, rfl, rfl⟩ (fun i σ H' _ ⟨_, _, _, e, _⟩ => e ▸ SqL.of ha) ?_ ?_⟩
      · rintro i y σ H' hi ⟨lo, v2, rfl, rfl, hkt⟩
        obtain ⟨n, hn, rfl⟩ := nV_at hi
        rw [drop_at hn] at hkt
        have hkt : kt 0 ks = if n < lo ∨ 127 < n then false else kt (n + 1) (ks.drop (i + 1)) := hkt
        refine ⟨_, rfl, _, rfl, _, _, rfl, rfl, _, rfl, ?_⟩
        by_cases c1 : n < lo
        · refine iteT_of (decide_eq_true (by omega)) ?_
          rw [if_pos (.inl c1)] at hkt
          rw [hkt] at q
          exact q
        · refine iteF_of (decide_eq_false (by omega)) ?_
          refine ⟨_, rfl, _, _, rfl, rfl, _, rfl, ?_⟩
          by_cases c2 : 127 < n
          · refine iteT_of (decide_eq_true (by omega)) ?_
            rw [if_pos (.inr c2)] at hkt
            rw [hkt] at q
            exact q
          · refine iteF_of (decide_eq_false (by omega)) ?_
            refine ⟨_, rfl, _, _, rfl, rfl, n + 1, _, rfl, rfl, ?_⟩
            rw [if_neg (by omega)] at hkt
            exact hkt
      · rintro σ H' ⟨lo, v2, rfl, rfl, hkt⟩
        rw [nV_length, List.drop_length] at hkt
        rw [hkt] at q
        exact q
    · refine iteT_of (decide_eq_true (by omega)) ?_
      have e : keysOk ks = false := by
        unfold keysOk
        rw [decide_eq_false hlen]; rfl
      rw [e] at q
      exact q
end
end Ps

namespace Ps
open PySem PySem.Spec PyProof.Rows L2
section
variable {P : Program} {w : World} {K : PySem.W.Frag} {mg : Str → Option Value} {base : Heap}
/-! ### bar_as_told -/
theorem total_acc : ∀ (b : Sw71.Bar) (n : Nat), b.foldl (fun n x => n + x.long) n = n + Sw71.total b
  | [], n => rfl
  | x :: b, n => by
    show b.foldl (fun n x => n + x.long) (n + x.long) = n + b.foldl (fun n x => n + x.long) (0 + x.long)
    rw [total_acc b, total_acc b (0 + x.long)]
    omega
theorem total_snoc (b : Sw71.Bar) (x : Sw71.Item) : Sw71.total (b ++ [x]) = Sw71.total b + x.long := by
  unfold Sw71.total
  rw [List.foldl_append]; rfl
theorem itemOk_eq (x : Sw71.Item) : Sw71.itemOk x = (decide (1 ≤ x.long) && keysOk x.keys) := rfl
theorem barOk_no {n : Nat} {b : Sw71.Bar} {x : Sw71.Item} (h : x ∈ b) (c : Sw71.itemOk x = false) : Sw71.barOk n b = false := by
  have e : b.all Sw71.itemOk = false := List.all_eq_false.mpr ⟨x, h, by rw [c]; exact Bool.false_ne_true⟩
  unfold Sw71.barOk
  rw [e, Bool.and_false, Bool.and_false]
theorem all_snoc {A : Type} {p : A → Bool} {l : List A} {i : Nat} {x : A} (h : l[i]? = some x) : (l.take (i + 1)).all p = ((l.take i).all p && p x) := by
  rw [snoc_take h, List.all_append]
  simp
def sp_bar_as_told : Sp := fun vs H Q _ => ∃ v b n, vs = [v, .int (n : Nat)] ∧ BarAt H v b ∧ Q (.bl (Sw71.barOk n b)) H
theorem ok_bar_as_told {f : Addr} {fd : FuncData} (T : TxtK mg) (D : Dn K mg "bar_as_told" s_bar_as_told ["bar", "bar_length"] f fd) (C1 : Cal P w K mg base "keys_as_told" 1 ["keys"] sp_keys_as_told) :
    Cal P w K mg base "bar_as_told" 2 ["bar", "bar_length"] sp_bar_as_told := by
  obtain ⟨f_keys_as_told, fd_keys_as_told, G_keys_as_told, m_keys_as_told, k_keys_as_told, b_keys_as_told⟩ := C1.ex
  refine D.cal (D.fn.ok sc_bar_as_told (fun vs H Q E h => ?_) (fun cdv A outer s H vs Q E hr h => ?_))
  · obtain ⟨v, b, n, rfl, _⟩ := h
    rfl
  · obtain ⟨v, b, n, rfl, ⟨a, xs, rfl, ha, hp⟩, q⟩ := h
    refine ⟨_, (pss_cons (ps_if (pt_cmpR op_gt (pe_callB call_len_seq (by rfl) T.n_len PySem.boot_len (pa_cons (pv 0) pa_nil)) (pe_gi rfl T.g_MOST_ITEMS) (nomark _))
        (pss_one (ps_ret pe_bl))
        pss_nil)
      (pss_cons (ps_set (i := 2) sc_bar_as_told.nd rfl (Or.inl rfl) pe_int)
      (pss_cons (ps_for PassesOwn.never rfl (pi_list (pv 0)) (pg_tup rfl (pgs_cons (pg_name (i := 3) sc_bar_as_told.nd rfl (Or.inl rfl)) (pgs_cons (pg_name (i := 4) sc_bar_as_told.nd rfl (Or.inl rfl)) pgs_nil)))
        (pss_cons (ps_if (PW.pt (pw_or (pt_cmpR op_lt (pv 3) pe_int (nomark _)) (pw_or1 (pt_not (pt_val (pe_call G_keys_as_told (hr.mono (by decide)) rfl m_keys_as_told k_keys_as_told b_keys_as_told .nil pass0 (pa_cons (pv 4) pa_nil)))))))
          (pss_one (ps_ret pe_bl))
          pss_nil)
        (pss_one (ps_aug (i := 2) sc_bar_as_told.nd rfl (Or.inl rfl) (pv 3) ip_add))))
      (pss_one (ps_ret (pe_cmpR op_eq (pv 2) (pv 1) (nomark _))))))), ?_⟩
    refine ⟨_, rfl, a, _, rfl, .inl (SqL.of ha), _, _, rfl, rfl, _, rfl, ?_⟩
    rw [hp.length]
    by_cases hlen : b.length ≤ 20
    · refine iteF_of (decide_eq_false (by omega)) ?_
      refine ⟨_, rfl, a, rfl, ⟨_, SqL.of ha⟩, for_list (K := K) (a := a) (xs := xs) (fun i σ H' => ∃ (v3 v4 : Option V), σ = [some (.ref a), some (.int (n : Int)), some (.int (Sw71.total (b.take i) : Nat)), v3, v4] ∧ H' = H ∧ (b.take i).all Sw71.itemOk = true)
        ⟨none, none, rfl, rfl, rfl⟩ (fun i σ H' _ ⟨_, _, _, e, _⟩ => e ▸ SqL.of ha) ?_ ?_⟩
      · rintro i y σ H' hi ⟨v3, v4, rfl, rfl, hall⟩
        obtain ⟨x, hx, t, k, rfl, ht, l, rfl, hl⟩ := paired_at hp hi
        have step := all_snoc (p := Sw71.itemOk) hx
        rw [hall, Bool.true_and] at step
        have tot : Sw71.total (b.take (i + 1)) = Sw71.total (b.take i) + x.long := by rw [snoc_take hx, total_snoc]
        refine ⟨t, _, rfl, SqT.of ht, rfl, _, _, rfl, _, _, rfl, rfl, ?_⟩
        refine ⟨_, rfl, _, _, rfl, rfl, _, rfl, ?_⟩
        by_cases c1 : x.long < 1
        · refine iteT_of (decide_eq_true (by omega)) ?_
          have e : Sw71.barOk n b = false := barOk_no (List.mem_of_getElem? hx) (by rw [itemOk_eq, decide_eq_false (by omega)]; rfl)
          rw [e] at q
          exact q
        · refine iteF_of (decide_eq_false (by omega)) ?_
          refine ⟨_, rfl, _, x.keys, rfl, ⟨l, rfl, hl⟩, _, rfl, ?_⟩
          cases c2 : keysOk x.keys with
          | false =>
            refine iteT_of rfl ?_
            have e : Sw71.barOk n b = false := barOk_no (List.mem_of_getElem? hx) (by rw [itemOk_eq, c2, Bool.and_false])
            rw [e] at q
            exact q
          | true =>
            refine iteF_of rfl ?_
            refine ⟨_, rfl, _, rfl, _, _, rfl, rfl, some (.int x.long), some (.ref l), ?_, rfl, ?_⟩
            · rw [tot, Int.natCast_add]; rfl
            · rw [step, itemOk_eq, c2, decide_eq_true (by omega)]; rfl
      · rintro σ H' ⟨v3, v4, rfl, rfl, hall⟩
        rw [hp.length, List.take_length] at hall ⊢
        refine ⟨_, rfl, _, rfl, rfl, ?_⟩
        have e : Sw71.barOk n b = decide ((V.int (Sw71.total b : Nat)) = V.int (n : Nat)) := by
          unfold Sw71.barOk
          rw [hall, decide_eq_true hlen, Bool.and_true, Bool.and_true]
          by_cases c : Sw71.total b = n
          · rw [decide_eq_true c, decide_eq_true (by rw [c])]
          · rw [decide_eq_false c, decide_eq_false (fun z => c (by injection z with z; exact Int.ofNat.inj z))]
        rw [e] at q
        exact q
    · refine iteT_of (decide_eq_true (by omega)) ?_
      have e : Sw71.barOk n b = false := by
        unfold Sw71.barOk
        rw [decide_eq_false hlen, Bool.false_and, Bool.and_false]
      rw [e] at q
      exact q
/-! ### kept_bar -/
/-- a bar that rests is told by one rest -/
def keptBar (b : Sw71.Bar) (n : Nat) : Sw71.Bar := if Sw71.rests b = true then [⟨n, []⟩] else b
theorem kept_plain {b : Sw71.Bar} {n : Nat} (h : Sw71.barOk n b = true) (hn : 1 ≤ n) : keptBar b n = Sw71.plain b := by
  unfold Sw71.barOk at h
  rw [Bool.and_eq_true] at h
  have e := of_decide_eq_true h.1
  have ne : b ≠ [] := fun z => by subst z; have e : 0 = n := e; omega
  unfold keptBar Sw71.plain
  by_cases c : Sw71.rests b = true
  · rw [if_pos c, if_pos ⟨c, ne⟩, e]
  · rw [if_neg c, if_neg (fun z => c z.1)]
theorem grow_zero {G H H' : Hp} (sG : Same G H) : Same (Grow Hp0 H H') (Grow G H H') := fun a o h => by
  rcases grow_inv h with h | ⟨_, h1, h2, h3⟩
  · cases h
  · exact grow_new sG h1 h2 h3
def sp_whole_rest : Sp := fun vs H Q _ => ∃ n : Nat, vs = [.int (n : Nat)] ∧ ∀ H' u, Same H H' → BarAt (Grow Hp0 H H') u [⟨n, []⟩] → Q u H'
theorem ok_whole_rest {f : Addr} {fd : FuncData} (D : Dn K mg "whole_rest" s_whole_rest ["bar_length"] f fd) : Cal P w K mg base "whole_rest" 1 ["bar_length"] sp_whole_rest := by
  refine D.cal (D.fn.ok sc_whole_rest (fun vs H Q E h => ?_) (fun cdv A outer s H vs Q E hr h => ?_))
  · obtain ⟨n, rfl, _⟩ := h
    rfl
  · obtain ⟨n, rfl, q⟩ := h
    refine ⟨_, (pss_one (ps_ret (pe_lst (pa_cons (pe_tup (pa_cons (pv 0) (pa_cons (pe_lst pa_nil) pa_nil))) pa_nil)))), ?_⟩
    refine ⟨_, rfl, Nat.zero_le _, fun l hl => ⟨by show 2 ≤ sizeLine; decide, fun t ht => ⟨by show 1 ≤ sizeLine; decide, fun p hp => ?_⟩⟩⟩
    have s1 := same_upd (o := .lst []) hl
    have s2 := same_upd (o := .tup [V.int n, .ref l]) ht
    have s3 := same_upd (o := .lst [.ref t]) hp
    refine q _ _ ((s1.trans s2).trans s3) ?_
    have fl : H l = none := hl
    have ft : H t = none := s1.free ht
    have fp : H p = none := (s1.trans s2).free hp
    have s0 := same0 H
    refine ⟨p, [.ref t], rfl, grow_new s0 fp upd_same rfl, .cons ⟨t, .ref l, rfl, grow_new s0 ft (s3 _ _ upd_same) rfl, l, rfl, grow_new s0 fl (s3 _ _ (s2 _ _ upd_same)) rfl⟩ .nil⟩
def sp_kept_bar : Sp := fun vs H Q _ => ∃ v b n G, vs = [v, .int (n : Nat)] ∧ Same G H ∧ BarAt G v b ∧
  ∀ H' u, Same H H' → BarAt (Grow G H H') u (keptBar b n) → Q u H'
theorem ok_kept_bar {f : Addr} {fd : FuncData} (D : Dn K mg "kept_bar" s_kept_bar ["bar", "bar_length"] f fd) (C1 : Cal P w K mg base "bar_rests" 1 ["bar"] sp_bar_rests) (C2 : Cal P w K mg base "whole_rest" 1 ["bar_length"] sp_whole_rest) :
    Cal P w K mg base "kept_bar" 2 ["bar", "bar_length"] sp_kept_bar := by
  obtain ⟨f_bar_rests, fd_bar_rests, G_bar_rests, m_bar_rests, k_bar_rests, b_bar_rests⟩ := C1.ex
  obtain ⟨f_whole_rest, fd_whole_rest, G_whole_rest, m_whole_rest, k_whole_rest, b_whole_rest⟩ := C2.ex
  refine D.cal (D.fn.ok sc_kept_bar (fun vs H Q E h => ?_) (fun cdv A outer s H vs Q E hr h => ?_))
  · obtain ⟨v, b, n, G, rfl, _⟩ := h
    rfl
  · obtain ⟨v, b, n, G, rfl, sG, hb, q⟩ := h
    refine ⟨_, (pss_cons (ps_if (pt_val (pe_call G_bar_rests (hr.mono (by decide)) rfl m_bar_rests k_bar_rests b_bar_rests .nil pass0 (pa_cons (pv 0) pa_nil)))
        (pss_one (ps_ret (pe_call G_whole_rest (hr.mono (by decide)) rfl m_whole_rest k_whole_rest b_whole_rest .nil pass0 (pa_cons (pv 1) pa_nil))))
        pss_nil)
      (pss_one (ps_ret (pv 0)))), ?_⟩
    refine ⟨_, rfl, v, b, rfl, barAt_mono _ _ _ _ sG hb, _, rfl, ?_⟩
    cases c : Sw71.rests b with
    | true =>
      refine iteT_of rfl ?_
      refine ⟨_, rfl, n, rfl, fun H1 u s1 hu => ?_⟩
      have e : keptBar b n = [⟨n, []⟩] := by unfold keptBar; rw [c]; rfl
      refine q _ _ s1 ?_
      rw [e]
      exact barAt_mono _ _ _ _ (grow_zero sG) hu
    | false =>
      refine iteF_of rfl ?_
      refine ⟨_, rfl, ?_⟩
      refine q _ _ (Same.refl H) ?_
      have e : keptBar b n = b := by unfold keptBar; rw [c]; rfl
      rw [e]
      exact barAt_mono _ _ _ _ (same_grow G H H) hb
/-! ### bar_numbers, bars_numbers -/
theorem barOut_eq (b : Sw71.Bar) : Sw71.barOut b = b.length :: b.flatMap fun x => x.long :: x.keys.length :: x.keys := rfl
def sp_bar_numbers : Sp := fun vs H Q _ => ∃ v b, vs = [v] ∧ BarAt H v b ∧ (Sw71.barOut b).length ≤ 10000000 ∧
  ∀ H' p, Same H H' → H p = none → H' p = some (.lst (nV (Sw71.barOut b))) → Q (.ref p) H'
theorem line_big {n : Nat} (h : n ≤ 10000000) : n < sizeLine := Nat.lt_of_le_of_lt h (by decide)
theorem ok_bar_numbers {f : Addr} {fd : FuncData} (T : TxtK mg) (D : Dn K mg "bar_numbers" s_bar_numbers ["bar"] f fd) : Cal P w K mg base "bar_numbers" 1 ["bar"] sp_bar_numbers := by
  refine D.cal (D.fn.ok sc_bar_numbers (fun vs H Q E h => ?_) (fun cdv A outer s H vs Q E hr h => ?_))
  · obtain ⟨v, b, rfl, _⟩ := h
    rfl
  · obtain ⟨v, b, rfl, hb, hbig, q⟩ := h
    obtain ⟨a, xs, rfl, ha, hp⟩ := hb
    refine ⟨_, (pss_cons (ps_set (i := 1) sc_bar_numbers.nd rfl (Or.inl rfl) (pe_lst (pa_cons (pe_callB call_len_seq (by rfl) T.n_len PySem.boot_len (pa_cons (pv 0) pa_nil)) pa_nil)))
      (pss_cons (ps_for PassesOwn.never rfl (pi_list (pv 0)) (pg_tup rfl (pgs_cons (pg_name (i := 2) sc_bar_numbers.nd rfl (Or.inl rfl)) (pgs_cons (pg_name (i := 3) sc_bar_numbers.nd rfl (Or.inl rfl)) pgs_nil)))
        (pss_cons (ps_expr (pe_bm PySem.F.plainAttrs_list PySem.F.slot_list_append PySem.F.type_list_append mt_append (pv 1) (pa_cons (pv 2) pa_nil)))
        (pss_cons (ps_expr (pe_bm PySem.F.plainAttrs_list PySem.F.slot_list_append PySem.F.type_list_append mt_append (pv 1) (pa_cons (pe_callB call_len_seq (by rfl) T.n_len PySem.boot_len (pa_cons (pv 3) pa_nil)) pa_nil)))
        (pss_one (ps_expr (pe_bm PySem.F.plainAttrs_list PySem.F.slot_list_extend PySem.F.type_list_extend mt_extend (pv 1) (pa_cons (pv 3) pa_nil)))))))
      (pss_one (ps_ret (pv 1))))), ?_⟩
    refine ⟨_, rfl, a, _, rfl, .inl (SqL.of ha), by show 1 ≤ sizeLine; decide, fun p np => ?_⟩
    rw [hp.length]
    have s1 : Same H (upd H p (.lst [V.int (b.length : Nat)])) := same_upd np
    refine ⟨_, rfl, a, rfl, ⟨_, SqL.of (s1 _ _ ha)⟩, for_list (K := K) (a := a) (xs := xs) (fun i σ H' => ∃ (v2 v3 : Option V), σ = [some (.ref a), some (.ref p), v2, v3] ∧ Same H H' ∧ H' p = some (.lst (nV (b.length :: (b.take i).flatMap fun x => x.long :: x.keys.length :: x.keys))))
      ⟨none, none, rfl, s1, upd_same⟩ (fun i σ H' _ ⟨_, _, _, s, _⟩ => SqL.of (s _ _ ha)) ?_ ?_⟩
    · rintro i y σ H' hi ⟨v2, v3, rfl, s, hpp⟩
      obtain ⟨x, hx, t, k, rfl, ht, l, rfl, hl⟩ := paired_at hp hi
      have step := flat_take (f := fun (x : Sw71.Item) => x.long :: x.keys.length :: x.keys) hx
      have le1 := flat_take_le (fun (x : Sw71.Item) => x.long :: x.keys.length :: x.keys) b (i + 1)
      rw [barOut_eq, List.length_cons] at hbig
      have le2 : ((b.take (i + 1)).flatMap fun (x : Sw71.Item) => x.long :: x.keys.length :: x.keys).length = ((b.take i).flatMap fun (x : Sw71.Item) => x.long :: x.keys.length :: x.keys).length + (x.keys.length + 2) := by
        rw [step, List.length_append]; rfl
      generalize hF : ((b.take i).flatMap fun (x : Sw71.Item) => x.long :: x.keys.length :: x.keys) = F0 at step le2 hpp
      have nlp : l ≠ p := ne_of_none hl np
      refine ⟨t, _, rfl, SqT.of (s _ _ ht), rfl, _, _, rfl, _, _, rfl, rfl, ?_⟩
      refine ⟨_, rfl, .inl ⟨rfl, _, SqL.of hpp⟩, _, rfl, p, _, _, rfl, rfl, hpp, line_big (by rw [nV_length, List.length_cons]; omega), ?_⟩
      refine ⟨_, rfl, .inl ⟨rfl, _, SqL.of upd_same⟩, _, rfl, l, _, rfl, .inl (SqL.of (by rw [upd_ne nlp]; exact s _ _ hl)), p, _, _, rfl, rfl, upd_same, line_big (by rw [List.length_append, nV_length, List.length_cons]; show _ + 1 ≤ _; omega), ?_⟩
      refine ⟨_, rfl, .inl ⟨rfl, _, SqL.of upd_same⟩, _, rfl, p, l, _, _, rfl, rfl, upd_same, (by rw [upd_ne nlp, upd_ne nlp]; exact s _ _ hl), Nat.le_of_lt (line_big (by rw [List.length_append, List.length_append, nV_length, nV_length, List.length_cons]; show _ + 1 + 1 + _ ≤ _; omega)), ?_⟩
      refine ⟨some (.int x.long), some (.ref l), rfl, fun c o e => ?_, ?_⟩
      · have nc : c ≠ p := ne_of_none e np
        rw [upd_ne nc, upd_ne nc, upd_ne nc]
        exact s _ _ e
      · rw [upd_same, step]
        congr 2
        rw [nV_length, show nV (b.length :: (F0 ++ x.long :: x.keys.length :: x.keys)) = nV (b.length :: F0) ++ nV (x.long :: x.keys.length :: x.keys) from by rw [← nV_append]; rfl]
        rw [List.append_assoc, List.append_assoc]; rfl
    · rintro σ H' ⟨v2, v3, rfl, s, hpp⟩
      rw [hp.length, List.take_length] at hpp
      exact ⟨_, rfl, q _ _ s np hpp⟩
def sp_bars_numbers : Sp := fun vs H Q _ => ∃ v l, vs = [v] ∧ BarsAt H v l ∧ (Sw71.staffOut l).length ≤ 10000000 ∧
  ∀ H' p, Same H H' → H p = none → H' p = some (.lst (nV (Sw71.staffOut l))) → Q (.ref p) H'
theorem ok_bars_numbers {f : Addr} {fd : FuncData} (D : Dn K mg "bars_numbers" s_bars_numbers ["bars"] f fd) (C1 : Cal P w K mg base "bar_numbers" 1 ["bar"] sp_bar_numbers) :
    Cal P w K mg base "bars_numbers" 2 ["bars"] sp_bars_numbers := by
  obtain ⟨f_bar_numbers, fd_bar_numbers, G_bar_numbers, m_bar_numbers, k_bar_numbers, b_bar_numbers⟩ := C1.ex
  refine D.cal (D.fn.ok sc_bars_numbers (fun vs H Q E h => ?_) (fun cdv A outer s H vs Q E hr h => ?_))
  · obtain ⟨v, b, rfl, _⟩ := h
    rfl
  · obtain ⟨v, b, rfl, hb, hbig, q⟩ := h
    obtain ⟨a, xs, rfl, ha, hp⟩ := hb
    refine ⟨_, (pss_cons (ps_set (i := 1) sc_bars_numbers.nd rfl (Or.inl rfl) (pe_lst pa_nil))
      (pss_cons (ps_for PassesOwn.never rfl (pi_list (pv 0)) (pg_name (i := 2) sc_bars_numbers.nd rfl (Or.inl rfl))
        (pss_one (ps_expr (pe_bm PySem.F.plainAttrs_list PySem.F.slot_list_extend PySem.F.type_list_extend mt_extend (pv 1) (pa_cons (pe_call G_bar_numbers (hr.mono (by decide)) rfl m_bar_numbers k_bar_numbers b_bar_numbers .nil pass0 (pa_cons (pv 2) pa_nil)) pa_nil)))))
      (pss_one (ps_ret (pv 1))))), ?_⟩
    refine ⟨Nat.zero_le _, fun p np => ?_⟩
    have s1 : Same H (upd H p (.lst [])) := same_upd np
    refine ⟨_, rfl, a, rfl, ⟨_, SqL.of (s1 _ _ ha)⟩, for_list (K := K) (a := a) (xs := xs) (fun i σ H' => ∃ (v2 : Option V), σ = [some (.ref a), some (.ref p), v2] ∧ Same H H' ∧ H' p = some (.lst (nV ((b.take i).flatMap Sw71.barOut))))
      ⟨none, rfl, s1, upd_same⟩ (fun i σ H' _ ⟨_, _, s, _⟩ => SqL.of (s _ _ ha)) ?_ ?_⟩
    · rintro i y σ H' hi ⟨v2, rfl, s, hpp⟩
      obtain ⟨x, hx, hxa⟩ := paired_at hp hi
      have step := flat_take (f := Sw71.barOut) hx
      have le1 := flat_take_le Sw71.barOut b (i + 1)
      have hbig : (b.flatMap Sw71.barOut).length ≤ 10000000 := hbig
      have le2 : ((b.take (i + 1)).flatMap Sw71.barOut).length = ((b.take i).flatMap Sw71.barOut).length + (Sw71.barOut x).length := by
        rw [step, List.length_append]
      refine ⟨_, rfl, .inl ⟨rfl, _, SqL.of hpp⟩, _, rfl, y, x, rfl, barAt_mono _ _ _ _ s hxa, by omega, fun H2 z s2 nz hz => ?_⟩
      refine ⟨p, z, _, _, rfl, rfl, s2 _ _ hpp, hz, Nat.le_of_lt (line_big (by rw [nV_length, nV_length]; omega)), ?_⟩
      refine ⟨some y, rfl, fun c o e => ?_, ?_⟩
      · rw [upd_ne (ne_of_none e np)]
        exact s2 _ _ (s _ _ e)
      · rw [upd_same, step, nV_append]
    · rintro σ H' ⟨v2, rfl, s, hpp⟩
      rw [hp.length, List.take_length] at hpp
      exact ⟨_, rfl, q _ _ s np hpp⟩
end
end Ps

namespace Ps
open PySem PySem.Spec PyProof.Rows L2
section
variable {P : Program} {w : World} {K : PySem.W.Frag} {mg : Str → Option Value} {base : Heap}
/-! ### attributes by name -/
theorem lk_here {k : Str} {v : V} {r : List (Str × V)} : List.lookup k ((k, v) :: r) = some v := by
  have e : (k == k) = true := beq_self_eq_true k
  simp only [List.lookup, e]
theorem lk_past {k g : Str} {v : V} {r : List (Str × V)} (h : (k == g) = false) : List.lookup k ((g, v) :: r) = List.lookup k r := by
  simp only [List.lookup, h]
theorem put_here {f : Str} {v x : V} {r : List (Str × V)} : putF f v ((f, x) :: r) = (f, v) :: r := if_pos rfl
theorem put_past {f g : Str} {v x : V} {r : List (Str × V)} (h : ¬ g = f) : putF f v ((g, x) :: r) = (g, x) :: putF f v r := if_neg h
/-! ### what a Reader has -/
def rdF (a : V) (p : Nat) : List (Str × V) := [("numbers", a), ("place", .int (p : Int))]
theorem rdF_n (a : V) (p : Nat) : (rdF a p).lookup ("numbers" : Str) = some a := lk_here
theorem rdF_p (a : V) (p : Nat) : (rdF a p).lookup ("place" : Str) = some (.int (p : Int)) := (lk_past (by decide +kernel)).trans lk_here
theorem rdF_put (a : V) (p : Nat) (i : Int) (q : Nat) (h : i = (q : Int)) : putF "place" (.int i) (rdF a p) = rdF a q := by
  subst h
  exact (put_past (by decide +kernel)).trans (congrArg _ put_here)
theorem rdF_new (a : V) : putF "place" (.int 0) (putF "numbers" a []) = rdF a 0 := (put_past (by decide +kernel)).trans rfl
theorem rdF_no (a : V) (p : Nat) {m : Str} (h1 : (m == ("numbers" : Str)) = false) (h2 : (m == ("place" : Str)) = false) : (rdF a p).lookup m = none := (lk_past h1).trans ((lk_past h2).trans rfl)
theorem sqL_fr {K : PySem.W.Frag} {H H' : Hp} {r a : Addr} {C dx : Addr} {fs : List (Str × V)} {xs : List V} (f : Fr r H H') (hr : H r = some (.ins C dx fs)) (h : SqL K H a xs) : SqL K H' a xs := by
  rcases h with (h | ⟨o, h⟩) | h
  · exact .inl (.inl (f _ _ h (ne_of h hr (by intro z; cases z))))
  · exact .inl (.inr ⟨o, f _ _ h (ne_of h hr (by intro z; cases z))⟩)
  · exact .inr h
/-- a Reader of the list ns at a stands at r, before it the numbers l -/
def RdP (C : Addr) (H : Hp) (r a : Addr) (ns l : List Int) : Prop := ∃ (dx : Addr) (p : Nat), H r = some (.ins C dx (rdF (.ref a) p)) ∧ ns.drop p = l ∧ p ≤ ns.length
def RdAt (K : PySem.W.Frag) (C : Addr) (H : Hp) (r a : Addr) (ns l : List Int) : Prop := RdP C H r a ns l ∧ SqL K H a (ns.map V.int)
theorem RdP.at {C : Addr} {H H' : Hp} {r a : Addr} {ns l : List Int} (h : RdP C H r a ns l) (e : ∀ o, H r = some o → H' r = some o) : RdP C H' r a ns l := by
  obtain ⟨dx, p, h1, h3, h4⟩ := h
  exact ⟨dx, p, e _ h1, h3, h4⟩
theorem RdP.ins {C : Addr} {H : Hp} {r a : Addr} {ns l : List Int} (h : RdP C H r a ns l) : ∃ dx fs, H r = some (.ins C dx fs) := by
  obtain ⟨dx, p, h1, _⟩ := h
  exact ⟨dx, _, h1⟩
/-- the list still stands where r alone has changed -/
theorem RdAt.on {C : Addr} {H H' : Hp} {r a : Addr} {ns l l' : List Int} (h : RdAt K C H r a ns l) (f : Fr r H H') (h' : RdP C H' r a ns l') : RdAt K C H' r a ns l' := by
  obtain ⟨dx, fs, hr⟩ := h.1.ins
  exact ⟨h', sqL_fr f hr h.2⟩
theorem RdAt.same {C : Addr} {H H' : Hp} {r a : Addr} {ns l : List Int} (h : RdAt K C H r a ns l) (s : Same H H') : RdAt K C H' r a ns l := ⟨h.1.at fun o e => s _ _ e, s.seq h.2⟩
structure TxtR (K : PySem.W.Frag) (mg : Str → Option Value) (C : Addr) : Prop where
  cl : Cls K C
  nN : NoAttr K C "numbers"
  nP : NoAttr K C "place"
  n_len : mg "len" = none
/-! ### Reader -/
def sp_rd_init (K : PySem.W.Frag) (C : Addr) : Sp := fun vs H Q _ => ∃ (r dx a : Addr) (ns : List Int), vs = [.ref r, .ref a] ∧ H r = some (.ins C dx []) ∧ SqL K H a (ns.map V.int) ∧
  ∀ H', RdP C H' r a ns ns → Fr r H H' → Q .non H'
theorem ok_rd_init {C f : Addr} {fd : FuncData} (F : Fun K "__init__" "Reader.__init__" s_Reader_init f fd) (T : TxtR K mg C) : FnOk P w K mg base CX0 1 f fd ["self", "numbers"] (sp_rd_init K C) := by
  refine F.ok sc_Reader_init (fun vs H Q E h => ?_) (fun cdv A outer s H vs Q E hr h => ?_)
  · obtain ⟨r, dx, a, ns, rfl, _⟩ := h
    rfl
  · obtain ⟨r, dx, a, ns, rfl, h1, h2, q⟩ := h
    refine ⟨_, (pss_cons (ps_fld (pv 0) (pv 1) rfl)
      (pss_one (ps_fld (pv 0) pe_int rfl))), ?_⟩
    refine ⟨_, rfl, _, rfl, r, C, dx, [], rfl, h1, T.cl, T.nN, (by show 0 < 1000; decide), ?_⟩
    refine ⟨_, rfl, r, C, dx, _, rfl, upd_same, T.cl, T.nP, (by show 1 < 1000; decide), ?_⟩
    have f : Fr r H (upd (upd H r (.ins C dx (putF "numbers" (.ref a) []))) r (.ins C dx (putF "place" (.int 0) (putF "numbers" (.ref a) [])))) := fr_upd.trans fr_upd
    refine q _ ⟨dx, 0, ?_, rfl, Nat.zero_le _⟩ f
    rw [upd_same, rdF_new]
def sp_rd_end (K : PySem.W.Frag) (C : Addr) : Sp := fun vs H Q _ => ∃ r a ns l, vs = [.ref r] ∧ RdAt K C H r a ns l ∧ Q (.bl l.isEmpty) H
theorem ok_rd_end {C f : Addr} {fd : FuncData} (F : Fun K "at_end" "Reader.at_end" s_Reader_at_end f fd) (T : TxtR K mg C) : FnOk P w K mg base CX0 1 f fd ["self"] (sp_rd_end K C) := by
  refine F.ok sc_Reader_at_end (fun vs H Q E h => ?_) (fun cdv A outer s H vs Q E hr h => ?_)
  · obtain ⟨r, a, ns, l, rfl, _⟩ := h
    rfl
  · obtain ⟨r, a, ns, l, rfl, ⟨⟨dx, p, h1, h3, h4⟩, h2⟩, q⟩ := h
    refine ⟨_, (pss_one (ps_ret (pe_cmpR op_ge (pe_fld (pv 0) rfl) (pe_callB call_len_seq (by rfl) T.n_len PySem.boot_len (pa_cons (pe_fld (pv 0) rfl) pa_nil)) (nomark _)))), ?_⟩
    refine ⟨_, rfl, r, C, dx, _, _, rfl, h1, T.cl, T.nP, rdF_p _ _, _, rfl, r, C, dx, _, _, rfl, h1, T.cl, T.nN, rdF_n _ _, a, _, rfl, .inl h2, _, _, rfl, rfl, ?_⟩
    have e : l.isEmpty = decide (((ns.map V.int).length : Int) ≤ (p : Int)) := by
      rw [List.length_map]
      subst h3
      by_cases c : ns.length ≤ p
      · rw [decide_eq_true (by omega), List.drop_eq_nil_of_le c]; rfl
      · rw [decide_eq_false (by omega)]
        cases z : ns.drop p with
        | nil => exact absurd (List.drop_eq_nil_iff.mp z) c
        | cons _ _ => rfl
    rw [e] at q
    exact q
def sp_rd_take (K : PySem.W.Frag) (C : Addr) : Sp := fun vs H Q _ => ∃ r a ns n l, vs = [.ref r] ∧ RdAt K C H r a ns (n :: l) ∧
  ∀ H', RdP C H' r a ns l → Fr r H H' → Q (.int n) H'
theorem drop_cons {A : Type} {l t : List A} {p : Nat} {x : A} (h : l.drop p = x :: t) : l[p]? = some x ∧ l.drop (p + 1) = t ∧ p < l.length := by
  have hp : p < l.length := by
    by_cases c : p < l.length
    · exact c
    · rw [List.drop_eq_nil_of_le (by omega)] at h; cases h
  rw [List.drop_eq_getElem_cons hp] at h
  injection h with h1 h2
  exact ⟨by rw [List.getElem?_eq_getElem hp, h1], h2, hp⟩
theorem ok_rd_take {C f : Addr} {fd : FuncData} (F : Fun K "take" "Reader.take" s_Reader_take f fd) (T : TxtR K mg C) : FnOk P w K mg base CX0 1 f fd ["self"] (sp_rd_take K C) := by
  refine F.ok sc_Reader_take (fun vs H Q E h => ?_) (fun cdv A outer s H vs Q E hr h => ?_)
  · obtain ⟨r, a, ns, n, l, rfl, _⟩ := h
    rfl
  · obtain ⟨r, a, ns, n, l, rfl, ⟨⟨dx, p, h1, h3, h4⟩, h2⟩, q⟩ := h
    refine ⟨_, (pss_cons (ps_set (i := 1) sc_Reader_take.nd rfl (Or.inl rfl) (pe_ix ix_list (pe_fld (pv 0) rfl) (pe_fld (pv 0) rfl) (fun _ _ => rfl)))
      (pss_cons (ps_fldaug (pv 0) pe_int in_add)
      (pss_one (ps_ret (pv 1))))), ?_⟩
    obtain ⟨d1, d2, d3⟩ := drop_cons h3
    refine ⟨_, rfl, r, C, dx, _, _, rfl, h1, T.cl, T.nN, rdF_n _ _, _, rfl, r, C, dx, _, _, rfl, h1, T.cl, T.nP, rdF_p _ _, a, _, _, .int n, rfl, rfl, h2, atI_nat (by rw [List.getElem?_map, d1]; rfl), ?_⟩
    refine ⟨_, rfl, r, C, dx, _, _, rfl, h1, T.cl, T.nP, rdF_p _ _, _, _, rfl, rfl, dx, _, h1, (by show 2 < 1000; decide), ?_⟩
    refine ⟨_, rfl, q _ ⟨dx, p + 1, ?_, d2, d3⟩ fr_upd⟩
    rw [upd_same, rdF_put _ _ _ (p + 1) (by omega)]
def sp_rd_row (K : PySem.W.Frag) (C : Addr) : Sp := fun vs H Q _ => ∃ r a ns row l, vs = [.ref r] ∧ RdAt K C H r a ns ((row.length : Int) :: (row ++ l)) ∧
  ∀ H' p, RdP C H' r a ns l → Fr r H H' → H p = none → H' p = some (.lst (row.map V.int)) → Q (.ref p) H'
theorem cut_mid (ns row l : List Int) (p : Nat) (h : ns.drop p = row ++ l) : cutV (ns.map V.int) (some (p : Int)) (some ((p : Int) + (row.length : Nat))) = row.map V.int := by
  unfold cutV
  have hl : ns.length - p = row.length + l.length := by
    have := congrArg List.length h
    rw [List.length_drop, List.length_append] at this
    exact this
  rw [show ((p : Int) + (row.length : Nat)) = ((p + row.length : Nat) : Int) from by omega, HT.sIx_nat, HT.sIx_nat, List.length_map]
  by_cases c : p ≤ ns.length
  · rw [show min p ns.length = p from by omega, show min (p + row.length) ns.length - p = row.length from by omega, ← List.map_drop, h, ← List.map_take, List.take_left]
  · have e : row = [] := List.eq_nil_of_length_eq_zero (by omega)
    subst e
    rw [show min (p + ([] : List Int).length) ns.length - min p ns.length = 0 from by simp]
    rfl
theorem ok_rd_row {C f : Addr} {fd : FuncData} (F : Fun K "take_row" "Reader.take_row" s_Reader_take_row f fd) (T : TxtR K mg C) (M1 : Mth P w K mg base C "take" 1 ["self"] (sp_rd_take K C)) : FnOk P w K mg base CX0 2 f fd ["self"] (sp_rd_row K C) := by
  obtain ⟨f_Reader_take, fd_Reader_take, G_Reader_take, h_Reader_take, b_Reader_take⟩ := M1.ex
  refine F.ok sc_Reader_take_row (fun vs H Q E h => ?_) (fun cdv A outer s H vs Q E hr h => ?_)
  · obtain ⟨r, a, ns, n, l, rfl, _⟩ := h
    rfl
  · obtain ⟨r, a, ns, row, l, rfl, hR, q⟩ := h
    refine ⟨_, (pss_cons (ps_set (i := 1) sc_Reader_take_row.nd rfl (Or.inl rfl) (pe_meth0 (pv 0) T.cl h_Reader_take G_Reader_take (hr.mono (by decide)) b_Reader_take .nil pass0))
      (pss_cons (ps_set (i := 2) sc_Reader_take_row.nd rfl (Or.inl rfl) (pe_slice sl_list (pe_fld (pv 0) rfl) (po_some (pe_fld (pv 0) rfl)) (po_some (pe_op op_add (pe_fld (pv 0) rfl) (pv 1)))))
      (pss_cons (ps_fldaug (pv 0) (pv 1) in_add)
      (pss_one (ps_ret (pv 2)))))), ?_⟩
    have hR' := hR
    obtain ⟨⟨dx0, p0, h10, _⟩, _⟩ := hR'
    refine ⟨_, rfl, r, dx0, _, rfl, h10, rdF_no _ _ (by decide +kernel) (by decide +kernel), r, a, ns, _, _, rfl, hR, fun H1 R1 f1 => ?_⟩
    obtain ⟨⟨dx, p, h1, h3, h4⟩, h2⟩ := hR.on f1 R1
    refine ⟨_, rfl, r, C, dx, _, _, rfl, h1, T.cl, T.nN, rdF_n _ _, _, rfl, r, C, dx, _, _, rfl, h1, T.cl, T.nP, rdF_p _ _, _, rfl, _, rfl, r, C, dx, _, _, rfl, h1, T.cl, T.nP, rdF_p _ _, _, rfl, _, _, rfl, rfl, _, rfl, a, _, rfl, h2, fun z nz => ?_⟩
    rw [cut_mid ns row l p h3]
    have s2 := same_upd (o := .lst (row.map V.int)) nz
    refine ⟨_, rfl, r, C, dx, _, _, rfl, s2 _ _ h1, T.cl, T.nP, rdF_p _ _, _, rfl, _, _, rfl, rfl, dx, _, s2 _ _ h1, (by show 2 < 1000; decide), ?_⟩
    have fz : Fr r H1 (upd (upd H1 z (.lst (row.map V.int))) r (.ins C dx (putF "place" (.int ((p : Int) + (row.length : Nat))) (rdF (.ref a) p)))) := (same_fr s2 r).trans fr_upd
    have len : p + row.length ≤ ns.length := by
      have := congrArg List.length h3
      rw [List.length_drop, List.length_append] at this
      omega
    have nzr : z ≠ r := fun e => by subst e; rw [h1] at nz; cases nz
    refine ⟨_, rfl, q _ z ⟨dx, p + row.length, ?_, ?_, len⟩ (f1.trans fz) (fr_none h1 f1 z nz) ?_⟩
    · rw [upd_same, rdF_put _ _ _ (p + row.length) (by omega)]
    · rw [← List.drop_drop, h3, List.drop_left]
    · rw [upd_ne nzr, upd_same]
end
end Ps

namespace Ps
open PySem PySem.Spec PyProof.Rows L2
section
variable {P : Program} {w : World} {K : PySem.W.Frag} {mg : Str → Option Value} {base : Heap}
/-! ### what the specification reads -/
open Sw71Neutral in
theorem many_step {A : Type} {p : List Int → Option (A × List Int)} {k : Nat} {l l' : List Int} {xs : List A} (h : many_ p (k + 1) l = some (xs, l')) : ∃ x l1 r, p l = some (x, l1) ∧ many_ p k l1 = some (r, l') ∧ xs = x :: r := by
  have h : ((p l).bind fun x => (many_ p k x.2).map fun y => (x.1 :: y.1, y.2)) = some (xs, l') := h
  cases e : p l with
  | none => rw [e] at h; cases h
  | some x =>
    obtain ⟨x, l1⟩ := x
    rw [e] at h
    have h : ((many_ p k l1).map fun y => (x :: y.1, y.2)) = some (xs, l') := h
    cases e2 : many_ p k l1 with
    | none => rw [e2] at h; cases h
    | some y =>
      obtain ⟨r, l2⟩ := y
      rw [e2] at h
      have h : some (x :: r, l2) = some (xs, l') := h
      cases h
      exact ⟨x, l1, r, rfl, e2, rfl⟩
open Sw71Neutral in
theorem many_zero {A : Type} {p : List Int → Option (A × List Int)} {l l' : List Int} {xs : List A} (h : many_ p 0 l = some (xs, l')) : xs = [] ∧ l' = l := by
  have h : some (([] : List A), l) = some (xs, l') := h
  cases h
  exact ⟨rfl, rfl⟩
open Sw71Neutral in
theorem listIn_some {A : Type} {p : List Int → Option (A × List Int)} {l l' : List Int} {xs : List A} (h : listIn p l = some (xs, l')) : ∃ (n : Nat) (l1 : List Int), l = (n : Int) :: l1 ∧ n ≤ 60 ∧ many_ p n l1 = some (xs, l') := by
  cases l with
  | nil => cases h
  | cons z l1 =>
    have h : (if 0 ≤ z ∧ z ≤ 60 then many_ p z.toNat l1 else none) = some (xs, l') := h
    by_cases c : 0 ≤ z ∧ z ≤ 60
    · rw [if_pos c] at h
      refine ⟨z.toNat, l1, ?_, by omega, h⟩
      rw [Int.toNat_of_nonneg c.1]
    · rw [if_neg c] at h; cases h
open Sw71Neutral in
theorem many_length {A : Type} {p : List Int → Option (A × List Int)} : ∀ {k : Nat} {l l' : List Int} {xs : List A}, many_ p k l = some (xs, l') → xs.length = k
  | 0, _, _, _, h => by rw [(many_zero h).1]; rfl
  | k + 1, _, _, _, h => by
    obtain ⟨x, l1, r, _, h2, e⟩ := many_step h
    rw [e, List.length_cons, many_length h2]
open Sw71Neutral in
theorem natIn_some {l l' : List Int} {n : Nat} (h : natIn l = some (n, l')) : l = (n : Int) :: l' ∧ n < 4294967296 := by
  cases l with
  | nil => cases h
  | cons z l1 =>
    have h : (if 0 ≤ z ∧ z < 2 ^ 32 then some (z.toNat, l1) else none) = some (n, l') := h
    by_cases c : 0 ≤ z ∧ z < 2 ^ 32
    · rw [if_pos c] at h
      cases h
      refine ⟨?_, by omega⟩
      rw [Int.toNat_of_nonneg c.1]
    · rw [if_neg c] at h; cases h
def nI (l : List Nat) : List Int := l.map fun (n : Nat) => (n : Int)
theorem nI_length (l : List Nat) : (nI l).length = l.length := List.length_map _
theorem nI_V (l : List Nat) : (nI l).map V.int = nV l := (nV_int l).symm
open Sw71Neutral in
theorem many_nat : ∀ {k : Nat} {l l' : List Int} {xs : List Nat}, many_ natIn k l = some (xs, l') → l = nI xs ++ l'
  | 0, l, l', xs, h => by
    obtain ⟨e1, e2⟩ := many_zero h
    subst e1 e2; rfl
  | k + 1, l, l', xs, h => by
    obtain ⟨x, l1, r, h1, h2, e⟩ := many_step h
    subst e
    rw [(natIn_some h1).1, many_nat h2]; rfl
open Sw71Neutral in
theorem rowIn_some {l l' : List Int} {xs : List Nat} (h : rowIn l = some (xs, l')) : l = ((nI xs).length : Int) :: (nI xs ++ l') ∧ xs.length ≤ 60 := by
  obtain ⟨n, l1, e, hn, h2⟩ := listIn_some h
  have e2 := many_length h2
  refine ⟨?_, by omega⟩
  rw [e, many_nat h2, nI_length, e2]
open Sw71Neutral in
theorem itemIn_some {l l' : List Int} {x : Sw71.Item} (h : itemIn l = some (x, l')) : l = (x.long : Int) :: ((nI x.keys).length : Int) :: (nI x.keys ++ l') ∧ x.keys.length ≤ 60 := by
  have h : ((natIn l).bind fun n => (rowIn n.2).map fun k => ((⟨n.1, k.1⟩ : Sw71.Item), k.2)) = some (x, l') := h
  cases e : natIn l with
  | none => rw [e] at h; cases h
  | some n =>
    obtain ⟨n, l1⟩ := n
    rw [e] at h
    have h : ((rowIn l1).map fun k => ((⟨n, k.1⟩ : Sw71.Item), k.2)) = some (x, l') := h
    cases e2 : rowIn l1 with
    | none => rw [e2] at h; cases h
    | some k =>
      obtain ⟨k, l2⟩ := k
      rw [e2] at h
      have h : some ((⟨n, k⟩ : Sw71.Item), l2) = some (x, l') := h
      cases h
      have q := rowIn_some e2
      exact ⟨by rw [(natIn_some e).1, q.1], q.2⟩
/-! ### read_bar -/
structure RdC (P : Program) (w : World) (K : PySem.W.Frag) (mg : Str → Option Value) (base : Heap) (C : Addr) : Prop where
  cl : Cls K C
  take : Mth P w K mg base C "take" 1 ["self"] (sp_rd_take K C)
  row : Mth P w K mg base C "take_row" 2 ["self"] (sp_rd_row K C)
  end_ : Mth P w K mg base C "at_end" 1 ["self"] (sp_rd_end K C)
  init : ∃ fI fd, Mk K C fI ∧ FnOk P w K mg base CX0 1 fI fd ["self", "numbers"] (sp_rd_init K C) ∧ Binds K fd ["self", "numbers"] []
  gC : mg "Reader" = some (.ref C)
/-- the instance and the numbers of a Reader are not changed by what is new -/
def sp_read_bar (K : PySem.W.Frag) (C : Addr) : Sp := fun vs H Q _ => ∃ r a ns l b l', vs = [.ref r] ∧ RdAt K C H r a ns l ∧ Sw71Neutral.barIn l = some (b, l') ∧
  ∀ H' u, RdP C H' r a ns l' → Fr r H H' → BarAt (Grow Hp0 H H') u b → Q u H'
theorem ok_read_bar {C f : Addr} {fd : FuncData} (n_range : mg "range" = none) (D : Dn K mg "read_bar" s_read_bar ["reader"] f fd) (R : RdC P w K mg base C) : Cal P w K mg base "read_bar" 3 ["reader"] (sp_read_bar K C) := by
  obtain ⟨f_Reader_take, fd_Reader_take, G_Reader_take, h_Reader_take, b_Reader_take⟩ := R.take.ex
  obtain ⟨f_Reader_take_row, fd_Reader_take_row, G_Reader_take_row, h_Reader_take_row, b_Reader_take_row⟩ := R.row.ex
  refine D.cal (D.fn.ok sc_read_bar (fun vs H Q E h => ?_) (fun cdv A outer s H vs Q E hr h => ?_))
  · obtain ⟨r, a, ns, l, b, l', rfl, _⟩ := h
    rfl
  · obtain ⟨r, a, ns, l, b, l', rfl, hR, hin, q⟩ := h
    obtain ⟨n, l1, el, hn, hm⟩ := listIn_some hin
    subst el
    refine ⟨_, (pss_cons (ps_set (i := 1) sc_read_bar.nd rfl (Or.inl rfl) (pe_lst pa_nil))
      (pss_cons (ps_for PassesOwn.never rfl (pi_range1 (by rfl) n_range (pa_cons (pe_meth0 (pv 0) R.cl h_Reader_take G_Reader_take (hr.mono (by decide)) b_Reader_take .nil pass0) pa_nil)) (pg_name (i := 2) sc_read_bar.nd rfl (Or.inl rfl))
        (pss_cons (ps_set (i := 3) sc_read_bar.nd rfl (Or.inl rfl) (pe_meth0 (pv 0) R.cl h_Reader_take G_Reader_take (hr.mono (by decide)) b_Reader_take .nil pass0))
        (pss_one (ps_expr (pe_bm PySem.F.plainAttrs_list PySem.F.slot_list_append PySem.F.type_list_append mt_append (pv 1) (pa_cons (pe_tup (pa_cons (pv 3) (pa_cons (pe_meth0 (pv 0) R.cl h_Reader_take_row G_Reader_take_row (hr.mono (by decide)) b_Reader_take_row .nil pass0) pa_nil))) pa_nil))))))
      (pss_one (ps_ret (pv 1))))), ?_⟩
    obtain ⟨⟨dx, p0, hr0, _⟩, _⟩ := id hR
    refine ⟨Nat.zero_le _, fun p np => ?_⟩
    have npr : r ≠ p := ne_of_none hr0 np
    have s1 : Same H (upd H p (.lst [])) := same_upd np
    have none1 : ∀ b, (upd H p (.lst [])) b = none → H b = none := fun b => s1.free
    have p1 : (upd H p (.lst [])) p = some (.lst []) := upd_same
    have R1 := hR.same s1
    generalize hH1 : upd H p (.lst []) = H1 at s1 none1 p1 R1 ⊢
    obtain ⟨⟨dx1, p1', hr1, _⟩, _⟩ := id R1
    refine ⟨_, rfl, r, dx1, _, rfl, hr1, rdF_no _ _ (by decide +kernel) (by decide +kernel), r, a, ns, _, _, rfl, R1, fun H2 R2 f2 => ?_⟩
    refine ⟨n, rfl, by omega, by omega, for_range (lo := 0) (n := (n : Int).toNat) (fun i σ H' => ∃ (v2 v3 : Option V) (vs : List V) (done rest : Sw71.Bar) (li : List Int), σ = [some (.ref r), some (.ref p), v2, v3] ∧
      Sw71Neutral.many_ Sw71Neutral.itemIn (n - i) li = some (rest, l') ∧ b = done ++ rest ∧ RdP C H' r a ns li ∧ H' p = some (.lst vs) ∧ (∀ c o, H1 c = some o → c ≠ r → c ≠ p → H' c = some o) ∧ Paired (ItemAt (Grow Hp0 H1 H')) vs done ∧ done.length = i)
      ⟨none, none, [], [], b, l1, rfl, hm, rfl, R2, f2 _ _ p1 npr.symm, fun c o e n1 _ => f2 c o e n1, .nil, rfl⟩ ?_ ?_⟩
    · rintro i σ H' hi ⟨v2, v3, vs, done, rest, li, rfl, hm', eb, R', hp', fr, pr, el⟩
      have hi : i < n := by simpa using hi
      obtain ⟨k, hk⟩ : ∃ k, n - i = k + 1 := ⟨n - i - 1, by omega⟩
      rw [hk] at hm'
      obtain ⟨x, l2, rest', hx, hm2, er⟩ := many_step hm'
      obtain ⟨ex, hxl⟩ := itemIn_some hx
      have frH : Fr r H H' := fun c o e n1 => fr c o (s1 _ _ e) n1 (ne_of_none e np)
      have Ra := hR.on frH R'
      rw [ex] at Ra
      obtain ⟨⟨dx2, q2, hr2, _⟩, _⟩ := id Ra
      refine ⟨_, rfl, r, dx2, _, rfl, hr2, rdF_no _ _ (by decide +kernel) (by decide +kernel), r, a, ns, _, _, rfl, Ra, fun HA RA fA => ?_⟩
      have hpA : HA p = some (.lst vs) := fA _ _ hp' npr.symm
      have Rb := Ra.on fA RA
      obtain ⟨⟨dx3, q3, hr3, _⟩, _⟩ := id Rb
      refine ⟨_, rfl, .inl ⟨rfl, _, SqL.of hpA⟩, _, rfl, _, rfl, r, dx3, _, rfl, hr3, rdF_no _ _ (by decide +kernel) (by decide +kernel), r, a, ns, _, _, rfl, Rb, fun HB z RB fB nz hz => ?_⟩
      refine ⟨by show 2 ≤ sizeLine; decide, fun t nt => ?_⟩
      have hpB : HB p = some (.lst vs) := fB _ _ hpA npr.symm
      have ntp : p ≠ t := ne_of_none hpB nt
      refine ⟨p, vs, _, rfl, rfl, by rw [upd_ne ntp]; exact hpB, line_big (by rw [pr.length, el]; omega), ?_⟩
      obtain ⟨dxB, qB, hrB, _⟩ := id RB
      have ntr : r ≠ t := ne_of_none hrB nt
      have nzp : z ≠ p := fun e => by subst e; rw [hpA] at nz; cases nz
      have nzt : z ≠ t := ne_of_none hz nt
      have frF : ∀ c o, H1 c = some o → c ≠ r → c ≠ p → (upd (upd HB t (.tup [V.int x.long, .ref z])) p (.lst (vs ++ [.ref t]))) c = some o := fun c o e n1 n2 => by
        have e3 := fB _ _ (fA _ _ (fr c o e n1 n2) n1) n1
        rw [upd_ne n2, upd_ne (ne_of_none e3 nt)]
        exact e3
      have noneB : ∀ c, HB c = none → H1 c = none := fun c e => by
        cases e2 : H1 c with
        | none => rfl
        | some o =>
          by_cases c1 : c = r
          · subst c1; rw [hrB] at e; cases e
          · by_cases c2 : c = p
            · subst c2; rw [hpB] at e; cases e
            · rw [fB _ _ (fA _ _ (fr c o e2 c1 c2) c1) c1] at e; cases e
      have noneA : ∀ c, HA c = none → H1 c = none := fun c e => by
        cases e2 : H1 c with
        | none => rfl
        | some o =>
          by_cases c1 : c = r
          · subst c1; rw [hr3] at e; cases e
          · by_cases c2 : c = p
            · subst c2; rw [hpA] at e; cases e
            · rw [fA _ _ (fr c o e2 c1 c2) c1] at e; cases e
      have mono : Same (Grow Hp0 H1 H') (Grow Hp0 H1 (upd (upd HB t (.tup [V.int x.long, .ref z])) p (.lst (vs ++ [.ref t])))) := grow_mono fun c o e1 e2 _ => by
        have c1 : c ≠ r := fun z => by subst z; rw [hr1] at e1; cases e1
        have c2 : c ≠ p := fun z => by subst z; rw [p1] at e1; cases e1
        have e3 := fB _ _ (fA _ _ e2 c1) c1
        rw [upd_ne c2, upd_ne (ne_of_none e3 nt)]
        exact e3
      refine ⟨some (.int (0 + i)), some (.int x.long), vs ++ [.ref t], done ++ [x], rest', l2, rfl, ?_, ?_, ?_, upd_same, frF, ?_, ?_⟩
      · rw [show n - (i + 1) = k by omega]; exact hm2
      · rw [eb, er, List.append_assoc]; rfl
      · exact RB.at fun o e => by rw [upd_ne npr, upd_ne ntr]; exact e
      · refine Paired.snoc (Paired.mono (fun _ _ h => itemAt_mono _ _ _ _ mono h) pr) ?_
        refine ⟨t, .ref z, rfl, grow_new (same0 _) (noneB t nt) (by rw [upd_ne ntp.symm, upd_same]) rfl, z, rfl, grow_new (same0 _) (noneA z nz) ?_ rfl⟩
        rw [upd_ne nzp, upd_ne nzt, hz, nI_V]
      · rw [List.length_append, el]; rfl
    · rintro σ H' ⟨v2, v3, vs, done, rest, li, rfl, hm', eb, R', hp', fr, pr, el⟩
      rw [show n - (n : Int).toNat = 0 by simp] at hm'
      obtain ⟨e1, e2⟩ := many_zero hm'
      subst e1 e2
      rw [List.append_nil] at eb
      subst eb
      refine ⟨_, rfl, q _ _ R' (fun c o e n1 => fr c o (s1 _ _ e) n1 (ne_of_none e np)) ⟨p, vs, rfl, grow_new (same0 _) np hp' rfl, ?_⟩⟩
      exact Paired.mono (fun _ _ h => itemAt_mono _ _ _ _ (grow_later none1) h) pr
end
end Ps

namespace Ps
open PySem PySem.Spec PyProof.Rows L2
section
variable {P : Program} {w : World} {K : PySem.W.Frag} {mg : Str → Option Value} {base : Heap}
/-! ### heaps in which two things change -/
def Fr2 (r p : Addr) (H H' : Hp) : Prop := ∀ c o, H c = some o → c ≠ r → c ≠ p → H' c = some o
theorem fr2_none {r p : Addr} {H H' : Hp} {o u : HO} (f : Fr2 r p H H') (hr : H' r = some o) (hp : H' p = some u) : ∀ c, H' c = none → H c = none := fun c e => by
  cases e2 : H c with
  | none => rfl
  | some x =>
    by_cases c1 : c = r
    · subst c1; rw [hr] at e; cases e
    · by_cases c2 : c = p
      · subst c2; rw [hp] at e; cases e
      · rw [f c x e2 c1 c2] at e; cases e
theorem fr2_fr {r p : Addr} {H H1 H2 : Hp} (f : Fr2 r p H H1) (g : Fr r H1 H2) : Fr2 r p H H2 := fun c o e n1 n2 => g _ _ (f c o e n1 n2) n1
theorem fr2_frp {r p : Addr} {H H1 H2 : Hp} (f : Fr2 r p H H1) (g : Fr p H1 H2) : Fr2 r p H H2 := fun c o e n1 n2 => g _ _ (f c o e n1 n2) n2
theorem fr2_same {r p : Addr} {H H1 H2 : Hp} (f : Fr2 r p H H1) (g : Same H1 H2) : Fr2 r p H H2 := fun c o e n1 n2 => g _ _ (f c o e n1 n2)
theorem fr_put {r p : Addr} {H H1 : Hp} {o u : HO} (f : Fr r H H1) (hp : H1 p = some u) (n : p ≠ r) : Fr2 r p H (upd H1 p o) := fun c x e n1 n2 => by
  rw [upd_ne n2]; exact f c x e n1
theorem lc_yes {σ : L2.St} {H : Hp} {X Y : Hp → Prop} (h : X H) : tYes σ H (fun b H3 => if b = true then X H3 else Y H3) := by
  show (if true = true then X H else Y H)
  rw [if_pos rfl]
  exact h
/-- a list stands where an instance and what came later have changed -/
theorem sqL_fr2 {H0 H' : Hp} {L a r : Addr} {C dx : Addr} {fs : List (Str × V)} {xs : List V} (h0 : SqL K H0 a xs) (hr : H0 r = some (.ins C dx fs)) (hL : H0 L = none) (f : ∀ c o, H0 c = some o → c ≠ r → c ≠ L → H' c = some o) : SqL K H' a xs := by
  rcases h0 with (h | ⟨o, h⟩) | h
  · exact .inl (.inl (f _ _ h (ne_of h hr (by intro z; cases z)) (ne_of_none h hL)))
  · exact .inl (.inr ⟨o, f _ _ h (ne_of h hr (by intro z; cases z)) (ne_of_none h hL)⟩)
  · exact .inr h
/-! ### read_bars -/
def sp_read_bars (K : PySem.W.Frag) (C : Addr) : Sp := fun vs H Q _ => ∃ r a ns l bars l', vs = [.ref r] ∧ RdAt K C H r a ns l ∧ Sw71Neutral.listIn Sw71Neutral.barIn l = some (bars, l') ∧
  ∀ H' u, RdP C H' r a ns l' → Fr r H H' → BarsAt (Grow Hp0 H H') u bars → Q u H'
theorem ok_read_bars {C f : Addr} {fd : FuncData} (n_range : mg "range" = none) (D : Dn K mg "read_bars" s_read_bars ["reader"] f fd) (R : RdC P w K mg base C)
    (C1 : Cal P w K mg base "read_bar" 3 ["reader"] (sp_read_bar K C)) : Cal P w K mg base "read_bars" 4 ["reader"] (sp_read_bars K C) := by
  obtain ⟨f_Reader_take, fd_Reader_take, G_Reader_take, h_Reader_take, b_Reader_take⟩ := R.take.ex
  obtain ⟨f_read_bar, fd_read_bar, G_read_bar, m_read_bar, k_read_bar, b_read_bar⟩ := C1.ex
  refine D.cal (D.fn.ok sc_read_bars (fun vs H Q E h => ?_) (fun cdv A outer s H vs Q E hr h => ?_))
  · obtain ⟨r, a, ns, l, bars, l', rfl, _⟩ := h
    rfl
  · obtain ⟨r, a, ns, l, bars, l', rfl, hR, hin, q⟩ := h
    obtain ⟨n, l1, el, hn, hm⟩ := listIn_some hin
    subst el
    refine ⟨_, (pss_one (ps_ret (pe_lc (own := [("turn", 1)]) rfl sc_read_bars.nd (pi_range1 (by rfl) n_range (pa_cons (pe_meth0 (pv 0) R.cl h_Reader_take G_Reader_take (hr.mono (by decide)) b_Reader_take .nil pass0) pa_nil)) (blkOk_by (own := [("turn", 1)]) (N := ["reader", "turn"]) (sc := defScope s_read_bars) (by decide +kernel)) (fun _ _ _ _ _ => (pg_name (i := 1) sc_read_bars.nd rfl (Or.inl rfl))) (fun _ _ _ _ _ => pts_nil) (fun _ _ _ _ _ => (pe_call G_read_bar (hr.mono (by decide)) rfl m_read_bar k_read_bar b_read_bar .nil pass0 (pa_cons (pv 0) pa_nil)))))), ?_⟩
    obtain ⟨⟨dx2, p2, hr2, _⟩, hS⟩ := id hR
    refine ⟨_, rfl, r, dx2, _, rfl, hr2, rdF_no _ _ (by decide +kernel) (by decide +kernel), r, a, _, _, _, rfl, hR, fun H3 R3 f3 => ?_⟩
    obtain ⟨dx3, p3, hr3, _⟩ := id R3
    have hS3 := (hR.on f3 R3).2
    refine ⟨n, rfl, by omega, by omega, fun L nL => lc_range (lo := 0) (n := (n : Int).toNat) (fun i H' => ∃ (vs : List V) (done rest : List Sw71.Bar) (li : List Int),
      Sw71Neutral.many_ Sw71Neutral.barIn (n - i) li = some (rest, l') ∧ bars = done ++ rest ∧ RdP C H' r a ns li ∧ H' L = some (.lst vs) ∧ Fr2 r L (upd H3 L (.lst [])) H' ∧ Paired (BarAt (Grow Hp0 (upd H3 L (.lst [])) H')) vs done ∧ done.length = i)
      ⟨[], [], bars, l1, hm, rfl, R3.at (fun o e => same_upd nL _ _ e), upd_same, fun c o e _ _ => e, .nil, rfl⟩ ?_ ?_⟩
    · have nLr : r ≠ L := ne_of_none hr3 nL
      have pL : (upd H3 L (.lst [])) L = some (.lst []) := upd_same
      have hrL : (upd H3 L (.lst [])) r = some (.ins C dx3 (rdF (.ref a) p3)) := by rw [upd_ne nLr]; exact hr3
      have n34 : ∀ c o, H3 c = some o → c ≠ L → (upd H3 L (.lst [])) c = some o := fun c o e z => by rw [upd_ne z]; exact e
      generalize hH4 : upd H3 L (.lst []) = H4 at pL hrL n34 ⊢
      rintro i H' hi ⟨vs, done, rest, li, hm', eb, R', hp', fr, pr, eLen⟩
      have hi : i < n := by simpa using hi
      obtain ⟨k, hk⟩ : ∃ k, n - i = k + 1 := ⟨n - i - 1, by omega⟩
      rw [hk] at hm'
      obtain ⟨x, l2, rest', hx, hm2, er⟩ := many_step hm'
      obtain ⟨dxi, pi, hri, _⟩ := id R'
      have hS' : SqL K H' a (ns.map V.int) := sqL_fr2 hS3 hr3 nL fun c o e n1 n2 => fr _ _ (n34 _ _ e n2) n1 n2
      refine ⟨rfl, ?_⟩
      refine lc_yes ?_
      refine ⟨_, rfl, r, a, _, li, x, l2, rfl, ⟨R', hS'⟩, hx, fun HA u RA fA hu => ?_⟩
      obtain ⟨dxA, pA, hrA, _⟩ := id RA
      have hLA : HA L = some (.lst vs) := fA _ _ hp' nLr.symm
      refine ⟨vs, hLA, line_big (by rw [pr.length, eLen]; omega), vs ++ [u], done ++ [x], rest', l2, ?_, ?_, RA.at (fun o e => by rw [upd_ne nLr]; exact e), upd_same, fr2_frp (fr2_fr fr fA) fr_upd, ?_, ?_⟩
      · rw [show n - (i + 1) = k by omega]; exact hm2
      · rw [eb, er, List.append_assoc]; rfl
      · have nz : ∀ c, H' c = none → H4 c = none := fr2_none fr hri hp'
        have mono1 : Same (Grow Hp0 H4 H') (Grow Hp0 H4 (upd HA L (.lst (vs ++ [u])))) := grow_mono fun c o e1 e2 _ => by
          have c1 : c ≠ r := fun z => by subst z; rw [hrL] at e1; cases e1
          have c2 : c ≠ L := fun z => by subst z; rw [pL] at e1; cases e1
          rw [upd_ne c2]
          exact fA _ _ e2 c1
        have mono2 : Same (Grow Hp0 H' HA) (Grow Hp0 H4 (upd HA L (.lst (vs ++ [u])))) := (grow_mono fun c o e1 e2 _ => by
          have c2 : c ≠ L := fun z => by subst z; rw [hp'] at e1; cases e1
          rw [upd_ne c2]
          exact e2).trans (grow_later nz)
        exact Paired.snoc (Paired.mono (fun _ _ h => barAt_mono _ _ _ _ mono1 h) pr) (barAt_mono _ _ _ _ mono2 hu)
      · rw [List.length_append, eLen]; rfl
    · rintro H' ⟨vs, done, rest, li, hm', eb, R', hp', fr, pr, eLen⟩
      rw [show n - (n : Int).toNat = 0 by simp] at hm'
      obtain ⟨e1, e2⟩ := many_zero hm'
      subst e1 e2
      rw [List.append_nil] at eb
      subst eb
      have nLH : H L = none := fr_none hr3 f3 L nL
      have fL : Fr r H H' := fun b o e c => fr _ _ (by rw [upd_ne (ne_of_none e nLH)]; exact f3 _ _ e c) c (ne_of_none e nLH)
      refine q _ _ R' fL ⟨L, vs, rfl, grow_new (same0 _) nLH hp' rfl, ?_⟩
      refine Paired.mono (fun _ _ h => barAt_mono _ _ _ _ (grow_later fun c e => ?_) h) pr
      by_cases c1 : c = L
      · subst c1; exact nLH
      · rw [upd_ne c1] at e
        exact fr_none hr3 f3 c e
end
end Ps

namespace Ps
open PySem PySem.Spec PyProof.Rows L2
section
variable {P : Program} {w : World} {K : PySem.W.Frag} {mg : Str → Option Value} {base : Heap}
/-! ### what a Score has -/
def scF (la ba sl : V) : List (Str × V) := [("lengths", la), ("breaks", ba), ("staves", sl)]
theorem scF_l (la ba sl : V) : (scF la ba sl).lookup ("lengths" : Str) = some la := lk_here
theorem scF_b (la ba sl : V) : (scF la ba sl).lookup ("breaks" : Str) = some ba := (lk_past (by decide +kernel)).trans lk_here
theorem scF_s (la ba sl : V) : (scF la ba sl).lookup ("staves" : Str) = some sl := (lk_past (by decide +kernel)).trans ((lk_past (by decide +kernel)).trans lk_here)
theorem scF_no (la ba sl : V) {m : Str} (h1 : (m == ("lengths" : Str)) = false) (h2 : (m == ("breaks" : Str)) = false) (h3 : (m == ("staves" : Str)) = false) : (scF la ba sl).lookup m = none := (lk_past h1).trans ((lk_past h2).trans ((lk_past h3).trans rfl))
theorem scF_new (la ba sl : V) : putF "staves" sl (putF "breaks" ba (putF "lengths" la [])) = scF la ba sl := by
  rw [show putF "lengths" la [] = [(("lengths" : Str), la)] from rfl]
  rw [show putF "breaks" ba [(("lengths" : Str), la)] = [(("lengths" : Str), la), (("breaks" : Str), ba)] from (put_past (by decide +kernel)).trans rfl]
  exact (put_past (by decide +kernel)).trans (congrArg _ ((put_past (by decide +kernel)).trans rfl))
theorem scF_put (la ba sl la' ba' sl' : V) : putF "staves" sl' (putF "breaks" ba' (putF "lengths" la' (scF la ba sl))) = scF la' ba' sl' := by
  rw [show putF "lengths" la' (scF la ba sl) = scF la' ba sl from put_here]
  rw [show putF "breaks" ba' (scF la' ba sl) = scF la' ba' sl from (put_past (by decide +kernel)).trans (congrArg _ put_here)]
  exact (put_past (by decide +kernel)).trans (congrArg _ ((put_past (by decide +kernel)).trans (congrArg _ put_here)))
structure TxtS (K : PySem.W.Frag) (mg : Str → Option Value) (C : Addr) : Prop where
  cl : Cls K C
  nL : NoAttr K C "lengths"
  nB : NoAttr K C "breaks"
  nS : NoAttr K C "staves"
  n_len : mg "len" = none
/-- the score S stands at s: its data within G, its list of staves at sl; t is another list, no data -/
structure ScP (C : Addr) (H G : Hp) (s sl t : Addr) (S : Sw71.Score) : Prop where
  dat : Dat G
  sub : Same G H
  gsl : G sl = none
  gt : G t = none
  ex : ∃ dx la ba vs, H s = some (.ins C dx (scF la ba (.ref sl))) ∧ NumsAt G la S.bars ∧ NumsAt G ba S.breaks ∧ H sl = some (.lst vs) ∧ Paired (BarsAt G) vs S.staves
theorem ScP.ins {C : Addr} {H G : Hp} {s sl t : Addr} {S : Sw71.Score} (h : ScP C H G s sl t S) : ∃ dx fs, H s = some (.ins C dx fs) := by
  obtain ⟨dx, la, ba, vs, h1, _⟩ := h.ex
  exact ⟨dx, _, h1⟩
theorem ScP.gs {C : Addr} {H G : Hp} {s sl t : Addr} {S : Sw71.Score} (h : ScP C H G s sl t S) : G s = none := by
  obtain ⟨dx, fs, h1⟩ := h.ins
  exact dat_out h.dat h.sub h1 rfl
/-- it stands where only other things have changed -/
theorem ScP.on {C : Addr} {H H' G G' : Hp} {s sl t : Addr} {S : Sw71.Score} (h : ScP C H G s sl t S) (d : Dat G') (g : Same G G') (sub : Same G' H') (g1 : G' sl = none) (g2 : G' t = none) (es : ∀ o, H s = some o → H' s = some o) (esl : ∀ o, H sl = some o → H' sl = some o) : ScP C H' G' s sl t S := by
  obtain ⟨dx, la, ba, vs, h1, h2, h3, h4, h5⟩ := h.ex
  exact ⟨d, sub, g1, g2, dx, la, ba, vs, es _ h1, numsAt_mono _ _ _ _ g h2, numsAt_mono _ _ _ _ g h3, esl _ h4, Paired.mono (fun _ _ q => barsAt_mono _ _ _ _ g q) h5⟩
/-! ### Score -/
def sp_sc_init (C : Addr) : Sp := fun vs H Q _ => ∃ (s dx : Addr), vs = [.ref s] ∧ H s = some (.ins C dx []) ∧
  ∀ H' sl, (∃ G, Same G H' ∧ ∀ t, G t = none → ScP C H' G s sl t Sw71.init) → Fr s H H' → H sl = none → Q .non H'
theorem ok_sc_init {C f : Addr} {fd : FuncData} (F : Fun K "__init__" "Score.__init__" s_Score_init f fd) (T : TxtS K mg C) : FnOk P w K mg base CX0 1 f fd ["self"] (sp_sc_init C) := by
  refine F.ok sc_Score_init (fun vs H Q E h => ?_) (fun cdv A outer s H vs Q E hr h => ?_)
  · obtain ⟨r, dx, rfl, _⟩ := h
    rfl
  · obtain ⟨s0, dx, rfl, h1, q⟩ := h
    refine ⟨_, (pss_cons (ps_fld (pv 0) (pe_lst pa_nil) rfl)
      (pss_cons (ps_fld (pv 0) (pe_lst pa_nil) rfl)
      (pss_one (ps_fld (pv 0) (pe_lst pa_nil) rfl)))), ?_⟩
    refine ⟨Nat.zero_le _, fun x nx => ?_⟩
    have sx := same_upd (o := .lst []) nx
    refine ⟨_, rfl, s0, C, dx, [], rfl, sx _ _ h1, T.cl, T.nL, (by show 0 < 1000; decide), ?_⟩
    have f1 : Fr s0 H (upd (upd H x (.lst [])) s0 (.ins C dx (putF "lengths" (.ref x) []))) := (same_fr sx s0).trans fr_upd
    refine ⟨Nat.zero_le _, fun y ny => ?_⟩
    have sy := same_upd (o := .lst []) ny
    have ysn : s0 ≠ y := ne_of_none upd_same ny
    refine ⟨_, rfl, s0, C, dx, _, rfl, sy _ _ upd_same, T.cl, T.nB, (by show 1 < 1000; decide), ?_⟩
    have f2 := (f1.trans (same_fr sy s0)).trans (fr_upd (o := .ins C dx (putF "breaks" (.ref y) (putF "lengths" (.ref x) []))))
    refine ⟨Nat.zero_le _, fun z nz => ?_⟩
    have sz := same_upd (o := .lst []) nz
    refine ⟨_, rfl, s0, C, dx, _, rfl, sz _ _ upd_same, T.cl, T.nS, (by show 2 < 1000; decide), ?_⟩
    have f3 := (f2.trans (same_fr sz s0)).trans (fr_upd (o := .ins C dx (putF "staves" (.ref z) (putF "breaks" (.ref y) (putF "lengths" (.ref x) [])))))
    have xs : x ≠ s0 := (ne_of_none h1 nx).symm
    have hx : (upd (upd (upd (upd (upd (upd H x (.lst [])) s0 (.ins C dx (putF "lengths" (.ref x) []))) y (.lst [])) s0 (.ins C dx (putF "breaks" (.ref y) (putF "lengths" (.ref x) [])))) z (.lst [])) s0 (.ins C dx (putF "staves" (.ref z) (putF "breaks" (.ref y) (putF "lengths" (.ref x) []))))) x = some (.lst []) := by
      rw [upd_ne xs]
      refine sz _ _ ?_
      rw [upd_ne xs]
      refine sy _ _ ?_
      rw [upd_ne xs, upd_same]
    have hy : (upd (upd (upd (upd (upd (upd H x (.lst [])) s0 (.ins C dx (putF "lengths" (.ref x) []))) y (.lst [])) s0 (.ins C dx (putF "breaks" (.ref y) (putF "lengths" (.ref x) [])))) z (.lst [])) s0 (.ins C dx (putF "staves" (.ref z) (putF "breaks" (.ref y) (putF "lengths" (.ref x) []))))) y = some (.lst []) := by
      rw [upd_ne ysn.symm]
      refine sz _ _ ?_
      rw [upd_ne ysn.symm, upd_same]
    have zs : z ≠ s0 := fun e => by subst e; rw [upd_same] at nz; cases nz
    have hz : (upd (upd (upd (upd (upd (upd H x (.lst [])) s0 (.ins C dx (putF "lengths" (.ref x) []))) y (.lst [])) s0 (.ins C dx (putF "breaks" (.ref y) (putF "lengths" (.ref x) [])))) z (.lst [])) s0 (.ins C dx (putF "staves" (.ref z) (putF "breaks" (.ref y) (putF "lengths" (.ref x) []))))) z = some (.lst []) := by
      rw [upd_ne zs, upd_same]
    have ny0 : H y = none := (fr_none (r := s0) (H := H) upd_same f1) y ny
    have nz0 : H z = none := (fr_none (r := s0) (H := H) upd_same f2) z nz
    have xy : x ≠ y := by
      refine ne_of_none (H := (upd (upd H x (.lst [])) s0 (.ins C dx (putF "lengths" (.ref x) [])))) (o := .lst []) ?_ ny
      rw [upd_ne xs, upd_same]
    have xz : x ≠ z := by
      refine ne_of_none (o := .lst []) ?_ nz
      rw [upd_ne xs]
      refine sy _ _ ?_
      rw [upd_ne xs, upd_same]
    have yz : y ≠ z := by
      refine ne_of_none (o := .lst []) ?_ nz
      rw [upd_ne ysn.symm, upd_same]
    have sub : Same (upd (upd Hp0 x (.lst [])) y (.lst [])) (upd (upd (upd (upd (upd (upd H x (.lst [])) s0 (.ins C dx (putF "lengths" (.ref x) []))) y (.lst [])) s0 (.ins C dx (putF "breaks" (.ref y) (putF "lengths" (.ref x) [])))) z (.lst [])) s0 (.ins C dx (putF "staves" (.ref z) (putF "breaks" (.ref y) (putF "lengths" (.ref x) []))))) := fun a o h => by
      by_cases c : a = y
      · subst c; rw [upd_same] at h; cases h; exact hy
      · rw [upd_ne c] at h
        by_cases c2 : a = x
        · subst c2; rw [upd_same] at h; cases h; exact hx
        · rw [upd_ne c2] at h; cases h
    refine q _ z ⟨upd (upd Hp0 x (.lst [])) y (.lst []), sub, fun t ht => ?_⟩ f3 nz0
    refine ⟨fun a o h => ?_, sub, ?_, ht, dx, .ref x, .ref y, [], ?_, ⟨x, rfl, ?_⟩, ⟨y, rfl, upd_same⟩, hz, .nil⟩
    · by_cases c : a = y
      · subst c; rw [upd_same] at h; cases h; rfl
      · rw [upd_ne c] at h
        by_cases c2 : a = x
        · subst c2; rw [upd_same] at h; cases h; rfl
        · rw [upd_ne c2] at h; cases h
    · rw [upd_ne yz.symm, upd_ne xz.symm]; rfl
    · rw [upd_same, scF_new]
    · rw [upd_ne xy, upd_same]; rfl
def sp_sc_begin (C : Addr) : Sp := fun vs H Q _ => ∃ (s dx x y : Addr) (la ba sl : V) (l b : List Nat), vs = [.ref s, .ref x, .ref y] ∧ H s = some (.ins C dx (scF la ba sl)) ∧ NumsAt H (.ref x) l ∧ NumsAt H (.ref y) b ∧
  ∀ H' sl, (∀ t, t ≠ x → t ≠ y → H t ≠ none → ∃ G, ScP C H' G s sl t ⟨l, b, []⟩) → Fr s H H' → H sl = none → Q .non H'
theorem nums_ref {G : Hp} {a : Addr} {l : List Nat} (h : NumsAt G (.ref a) l) : G a = some (.lst (nV l)) := by
  obtain ⟨x, e, h⟩ := h
  cases e
  exact h
theorem ok_sc_begin {C f : Addr} {fd : FuncData} (F : Fun K "begin" "Score.begin" s_Score_begin f fd) (T : TxtS K mg C) : FnOk P w K mg base CX0 1 f fd ["self", "lengths", "breaks"] (sp_sc_begin C) := by
  refine F.ok sc_Score_begin (fun vs H Q E h => ?_) (fun cdv A outer s H vs Q E hr h => ?_)
  · obtain ⟨s0, dx, x, y, la, ba, sl, l, b, rfl, _⟩ := h
    rfl
  · obtain ⟨s0, dx, x, y, la, ba, sl, l, b, rfl, h1, hx, hy, q⟩ := h
    refine ⟨_, (pss_cons (ps_fld (pv 0) (pv 1) rfl)
      (pss_cons (ps_fld (pv 0) (pv 2) rfl)
      (pss_one (ps_fld (pv 0) (pe_lst pa_nil) rfl)))), ?_⟩
    refine ⟨_, rfl, _, rfl, s0, C, dx, _, rfl, h1, T.cl, T.nL, (by show 3 < 1000; decide), ?_⟩
    have e1 : putF "lengths" (.ref x) (scF la ba sl) = scF (.ref x) ba sl := put_here
    rw [e1]
    refine ⟨_, rfl, _, rfl, s0, C, dx, _, rfl, upd_same, T.cl, T.nB, (by show 3 < 1000; decide), ?_⟩
    have e2 : putF "breaks" (.ref y) (scF (.ref x) ba sl) = scF (.ref x) (.ref y) sl := (put_past (by decide +kernel)).trans (congrArg _ put_here)
    rw [e2, upd_upd]
    refine ⟨Nat.zero_le _, fun z nz => ?_⟩
    have sz := same_upd (o := .lst []) nz
    refine ⟨_, rfl, s0, C, dx, _, rfl, sz _ _ upd_same, T.cl, T.nS, (by show 3 < 1000; decide), ?_⟩
    have e3 : putF "staves" (.ref z) (scF (.ref x) (.ref y) sl) = scF (.ref x) (.ref y) (.ref z) := (put_past (by decide +kernel)).trans (congrArg _ ((put_past (by decide +kernel)).trans (congrArg _ put_here)))
    rw [e3]
    have f : Fr s0 H (upd (upd (upd H s0 (.ins C dx (scF (.ref x) (.ref y) sl))) z (.lst [])) s0 (.ins C dx (scF (.ref x) (.ref y) (.ref z)))) := (fr_upd.trans (same_fr sz s0)).trans fr_upd
    have nz0 : H z = none := (fr_none (r := s0) (H := H) upd_same fr_upd) z nz
    have zs : z ≠ s0 := fun e => by subst e; rw [upd_same] at nz; cases nz
    have kx := nums_ref hx
    have ky := nums_ref hy
    have xs : x ≠ s0 := ne_of kx h1 (by intro z; cases z)
    have ys : y ≠ s0 := ne_of ky h1 (by intro z; cases z)
    have gi : ∀ a o, (if a = x ∨ a = y then H a else none) = some o → (a = x ∨ a = y) ∧ H a = some o := fun a o e => by
      by_cases c : a = x ∨ a = y
      · rw [if_pos c] at e; exact ⟨c, e⟩
      · rw [if_neg c] at e; cases e
    refine q _ z (fun t tx ty ht => ⟨fun a => if a = x ∨ a = y then H a else none, ?_⟩) f nz0
    refine ⟨fun a o e => ?_, fun a o e => ?_, ?_, ?_, dx, .ref x, .ref y, [], upd_same, ⟨x, rfl, ?_⟩, ⟨y, rfl, ?_⟩, ?_, .nil⟩
    · obtain ⟨c, e9⟩ := gi a o e
      clear e
      rcases c with rfl | rfl
      · rw [kx] at e9; cases e9; rfl
      · rw [ky] at e9; cases e9; rfl
    · obtain ⟨c, e9⟩ := gi a o e
      refine f _ _ e9 ?_
      rcases c with rfl | rfl
      · exact xs
      · exact ys
    · show (if z = x ∨ z = y then H z else none) = none
      rw [nz0]
      split <;> rfl
    · exact if_neg fun c => by
        rcases c with c | c
        · exact tx c
        · exact ty c
    · exact (if_pos (.inl rfl)).trans kx
    · exact (if_pos (.inr rfl)).trans ky
    · rw [upd_ne zs, upd_same]
def sp_sc_add (C : Addr) : Sp := fun vs H Q _ => ∃ (s sl t : Addr) (u : V) (G : Hp) (S : Sw71.Score) (st : List Sw71.Bar), vs = [.ref s, u] ∧ ScP C H G s sl t S ∧ BarsAt G u st ∧ S.staves.length < 1000 ∧
  ∀ H', ScP C H' G s sl t { S with staves := S.staves ++ [st] } → Fr sl H H' → Q (.int S.staves.length) H'
theorem ok_sc_add {C f : Addr} {fd : FuncData} (F : Fun K "add_staff" "Score.add_staff" s_Score_add_staff f fd) (T : TxtS K mg C) : FnOk P w K mg base CX0 1 f fd ["self", "bars"] (sp_sc_add C) := by
  refine F.ok sc_Score_add_staff (fun vs H Q E h => ?_) (fun cdv A outer s H vs Q E hr h => ?_)
  · obtain ⟨s0, sl, t, u, G, S, st, rfl, _⟩ := h
    rfl
  · obtain ⟨s0, sl, t, u, G, S, st, rfl, hP, hst, hlen, q⟩ := h
    obtain ⟨dx, la, ba, vs, h1, h2, h3, h4, h5⟩ := id hP.ex
    refine ⟨_, (pss_cons (ps_expr (pe_bm PySem.F.plainAttrs_list PySem.F.slot_list_append PySem.F.type_list_append mt_append (pe_fld (pv 0) rfl) (pa_cons (pv 1) pa_nil)))
      (pss_one (ps_ret (pe_op op_sub (pe_callB call_len_seq (by rfl) T.n_len PySem.boot_len (pa_cons (pe_fld (pv 0) rfl) pa_nil)) pe_int)))), ?_⟩
    refine ⟨_, rfl, s0, C, dx, _, _, rfl, h1, T.cl, T.nS, scF_s _ _ _, .inl ⟨rfl, _, SqL.of h4⟩, _, rfl, sl, vs, _, rfl, rfl, h4, line_big (by rw [h5.length]; omega), ?_⟩
    have ns : s0 ≠ sl := ne_of h1 h4 (by intro z; cases z)
    refine ⟨_, rfl, s0, C, dx, _, _, rfl, (by rw [upd_ne ns]; exact h1), T.cl, T.nS, scF_s _ _ _, sl, _, rfl, .inl (SqL.of upd_same), _, _, rfl, rfl, ?_⟩
    have e : (((vs ++ [u]).length : Int) - 1) = S.staves.length := by
      rw [List.length_append, h5.length]
      show ((S.staves.length + 1 : Nat) : Int) - 1 = _
      omega
    rw [← e] at q
    refine q _ ⟨hP.dat, fun a o h => ?_, hP.gsl, hP.gt, dx, la, ba, vs ++ [u], (by rw [upd_ne ns]; exact h1), h2, h3, upd_same, Paired.snoc h5 hst⟩ fr_upd
    have c : a ≠ sl := fun z => by subst z; rw [hP.gsl] at h; cases h
    rw [upd_ne c]
    exact hP.sub _ _ h
def sp_sc_has (C : Addr) : Sp := fun vs H Q _ => ∃ (s sl t : Addr) (n : Nat) (G : Hp) (S : Sw71.Score), vs = [.ref s, .int n] ∧ ScP C H G s sl t S ∧ Q (.bl (decide (n < S.staves.length))) H
theorem ok_sc_has {C f : Addr} {fd : FuncData} (F : Fun K "has_staff" "Score.has_staff" s_Score_has_staff f fd) (T : TxtS K mg C) : FnOk P w K mg base CX0 1 f fd ["self", "number"] (sp_sc_has C) := by
  refine F.ok sc_Score_has_staff (fun vs H Q E h => ?_) (fun cdv A outer s H vs Q E hr h => ?_)
  · obtain ⟨s0, sl, t, n, G, S, rfl, _⟩ := h
    rfl
  · obtain ⟨s0, sl, t, n, G, S, rfl, hP, q⟩ := h
    obtain ⟨dx, la, ba, vs, h1, h2, h3, h4, h5⟩ := hP.ex
    refine ⟨_, (pss_one (ps_ret (pe_cmpR op_lt (pv 1) (pe_callB call_len_seq (by rfl) T.n_len PySem.boot_len (pa_cons (pe_fld (pv 0) rfl) pa_nil)) (nomark _)))), ?_⟩
    refine ⟨_, rfl, _, rfl, s0, C, dx, _, _, rfl, h1, T.cl, T.nS, scF_s _ _ _, sl, _, rfl, .inl (SqL.of h4), _, _, rfl, rfl, ?_⟩
    have e : decide ((n : Int) < vs.length) = decide (n < S.staves.length) := by
      rw [h5.length]
      by_cases c : n < S.staves.length
      · rw [decide_eq_true c, decide_eq_true (by omega)]
      · rw [decide_eq_false c, decide_eq_false (by omega)]
    rw [← e] at q
    exact q
structure ScC (P : Program) (w : World) (K : PySem.W.Frag) (mg : Str → Option Value) (base : Heap) (C : Addr) : Prop where
  cl : Cls K C
  nL : NoAttr K C "lengths"
  nB : NoAttr K C "breaks"
  nS : NoAttr K C "staves"
  begin_ : Mth P w K mg base C "begin" 1 ["self", "lengths", "breaks"] (sp_sc_begin C)
  add : Mth P w K mg base C "add_staff" 1 ["self", "bars"] (sp_sc_add C)
  has : Mth P w K mg base C "has_staff" 1 ["self", "number"] (sp_sc_has C)
  init : ∃ fI fd, Mk K C fI ∧ FnOk P w K mg base CX0 1 fI fd ["self"] (sp_sc_init C) ∧ Binds K fd ["self"] []
  gC : mg "Score" = some (.ref C)
end
end Ps

namespace Ps
open PySem PySem.Spec PyProof.Rows L2
section
variable {P : Program} {w : World} {K : PySem.W.Frag} {mg : Str → Option Value} {base : Heap}
structure TxtC (mg : Str → Option Value) : Prop where
  g_MOST_BARS : ∃ t, mg "MOST_BARS" = some (.int 40 t)
  g_LONGEST_BAR : ∃ t, mg "LONGEST_BAR" = some (.int 64 t)
  g_MOST_BREAKS : ∃ t, mg "MOST_BREAKS" = some (.int 40 t)
  g_MOST_STAVES : ∃ t, mg "MOST_STAVES" = some (.int 8 t)
  n_len : mg "len" = none
  n_all : mg "all" = none
  n_zip : mg "zip" = none
/-! ### with_lists -/
theorem out_eq (i : Int) (rows : List (List Nat)) : Sw71Neutral.out ⟨i, rows⟩ = i :: rows.flatMap fun w => (w.length : Int) :: nI w := rfl
def sp_with_lists : Sp := fun vs H Q _ => ∃ (i : Int) (v : V) (rows : List (List Nat)), vs = [.int i, v] ∧ RowsAt H v rows ∧ (Sw71Neutral.out ⟨i, rows⟩).length ≤ 10000000 ∧
  ∀ H' p, Same H H' → H p = none → H' p = some (.lst ((Sw71Neutral.out ⟨i, rows⟩).map V.int)) → Q (.ref p) H'
theorem ok_with_lists {f : Addr} {fd : FuncData} (T : TxtC mg) (D : Dn K mg "with_lists" s_with_lists ["number", "rows"] f fd) : Cal P w K mg base "with_lists" 1 ["number", "rows"] sp_with_lists := by
  refine D.cal (D.fn.ok sc_with_lists (fun vs H Q E h => ?_) (fun cdv A outer s H vs Q E hr h => ?_))
  · obtain ⟨i, v, rows, rfl, _⟩ := h
    rfl
  · obtain ⟨i, v, rows, rfl, hb, hbig, q⟩ := h
    obtain ⟨a, xs, rfl, ha, hp⟩ := hb
    refine ⟨_, (pss_cons (ps_set (i := 2) sc_with_lists.nd rfl (Or.inl rfl) (pe_lst (pa_cons (pv 0) pa_nil)))
      (pss_cons (ps_for PassesOwn.never rfl (pi_list (pv 1)) (pg_name (i := 3) sc_with_lists.nd rfl (Or.inl rfl))
        (pss_cons (ps_expr (pe_bm PySem.F.plainAttrs_list PySem.F.slot_list_append PySem.F.type_list_append mt_append (pv 2) (pa_cons (pe_callB call_len_seq (by rfl) T.n_len PySem.boot_len (pa_cons (pv 3) pa_nil)) pa_nil)))
        (pss_one (ps_expr (pe_bm PySem.F.plainAttrs_list PySem.F.slot_list_extend PySem.F.type_list_extend mt_extend (pv 2) (pa_cons (pv 3) pa_nil))))))
      (pss_one (ps_ret (pv 2))))), ?_⟩
    refine ⟨_, rfl, by show 1 ≤ sizeLine; decide, fun p np => ?_⟩
    have s1 := same_upd (o := .lst [V.int i]) np
    refine ⟨_, rfl, a, rfl, ⟨_, SqL.of (s1 _ _ ha)⟩, for_list (K := K) (a := a) (xs := xs) (fun j σ H' => ∃ (v3 : Option V), σ = [some (.int i), some (.ref a), some (.ref p), v3] ∧ Same H H' ∧ H' p = some (.lst ((i :: (rows.take j).flatMap fun w => (w.length : Int) :: nI w).map V.int)))
      ⟨none, rfl, s1, upd_same⟩ (fun i σ H' _ ⟨_, _, s, _⟩ => SqL.of (s _ _ ha)) ?_ ?_⟩
    · rintro j y σ H' hi ⟨v3, rfl, s, hpp⟩
      obtain ⟨x, hx, l, rfl, hl⟩ := paired_at hp hi
      have step := flat_take (f := fun (w : List Nat) => (w.length : Int) :: nI w) hx
      have le1 := flat_take_le (fun (w : List Nat) => (w.length : Int) :: nI w) rows (j + 1)
      rw [out_eq, List.length_cons] at hbig
      have le2 : ((rows.take (j + 1)).flatMap fun (w : List Nat) => (w.length : Int) :: nI w).length = ((rows.take j).flatMap fun (w : List Nat) => (w.length : Int) :: nI w).length + (x.length + 1) := by
        rw [step, List.length_append, List.length_cons, nI_length]
      generalize hF : ((rows.take j).flatMap fun (w : List Nat) => (w.length : Int) :: nI w) = F0 at step le2 hpp
      have nlp : l ≠ p := ne_of_none hl np
      refine ⟨_, rfl, .inl ⟨rfl, _, SqL.of hpp⟩, _, rfl, l, _, rfl, .inl (SqL.of (s _ _ hl)), p, _, _, rfl, rfl, hpp, line_big (by rw [List.length_map, List.length_cons]; omega), ?_⟩
      refine ⟨_, rfl, .inl ⟨rfl, _, SqL.of upd_same⟩, _, rfl, p, l, _, _, rfl, rfl, upd_same, (by rw [upd_ne nlp]; exact s _ _ hl), Nat.le_of_lt (line_big (by rw [List.length_append, List.length_map, List.length_cons, nV_length]; show _ + 1 + 1 + _ ≤ _; omega)), ?_⟩
      refine ⟨some (.ref l), rfl, fun c o e => ?_, ?_⟩
      · have nc : c ≠ p := ne_of_none e np
        rw [upd_ne nc, upd_ne nc]
        exact s _ _ e
      · rw [upd_same, step]
        congr 2
        rw [nV_length, ← nI_V, List.map_cons, List.map_cons, List.map_append, List.map_cons]
        simp
    · rintro σ H' ⟨v3, rfl, s, hpp⟩
      rw [hp.length, List.take_length] at hpp
      exact ⟨_, rfl, q _ _ s np hpp⟩
/-! ### begins_as_told -/
def beginsOk (l b : List Nat) : Bool := decide (l.length ≤ 40) && ((l.all fun n => decide (1 ≤ n) && decide (n ≤ 64)) && (decide (b.length ≤ 40) && b.all fun i => decide (i < l.length)))
def sp_begins_as_told : Sp := fun vs H Q _ => ∃ u v l b, vs = [u, v] ∧ NumsAt H u l ∧ NumsAt H v b ∧ Q (.bl (beginsOk l b)) H
theorem all_no {A : Type} {p : A → Bool} {l : List A} {i : Nat} {x : A} (h : l[i]? = some x) (c : p x = false) : l.all p = false :=
  List.all_eq_false.mpr ⟨x, List.mem_of_getElem? h, by rw [c]; exact Bool.false_ne_true⟩
theorem ok_begins_as_told {f : Addr} {fd : FuncData} (T : TxtC mg) (D : Dn K mg "begins_as_told" s_begins_as_told ["lengths", "breaks"] f fd) : Cal P w K mg base "begins_as_told" 1 ["lengths", "breaks"] sp_begins_as_told := by
  refine D.cal (D.fn.ok sc_begins_as_told (fun vs H Q E h => ?_) (fun cdv A outer s H vs Q E hr h => ?_))
  · obtain ⟨u, v, l, b, rfl, _⟩ := h
    rfl
  · obtain ⟨u, v, l, b, rfl, ⟨x, rfl, hx⟩, ⟨y, rfl, hy⟩, q⟩ := h
    refine ⟨_, (pss_cons (ps_if (PW.pt (pw_or (pt_cmpR op_gt (pe_callB call_len_seq (by rfl) T.n_len PySem.boot_len (pa_cons (pv 0) pa_nil)) (pe_gi rfl T.g_MOST_BARS) (nomark _)) (pw_or1 (pt_cmpR op_gt (pe_callB call_len_seq (by rfl) T.n_len PySem.boot_len (pa_cons (pv 1) pa_nil)) (pe_gi rfl T.g_MOST_BREAKS) (nomark _)))))
        (pss_one (ps_ret pe_bl))
        pss_nil)
      (pss_cons (ps_for PassesOwn.never rfl (pi_list (pv 0)) (pg_name (i := 2) sc_begins_as_told.nd rfl (Or.inl rfl))
        (pss_one (ps_if (PW.pt (pw_or (pt_cmpR op_lt (pv 2) pe_int (nomark _)) (pw_or1 (pt_cmpR op_gt (pv 2) (pe_gi rfl T.g_LONGEST_BAR) (nomark _)))))
          (pss_one (ps_ret pe_bl))
          pss_nil)))
      (pss_cons (ps_for PassesOwn.never rfl (pi_list (pv 1)) (pg_name (i := 3) sc_begins_as_told.nd rfl (Or.inl rfl))
        (pss_one (ps_if (pt_cmpR op_ge (pv 3) (pe_callB call_len_seq (by rfl) T.n_len PySem.boot_len (pa_cons (pv 0) pa_nil)) (nomark _))
          (pss_one (ps_ret pe_bl))
          pss_nil)))
      (pss_one (ps_ret pe_bl))))), ?_⟩
    refine ⟨_, rfl, x, _, rfl, .inl (SqL.of hx), _, _, rfl, rfl, _, rfl, ?_⟩
    rw [nV_length]
    by_cases c1 : 40 < l.length
    · refine iteT_of (decide_eq_true (by omega)) ?_
      have e : beginsOk l b = false := by
        unfold beginsOk
        rw [decide_eq_false (by omega), Bool.false_and]
      rw [e] at q
      exact q
    refine iteF_of (decide_eq_false (by omega)) ?_
    refine ⟨_, rfl, y, _, rfl, .inl (SqL.of hy), _, _, rfl, rfl, _, rfl, ?_⟩
    rw [nV_length]
    by_cases c2 : 40 < b.length
    · refine iteT_of (decide_eq_true (by omega)) ?_
      have e : beginsOk l b = false := by
        unfold beginsOk
        rw [decide_eq_false (p := b.length ≤ 40) (by omega), Bool.false_and, Bool.and_false, Bool.and_false]
      rw [e] at q
      exact q
    refine iteF_of (decide_eq_false (by omega)) ?_
    have e0 : beginsOk l b = ((l.all fun n => decide (1 ≤ n) && decide (n ≤ 64)) && (b.all fun i => decide (i < l.length))) := by
      unfold beginsOk
      rw [decide_eq_true (p := l.length ≤ 40) (by omega), decide_eq_true (p := b.length ≤ 40) (by omega), Bool.true_and, Bool.true_and]
    rw [e0] at q
    refine ⟨_, rfl, x, rfl, ⟨_, SqL.of hx⟩, for_list (K := K) (a := x) (xs := nV l) (fun i σ H' => ∃ (v2 : Option V), σ = [some (.ref x), some (.ref y), v2, none] ∧ H' = H ∧ ((l.take i).all fun n => decide (1 ≤ n) && decide (n ≤ 64)) = true)
      ⟨none, rfl, rfl, rfl⟩ (fun i σ H' _ ⟨_, _, e, _⟩ => e ▸ SqL.of hx) ?_ ?_⟩
    · rintro i z σ H' hi ⟨v2, rfl, rfl, hall⟩
      obtain ⟨n, hn, rfl⟩ := nV_at hi
      have step := all_snoc (p := fun n => decide (1 ≤ n) && decide (n ≤ 64)) hn
      rw [hall, Bool.true_and] at step
      refine ⟨_, rfl, _, _, rfl, rfl, _, rfl, ?_⟩
      by_cases d1 : n < 1
      · refine iteT_of (decide_eq_true (by omega)) ?_
        rw [all_no hn (by show (decide (1 ≤ n) && decide (n ≤ 64)) = false; rw [decide_eq_false (by omega)]; rfl), Bool.false_and] at q
        exact q
      refine iteF_of (decide_eq_false (by omega)) ?_
      refine ⟨_, rfl, _, _, rfl, rfl, _, rfl, ?_⟩
      by_cases d2 : 64 < n
      · refine iteT_of (decide_eq_true (by omega)) ?_
        rw [all_no hn (by show (decide (1 ≤ n) && decide (n ≤ 64)) = false; rw [decide_eq_false (p := n ≤ 64) (by omega), Bool.and_false]), Bool.false_and] at q
        exact q
      refine iteF_of (decide_eq_false (by omega)) ?_
      refine ⟨_, rfl, rfl, ?_⟩
      rw [step, decide_eq_true (p := 1 ≤ n) (by omega), decide_eq_true (p := n ≤ 64) (by omega)]; rfl
    · rintro σ H' ⟨v2, rfl, rfl, hall⟩
      rw [nV_length, List.take_length] at hall
      rw [hall, Bool.true_and] at q
      refine ⟨_, rfl, y, rfl, ⟨_, SqL.of hy⟩, for_list (K := K) (a := y) (xs := nV b) (fun i σ H2 => ∃ (v3 : Option V), σ = [some (.ref x), some (.ref y), v2, v3] ∧ H2 = H' ∧ ((b.take i).all fun i => decide (i < l.length)) = true)
        ⟨none, rfl, rfl, rfl⟩ (fun i σ H2 _ ⟨_, _, e, _⟩ => e ▸ SqL.of hy) ?_ ?_⟩
      · rintro i z σ H2 hi ⟨v3, rfl, rfl, hall2⟩
        obtain ⟨n, hn, rfl⟩ := nV_at hi
        have step := all_snoc (p := fun i => decide (i < l.length)) hn
        rw [hall2, Bool.true_and] at step
        refine ⟨_, rfl, _, rfl, x, _, rfl, .inl (SqL.of hx), _, _, rfl, rfl, _, rfl, ?_⟩
        rw [nV_length]
        by_cases d1 : l.length ≤ n
        · refine iteT_of (decide_eq_true (by omega)) ?_
          rw [all_no hn (by show decide (n < l.length) = false; exact decide_eq_false (by omega))] at q
          exact q
        refine iteF_of (decide_eq_false (by omega)) ?_
        refine ⟨_, rfl, rfl, ?_⟩
        rw [step]
        exact decide_eq_true (by omega)
      · rintro σ H2 ⟨v3, rfl, rfl, hall2⟩
        rw [nV_length, List.take_length] at hall2
        rw [hall2] at q
        exact q
/-! ### staff_as_told -/
def staffOk (ns : List Nat) (l : List Sw71.Bar) : Bool := decide (l.length = ns.length) && (ns.zip l).all fun x => Sw71.barOk x.1 x.2
def sp_staff_as_told : Sp := fun vs H Q _ => ∃ u v l ns, vs = [u, v] ∧ BarsAt H u l ∧ NumsAt H v ns ∧ ns.length ≤ 1000 ∧ ∀ H', Same H H' → Q (.bl (staffOk ns l)) H'
theorem zip_at {A B : Type} : ∀ {l : List A} {m : List B} {i : Nat} {x : A} {y : B}, l[i]? = some x → m[i]? = some y → (l.zip m)[i]? = some (x, y)
  | [], _, _, _, _, h, _ => by simp at h
  | _ :: _, [], _, _, _, _, h => by simp at h
  | a :: l, b :: m, 0, x, y, h1, h2 => by
    have e1 : a = x := Option.some.inj h1
    have e2 : b = y := Option.some.inj h2
    rw [← e1, ← e2]; rfl
  | a :: l, b :: m, i + 1, x, y, h1, h2 => zip_at (l := l) (m := m) (i := i) h1 h2
theorem ok_staff_as_told {f : Addr} {fd : FuncData} (T : TxtC mg) (D : Dn K mg "staff_as_told" s_staff_as_told ["bars", "lengths"] f fd) (C1 : Cal P w K mg base "bar_as_told" 2 ["bar", "bar_length"] sp_bar_as_told) :
    Cal P w K mg base "staff_as_told" 3 ["bars", "lengths"] sp_staff_as_told := by
  obtain ⟨f_bar_as_told, fd_bar_as_told, G_bar_as_told, m_bar_as_told, k_bar_as_told, b_bar_as_told⟩ := C1.ex
  refine D.cal (D.fn.ok sc_staff_as_told (fun vs H Q E h => ?_) (fun cdv A outer s H vs Q E hr h => ?_))
  · obtain ⟨u, v, l, b, rfl, _⟩ := h
    rfl
  · obtain ⟨u, v, l, ns, rfl, ⟨x, xs, rfl, hx, hp⟩, ⟨y, rfl, hy⟩, hlen, q⟩ := h
    refine ⟨_, (pss_cons (ps_if (pt_cmpR op_ne (pe_callB call_len_seq (by rfl) T.n_len PySem.boot_len (pa_cons (pv 0) pa_nil)) (pe_callB call_len_seq (by rfl) T.n_len PySem.boot_len (pa_cons (pv 1) pa_nil)) (nomark _))
        (pss_one (ps_ret pe_bl))
        pss_nil)
      (pss_one (ps_ret (pe_callB (cr_all rfl) (by rfl) T.n_all (by decide +kernel) (pa_cons (pe_lc (own := [("bar", 2), ("length", 3)]) (g := gTup K 2 (gCons (gName 2) (gCons (gName 3) gNil))) rfl sc_staff_as_told.nd (pi_zip (by rfl) T.n_zip (pa_cons (pv 0) (pa_cons (pv 1) pa_nil))) (blkOk_by (own := [("bar", 2), ("length", 3)]) (N := ["bars", "lengths", "bar", "length"]) (sc := defScope s_staff_as_told) (by decide +kernel)) (fun _ _ _ _ _ => (pg_tup rfl (pgs_cons (pg_name (i := 2) sc_staff_as_told.nd rfl (Or.inl rfl)) (pgs_cons (pg_name (i := 3) sc_staff_as_told.nd rfl (Or.inl rfl)) pgs_nil)))) (fun _ _ _ _ _ => pts_nil) (fun _ _ _ _ _ => (pe_call G_bar_as_told (hr.mono (by decide)) rfl m_bar_as_told k_bar_as_told b_bar_as_told .nil pass0 (pa_cons (pv 2) (pa_cons (pv 3) pa_nil))))) pa_nil))))), ?_⟩
    refine ⟨_, rfl, x, _, rfl, .inl (SqL.of hx), _, rfl, y, _, rfl, .inl (SqL.of hy), rfl, _, rfl, ?_⟩
    rw [hp.length, nV_length]
    by_cases c : l.length = ns.length
    · refine iteF_of (by rw [c, decide_eq_true rfl]; rfl) ?_
      refine ⟨_, rfl, _, rfl, x, y, _, _, rfl, SqL.of hx, SqL.of hy, fun L nL => lc_it (walk_zip (K := K) (a := x) (b := y) (xs := xs) (ys := nV ns) (n := ns.length) (by rw [hp.length, nV_length, c]; omega)) (fun i H' => Same H H' ∧ H' L = some (.lst ((((ns.zip l).take i).map fun x => Sw71.barOk x.1 x.2).map V.bl)))
        ⟨same_upd nL, upd_same⟩ (fun i H' _ ⟨s, _⟩ => ⟨SqL.of (s _ _ hx), SqL.of (s _ _ hy)⟩) ?_ ?_⟩
      · rintro i z H1 H2 hi ⟨s, hL⟩ ⟨t, vx, vy, rfl, nt, rfl, e1, e2⟩
        obtain ⟨bx, hbx, hba⟩ := paired_at hp e1
        obtain ⟨n, hn, rfl⟩ := nV_at e2
        have st := same_upd (o := .tup [vx, V.int n]) nt
        have zs := snoc_take (zip_at hn hbx)
        refine ⟨t, _, rfl, SqT.of upd_same, rfl, _, _, rfl, _, _, rfl, rfl, rfl, ?_⟩
        refine lc_yes ?_
        refine ⟨_, rfl, _, rfl, vx, bx, n, rfl, barAt_mono _ _ _ _ (s.trans st) hba, _, st _ _ hL, small1000 (by rw [List.length_map, List.length_map, List.length_take]; omega), fun c o e => ?_, ?_⟩
        · rw [upd_ne (ne_of_none e nL)]
          exact st _ _ (s _ _ e)
        · rw [upd_same, zs, List.map_append, List.map_append]; rfl
      · rintro H1 ⟨s, hL⟩
        refine ⟨L, _, rfl, SqL.of hL, ?_⟩
        have e : ((((ns.zip l).take ns.length).map fun x => Sw71.barOk x.1 x.2).all id) = staffOk ns l := by
          unfold staffOk
          rw [decide_eq_true c, List.take_of_length_le (by rw [List.length_zip]; omega), List.all_map]; rfl
        rw [e]
        exact q _ s
    · refine iteT_of (by
        show (!decide (V.int (l.length : Int) = V.int (ns.length : Int))) = true
        rw [decide_eq_false (fun z => c (by injection z with z; exact Int.ofNat.inj z))]; rfl) ?_
      have e : staffOk ns l = false := by
        unfold staffOk
        rw [decide_eq_false c, Bool.false_and]
      rw [e] at q
      exact q _ (Same.refl H)
end
end Ps

namespace Ps
open PySem PySem.Spec PyProof.Rows L2
section
variable {P : Program} {w : World} {K : PySem.W.Frag} {mg : Str → Option Value} {base : Heap}
/-! ### the whole: a reader, a score, what is told so far -/
structure Good (S : Sw71.Score) : Prop where
  pos : ∀ n ∈ S.bars, 1 ≤ n
  len : ∀ st ∈ S.staves, st.length = S.bars.length
  few : S.staves.length ≤ 8
  short : S.bars.length ≤ 40
  tiny : ∀ st ∈ S.staves, ∀ b ∈ st, b.length ≤ 20
structure Ev where
  r : Addr
  s : Addr
  t : Addr
  a : Addr
  ns : List Int
  B : Hp
structure Wd (K : PySem.W.Frag) (CR CS : Addr) (e : Ev) (H : Hp) (sl : Addr) (l : List Int) (S : Sw71.Score) : Prop where
  sB : Same e.B H
  br : e.B e.r = none
  bs : e.B e.s = none
  bsl : e.B sl = none
  sq : SqL K e.B e.a (e.ns.map V.int)
  rd : RdP CR H e.r e.a e.ns l
  sc : ∃ G, ScP CS H G e.s sl e.t S
  rs : e.r ≠ e.s
  tl : ∃ xs, H e.t = some (.lst xs)
  tsl : e.t ≠ sl
  good : Good S
def FrW (e : Ev) (sl : Addr) (H H' : Hp) : Prop := ∀ c o, H c = some o → c ≠ e.r → c ≠ e.s → c ≠ sl → H' c = some o
theorem Wd.rdAt {CR CS : Addr} {e : Ev} {H : Hp} {sl : Addr} {l : List Int} {S : Sw71.Score} (h : Wd K CR CS e H sl l S) : RdAt K CR H e.r e.a e.ns l := ⟨h.rd, h.sB.seq h.sq⟩
theorem Wd.sIns {CR CS : Addr} {e : Ev} {H : Hp} {sl : Addr} {l : List Int} {S : Sw71.Score} (h : Wd K CR CS e H sl l S) : ∃ dx la ba, H e.s = some (.ins CS dx (scF la ba (.ref sl))) := by
  obtain ⟨G, hG⟩ := h.sc
  obtain ⟨dx, la, ba, vs, h1, _⟩ := hG.ex
  exact ⟨dx, la, ba, h1⟩
theorem Wd.slL {CR CS : Addr} {e : Ev} {H : Hp} {sl : Addr} {l : List Int} {S : Sw71.Score} (h : Wd K CR CS e H sl l S) : ∃ vs, H sl = some (.lst vs) := by
  obtain ⟨G, hG⟩ := h.sc
  obtain ⟨dx, la, ba, vs, _, _, _, h1, _⟩ := hG.ex
  exact ⟨vs, h1⟩
theorem Wd.reads {CR CS : Addr} {e : Ev} {H H' : Hp} {sl : Addr} {l l' : List Int} {S : Sw71.Score} (h : Wd K CR CS e H sl l S) (R : RdP CR H' e.r e.a e.ns l') (f : Fr e.r H H') : Wd K CR CS e H' sl l' S := by
  obtain ⟨dx, fs, hr⟩ := h.rd.ins
  obtain ⟨vs, hsl⟩ := h.slL
  obtain ⟨xs, ht⟩ := h.tl
  obtain ⟨G, hG⟩ := h.sc
  have nsl : sl ≠ e.r := ne_of hsl hr (by intro z; cases z)
  have nt : e.t ≠ e.r := ne_of ht hr (by intro z; cases z)
  have gr : G e.r = none := dat_out hG.dat hG.sub hr rfl
  refine ⟨fun c o z => f _ _ (h.sB c o z) (fun q => by subst q; rw [h.br] at z; cases z), h.br, h.bs, h.bsl, h.sq, R, ⟨G, ?_⟩, h.rs, ⟨xs, f _ _ ht nt⟩, h.tsl, h.good⟩
  exact hG.on hG.dat (Same.refl G) (fun c o z => f _ _ (hG.sub c o z) (fun q => by subst q; rw [gr] at z; cases z)) hG.gsl hG.gt (fun o z => f _ _ z h.rs.symm) (fun o z => f _ _ z nsl)
theorem Wd.same {CR CS : Addr} {e : Ev} {H H' : Hp} {sl : Addr} {l : List Int} {S : Sw71.Score} (h : Wd K CR CS e H sl l S) (s : Same H H') : Wd K CR CS e H' sl l S :=
  h.reads (h.rd.at fun o z => s _ _ z) (same_fr s _)
theorem FrW.trans {e : Ev} {sl : Addr} {H H1 H2 : Hp} (a : FrW e sl H H1) (b : FrW e sl H1 H2) : FrW e sl H H2 := fun c o h n1 n2 n3 => b c o (a c o h n1 n2 n3) n1 n2 n3
theorem frW_r {e : Ev} {sl : Addr} {H H' : Hp} (f : Fr e.r H H') : FrW e sl H H' := fun c o h n _ _ => f c o h n
theorem frW_s {e : Ev} {sl : Addr} {H H' : Hp} (f : Fr e.s H H') : FrW e sl H H' := fun c o h _ n _ => f c o h n
theorem frW_sl {e : Ev} {sl : Addr} {H H' : Hp} (f : Fr sl H H') : FrW e sl H H' := fun c o h _ _ n => f c o h n
theorem frW_same {e : Ev} {sl : Addr} {H H' : Hp} (f : Same H H') : FrW e sl H H' := fun c o h _ _ _ => f c o h
/-- nothing that stood is gone -/
theorem Wd.gone {CR CS : Addr} {e : Ev} {H H' : Hp} {sl sl' : Addr} {l l' : List Int} {S S' : Sw71.Score} (h : Wd K CR CS e H' sl' l' S') (f : FrW e sl H H') (hsl : ∃ o, H' sl = some o) : ∀ c, H' c = none → H c = none := fun c z => by
  cases q : H c with
  | none => rfl
  | some o =>
    by_cases c1 : c = e.r
    · obtain ⟨dx, fs, hr⟩ := h.rd.ins
      rw [c1, hr] at z; cases z
    · by_cases c2 : c = e.s
      · obtain ⟨dx, la, ba, hs⟩ := h.sIns
        rw [c2, hs] at z; cases z
      · by_cases c3 : c = sl
        · obtain ⟨o, ho⟩ := hsl
          rw [c3, ho] at z; cases z
        · rw [f c o q c1 c2 c3] at z; cases z
abbrev Rel : Type := List Int → Sw71.Score → List Int → Sw71.Score → List Int → Prop
/-- a call's answer: from the numbers before the reader and the score, the numbers left, the score then, what is answered -/
def AnsSp (K : PySem.W.Frag) (CR CS : Addr) (R : Rel) : Sp := fun vs H Q _ => ∃ (e : Ev) (sl : Addr) (l : List Int) (S : Sw71.Score) (l' : List Int) (S' : Sw71.Score) (out : List Int), vs = [.ref e.s, .ref e.r] ∧ Wd K CR CS e H sl l S ∧ R l S l' S' out ∧ out.length ≤ 1000000 ∧
  ∀ H' p sl', Wd K CR CS e H' sl' l' S' → FrW e sl H H' → (∃ o, H' sl = some o) → (sl' = sl ∨ H sl' = none) → H p = none → H' p = some (.lst (out.map V.int)) → Q (.ref p) H'
/-! ### answer_begins -/
def rowI (x : List Nat) (l : List Int) : List Int := ((nI x).length : Int) :: (nI x ++ l)
def RBegins : Rel := fun l S l' S' out => ∃ x y, l = rowI x (rowI y l') ∧ S' = (Sw71.step S (.begins x y)).1 ∧ out = Sw71Neutral.out (Sw71.step S (.begins x y)).2
theorem step_begins (S : Sw71.Score) (x y : List Nat) : Sw71.step S (.begins x y) = if beginsOk x y = false then (S, Sw71.ok (-1)) else (⟨x, y, []⟩, Sw71.ok (x.length : Nat)) := rfl
theorem ok_answer_begins {CR CS f : Addr} {fd : FuncData} (n_len : mg "len" = none) (D : Dn K mg "answer_begins" s_answer_begins ["score", "reader"] f fd) (R : RdC P w K mg base CR) (Z : ScC P w K mg base CS)
    (C1 : Cal P w K mg base "begins_as_told" 1 ["lengths", "breaks"] sp_begins_as_told) : Cal P w K mg base "answer_begins" 3 ["score", "reader"] (AnsSp K CR CS RBegins) := by
  obtain ⟨f_begins_as_told, fd_begins_as_told, G_begins_as_told, m_begins_as_told, k_begins_as_told, b_begins_as_told⟩ := C1.ex
  obtain ⟨f_Reader_take_row, fd_Reader_take_row, G_Reader_take_row, h_Reader_take_row, b_Reader_take_row⟩ := R.row.ex
  obtain ⟨f_Score_begin, fd_Score_begin, G_Score_begin, h_Score_begin, b_Score_begin⟩ := Z.begin_.ex
  refine D.cal (D.fn.ok sc_answer_begins (fun vs H Q E h => ?_) (fun cdv A outer s H vs Q E hr h => ?_))
  · obtain ⟨e, sl, l, S, l', S', out, rfl, _⟩ := h
    rfl
  · obtain ⟨e, sl, l, S, l', S', out, rfl, W0, ⟨x, y, rfl, eS, eO⟩, hbig, q⟩ := h
    refine ⟨_, (pss_cons (ps_set (i := 2) sc_answer_begins.nd rfl (Or.inl rfl) (pe_meth0 (pv 1) R.cl h_Reader_take_row G_Reader_take_row (hr.mono (by decide)) b_Reader_take_row .nil pass0))
      (pss_cons (ps_set (i := 3) sc_answer_begins.nd rfl (Or.inl rfl) (pe_meth0 (pv 1) R.cl h_Reader_take_row G_Reader_take_row (hr.mono (by decide)) b_Reader_take_row .nil pass0))
      (pss_cons (ps_if (pt_not (pt_val (pe_call G_begins_as_told (hr.mono (by decide)) rfl m_begins_as_told k_begins_as_told b_begins_as_told .nil pass0 (pa_cons (pv 2) (pa_cons (pv 3) pa_nil)))))
        (pss_one (ps_ret (pe_lst (pa_cons (pe_un un_neg pe_int) pa_nil))))
        pss_nil)
      (pss_cons (ps_expr (pe_meth (pv 0) Z.cl h_Score_begin G_Score_begin (hr.mono (by decide)) b_Score_begin .nil pass0 (pa_cons (pv 2) (pa_cons (pv 3) pa_nil))))
      (pss_one (ps_ret (pe_lst (pa_cons (pe_callB call_len_seq (by rfl) n_len PySem.boot_len (pa_cons (pv 2) pa_nil)) pa_nil)))))))), ?_⟩
    obtain ⟨dx0, p0, hr0, _⟩ := id W0.rd
    refine ⟨_, rfl, e.r, dx0, _, rfl, hr0, rdF_no _ _ (by decide +kernel) (by decide +kernel), e.r, _, _, nI x, _, rfl, W0.rdAt, fun H1 z1 R1 f1 nz1 hz1 => ?_⟩
    have W1 := W0.reads R1 f1
    obtain ⟨dx1, p1, hr1, _⟩ := id R1
    refine ⟨_, rfl, e.r, dx1, _, rfl, hr1, rdF_no _ _ (by decide +kernel) (by decide +kernel), e.r, _, _, nI y, _, rfl, W1.rdAt, fun H2 z2 R2 f2 nz2 hz2 => ?_⟩
    have W2 := W1.reads R2 f2
    have nz1r : z1 ≠ e.r := fun z => by subst z; rw [hr0] at nz1; cases nz1
    have h1z : NumsAt H2 (.ref z1) x := ⟨z1, rfl, by rw [f2 _ _ hz1 nz1r, nI_V]⟩
    have h2z : NumsAt H2 (.ref z2) y := ⟨z2, rfl, by rw [hz2, nI_V]⟩
    have none2 : ∀ c, H2 c = none → H c = none := fun c z => by
      obtain ⟨dx2, fs2, hr2⟩ := R2.ins
      exact fr_none hr2 (f1.trans f2) c z
    have none1 : ∀ c, H1 c = none → H c = none := fun c z => fr_none hr1 f1 c z
    obtain ⟨vsl, hsl⟩ := id W0.slL
    have nslr : sl ≠ e.r := ne_of hsl hr0 (by intro z; cases z)
    refine ⟨_, rfl, _, rfl, _, _, x, y, rfl, h1z, h2z, _, rfl, ?_⟩
    rw [step_begins] at eS eO
    cases c : beginsOk x y with
    | false =>
      rw [c] at eS eO
      rw [if_pos rfl] at eS eO
      subst eS eO
      refine iteT_of rfl ?_
      refine ⟨_, rfl, by show 1 ≤ sizeLine; decide, fun p np => ?_⟩
      have sp := same_upd (o := .lst [V.int (-1)]) np
      exact q _ p sl (W2.same sp) ((frW_r (f1.trans f2)).trans (frW_same sp)) ⟨_, sp _ _ (f2 _ _ (f1 _ _ hsl nslr) nslr)⟩ (.inl rfl) (none2 p np) upd_same
    | true =>
      rw [c] at eS eO
      rw [if_neg (by intro z; cases z)] at eS eO
      subst eS eO
      refine iteF_of rfl ?_
      obtain ⟨dxs, la, ba, hs2⟩ := W2.sIns
      obtain ⟨xs2, ht2⟩ := W2.tl
      obtain ⟨xs0, ht0⟩ := W0.tl
      refine ⟨_, rfl, e.s, dxs, _, rfl, hs2, scF_no _ _ _ (by decide +kernel) (by decide +kernel) (by decide +kernel), _, rfl, _, rfl, e.s, dxs, z1, z2, la, ba, .ref sl, x, y, rfl, hs2, h1z, h2z, fun H3 sl3 hSc f3 nsl3 => ?_⟩
      have nz1s : z1 ≠ e.s := by
        obtain ⟨dx9, la9, ba9, h9⟩ := W0.sIns
        exact fun z => by subst z; rw [h9] at nz1; cases nz1
      have hz13 : H3 z1 = some (.lst (nV x)) := f3 _ _ (nums_ref h1z) nz1s
      refine ⟨_, rfl, z1, _, rfl, .inl (SqL.of hz13), by show 1 ≤ sizeLine; decide, fun p np => ?_⟩
      have sp := same_upd (o := .lst [V.int ((nV x).length : Nat)]) np
      have hok := c
      unfold beginsOk at hok
      rw [Bool.and_eq_true, Bool.and_eq_true] at hok
      have nts : e.t ≠ e.s := ne_of ht2 hs2 (by intro z; cases z)
      have t1 : e.t ≠ z1 := ne_of_none ht0 nz1
      have t2 : e.t ≠ z2 := by
        obtain ⟨xs1, ht1⟩ := W1.tl
        exact ne_of_none ht1 nz2
      have W3 : Wd K CR CS e H3 sl3 l' ⟨x, y, []⟩ := by
        refine ⟨fun c o z => f3 _ _ (W2.sB c o z) (fun q => by subst q; rw [W2.bs] at z; cases z), W2.br, W2.bs, W2.sB.free nsl3, W2.sq, W2.rd.at fun o z => f3 _ _ z W2.rs, hSc e.t t1 t2 (by rw [ht2]; intro z; cases z), W2.rs, ⟨xs2, f3 _ _ ht2 nts⟩, ne_of_none ht2 nsl3, ⟨fun n hn => ?_, fun st h => (by cases h), Nat.zero_le _, of_decide_eq_true hok.1, fun st h => (by cases h)⟩⟩
        have := List.all_eq_true.mp hok.2.1 n hn
        rw [Bool.and_eq_true] at this
        exact of_decide_eq_true this.1
      have nsls : sl ≠ e.s := by
        obtain ⟨dx9, la9, ba9, h9⟩ := W0.sIns
        exact ne_of hsl h9 (by intro z; cases z)
      have none3 : ∀ c, H3 c = none → H2 c = none := fun c z => by
        obtain ⟨dx9, la9, ba9, h9⟩ := W3.sIns
        exact fr_none h9 f3 c z
      refine q _ p sl3 (W3.same sp) (((frW_r (f1.trans f2)).trans (frW_s f3)).trans (frW_same sp)) ⟨_, sp _ _ (f3 _ _ (f2 _ _ (f1 _ _ hsl nslr) nslr) nsls)⟩ (.inr (none2 _ nsl3)) (none2 _ (none3 _ np)) ?_
      rw [upd_same, nV_length]; rfl
end
end Ps

namespace Ps
open PySem PySem.Spec PyProof.Rows L2
section
variable {P : Program} {w : World} {K : PySem.W.Frag} {mg : Str → Option Value} {base : Heap}
theorem grow_over {G G1 H H1 H2 : Hp} (sG : Same G H) (a : Same G1 (Grow G H H2)) (n : ∀ c, H1 c = none → H c = none) : Same (Grow G1 H1 H2) (Grow G H H2) := fun c o h => by
  rcases grow_inv h with h | ⟨g, h1, h2, h3⟩
  · exact a c o h
  · exact grow_new sG (n c h1) h2 h3
/-- what is new behind a later step, seen from the beginning -/
theorem grow_from {G H H1 H2 H3 : Hp} (sG : Same G H) (n : ∀ c, H1 c = none → H c = none) (s : ∀ c o, H1 c = none → H2 c = some o → datO o = true → H3 c = some o) : Same (Grow Hp0 H1 H2) (Grow G H H3) := fun c o h => by
  rcases grow_inv h with h | ⟨_, h1, h2, h3⟩
  · cases h
  · exact grow_new sG (n c h1) (s c o h1 h2 h3) h3
theorem ScP.same {C : Addr} {H H' G : Hp} {s sl t : Addr} {S : Sw71.Score} (h : ScP C H G s sl t S) (x : Same H H') : ScP C H' G s sl t S :=
  h.on h.dat (Same.refl G) (h.sub.trans x) h.gsl h.gt (fun o z => x _ _ z) (fun o z => x _ _ z)
theorem kept_map : ∀ (ns : List Nat) (l : List Sw71.Bar), (∀ n ∈ ns, 1 ≤ n) → l.length = ns.length → (ns.zip l).all (fun x => Sw71.barOk x.1 x.2) = true → (ns.zip l).map (fun x => keptBar x.2 x.1) = l.map Sw71.plain
  | [], [], _, _, _ => rfl
  | [], _ :: _, _, h, _ => by cases h
  | _ :: _, [], _, h, _ => by cases h
  | n :: ns, b :: l, hp, hl, ha => by
    have ha : (Sw71.barOk n b && (ns.zip l).all (fun x => Sw71.barOk x.1 x.2)) = true := ha
    rw [Bool.and_eq_true] at ha
    have ih := kept_map ns l (fun m hm => hp m (List.mem_cons_of_mem _ hm)) (Nat.succ.inj hl) ha.2
    show keptBar b n :: (ns.zip l).map (fun x => keptBar x.2 x.1) = Sw71.plain b :: l.map Sw71.plain
    rw [ih, kept_plain ha.1 (hp n (List.mem_cons_self ..))]
theorem plain_tiny {b : Sw71.Bar} (h : b.length ≤ 20) : (Sw71.plain b).length ≤ 20 := by
  unfold Sw71.plain
  split
  · show 1 ≤ 20; decide
  · exact h
theorem staffOk_tiny {ns : List Nat} {l : List Sw71.Bar} (h : staffOk ns l = true) : ∀ b ∈ l, b.length ≤ 20 := fun b hb => by
  unfold staffOk at h
  rw [Bool.and_eq_true] at h
  have hl := of_decide_eq_true h.1
  obtain ⟨i, hi⟩ := List.getElem?_of_mem hb
  have lt := lt_of_at hi
  have z := zip_at (List.getElem?_eq_getElem (show i < ns.length by omega)) hi
  have q := List.all_eq_true.mp h.2 _ (List.mem_of_getElem? z)
  unfold Sw71.barOk at q
  rw [Bool.and_eq_true, Bool.and_eq_true] at q
  exact of_decide_eq_true q.2.1
def RStaff : Rel := fun l S l' S' out => ∃ (row : List Int) (bars : List Sw71.Bar), l = (row.length : Int) :: (row ++ l') ∧ Sw71Neutral.listIn Sw71Neutral.barIn row = some (bars, []) ∧ S' = (Sw71.step S (.staff bars)).1 ∧ out = Sw71Neutral.out (Sw71.step S (.staff bars)).2
theorem step_staff (S : Sw71.Score) (b : List Sw71.Bar) : Sw71.step S (.staff b) = if staffOk S.bars b = false then (S, Sw71.ok (-1)) else if 8 ≤ S.staves.length then (S, Sw71.ok (-5)) else ({ S with staves := S.staves ++ [b.map Sw71.plain] }, Sw71.ok (S.staves.length : Nat)) := rfl
theorem ok_answer_staff {CR CS f : Addr} {fd : FuncData} (T : TxtC mg) (D : Dn K mg "answer_staff" s_answer_staff ["score", "reader"] f fd) (R : RdC P w K mg base CR) (Z : ScC P w K mg base CS)
    (C1 : Cal P w K mg base "read_bars" 4 ["reader"] (sp_read_bars K CR)) (C2 : Cal P w K mg base "staff_as_told" 3 ["bars", "lengths"] sp_staff_as_told) (C3 : Cal P w K mg base "kept_bar" 2 ["bar", "bar_length"] sp_kept_bar) :
    Cal P w K mg base "answer_staff" 5 ["score", "reader"] (AnsSp K CR CS RStaff) := by
  obtain ⟨f_read_bars, fd_read_bars, G_read_bars, m_read_bars, k_read_bars, b_read_bars⟩ := C1.ex
  obtain ⟨f_staff_as_told, fd_staff_as_told, G_staff_as_told, m_staff_as_told, k_staff_as_told, b_staff_as_told⟩ := C2.ex
  obtain ⟨f_kept_bar, fd_kept_bar, G_kept_bar, m_kept_bar, k_kept_bar, b_kept_bar⟩ := C3.ex
  obtain ⟨f_Reader_take_row, fd_Reader_take_row, G_Reader_take_row, h_Reader_take_row, b_Reader_take_row⟩ := R.row.ex
  obtain ⟨f_Score_add_staff, fd_Score_add_staff, G_Score_add_staff, h_Score_add_staff, b_Score_add_staff⟩ := Z.add.ex
  obtain ⟨f_Reader_init, fd_Reader_init, M_Reader, G_Reader_init, b_Reader_init⟩ := R.init
  refine D.cal (D.fn.ok sc_answer_staff (fun vs H Q E h => ?_) (fun cdv A outer s H vs Q E hr h => ?_))
  · obtain ⟨e, sl, l, S, l', S', out, rfl, _⟩ := h
    rfl
  · obtain ⟨e, sl, l, S, l', S', out, rfl, W0, ⟨row, bars, rfl, hin, eS, eO⟩, hbig, q⟩ := h
    refine ⟨_, (pss_cons (ps_set (i := 2) sc_answer_staff.nd rfl (Or.inl rfl) (pe_call G_read_bars (hr.mono (by decide)) rfl m_read_bars k_read_bars b_read_bars .nil pass0 (pa_cons (pe_make M_Reader G_Reader_init (hr.mono (by decide)) rfl R.gC b_Reader_init .nil pass0 (pa_cons (pe_meth0 (pv 1) R.cl h_Reader_take_row G_Reader_take_row (hr.mono (by decide)) b_Reader_take_row .nil pass0) pa_nil)) pa_nil)))
      (pss_cons (ps_if (pt_not (pt_val (pe_call G_staff_as_told (hr.mono (by decide)) rfl m_staff_as_told k_staff_as_told b_staff_as_told .nil pass0 (pa_cons (pv 2) (pa_cons (pe_fld (pv 0) rfl) pa_nil)))))
        (pss_one (ps_ret (pe_lst (pa_cons (pe_un un_neg pe_int) pa_nil))))
        pss_nil)
      (pss_cons (ps_if (pt_cmpR op_ge (pe_callB call_len_seq (by rfl) T.n_len PySem.boot_len (pa_cons (pe_fld (pv 0) rfl) pa_nil)) (pe_gi rfl T.g_MOST_STAVES) (nomark _))
        (pss_one (ps_ret (pe_lst (pa_cons (pe_un un_neg pe_int) pa_nil))))
        pss_nil)
      (pss_cons (ps_setLc (i := 3) (own := [("bar", 4), ("length", 5)]) (g := gTup K 2 (gCons (gName 4) (gCons (gName 5) gNil))) rfl sc_answer_staff.nd rfl rfl (sw_true rfl rfl rfl (by decide +kernel)) (pi_zip (by rfl) T.n_zip (pa_cons (pv 2) (pa_cons (pe_fld (pv 0) rfl) pa_nil))) (blkOk_by (own := [("bar", 4), ("length", 5)]) (N := ["score", "reader", "bars", "kept", "bar", "length"]) (sc := defScope s_answer_staff) (by decide +kernel)) (fun _ _ _ _ _ => (pg_tup rfl (pgs_cons (pg_name (i := 4) sc_answer_staff.nd rfl (Or.inl rfl)) (pgs_cons (pg_name (i := 5) sc_answer_staff.nd rfl (Or.inl rfl)) pgs_nil)))) (fun _ _ _ _ _ => pts_nil) (fun _ _ _ _ _ => (pe_call G_kept_bar (hr.mono (by decide)) rfl m_kept_bar k_kept_bar b_kept_bar .nil pass0 (pa_cons (pv 4) (pa_cons (pv 5) pa_nil)))))
      (pss_one (ps_ret (pe_lst (pa_cons (pe_meth (pv 0) Z.cl h_Score_add_staff G_Score_add_staff (hr.mono (by decide)) b_Score_add_staff .nil pass0 (pa_cons (pv 3) pa_nil)) pa_nil)))))))), ?_⟩
    obtain ⟨dx0, p0, hr0, _⟩ := id W0.rd
    refine ⟨_, rfl, e.r, dx0, _, rfl, hr0, rdF_no _ _ (by decide +kernel) (by decide +kernel), e.r, _, _, row, _, rfl, W0.rdAt, fun H1 z1 R1 f1 nz1 hz1 => ?_⟩
    have W1 := W0.reads R1 f1
    have none1 : ∀ c, H1 c = none → H c = none := fun c z => by
      obtain ⟨dx9, fs9, h9⟩ := R1.ins
      exact fr_none h9 f1 c z
    refine fun r2 dx2 nr2 ndx2 ne2 => ?_
    have sI : Same H1 (upd (upd H1 dx2 (.own r2)) r2 (.ins CR dx2 [])) := (same_upd ndx2).trans (same_upd (by rw [upd_ne (fun e => ne2 e.symm)]; exact nr2))
    refine ⟨r2, dx2, z1, row, rfl, upd_same, sI.seq (SqL.of hz1), fun HI RI fI => ⟨rfl, ?_⟩⟩
    have sHI : Same H1 HI := fun b o e => fI _ _ (sI b o e) (ne_of_none e nr2)
    refine ⟨r2, z1, row, row, bars, [], rfl, ⟨RI, sHI.seq (SqL.of hz1)⟩, hin, fun H2 u R2 f2 hu0 => ?_⟩
    have s2 : Same H1 H2 := fun b o e => f2 _ _ (sHI b o e) (ne_of_none e nr2)
    have hu : BarsAt (Grow Hp0 H1 H2) u bars := barsAt_mono _ _ _ _ (grow_later fun c z => sHI.free z) hu0
    have W2 := W1.same s2
    obtain ⟨G, hG1⟩ := id W1.sc
    have hG := hG1.same s2
    obtain ⟨dxs, la, ba, vsl, hs2, hla, hba, hsl2, hpr⟩ := id hG.ex
    have gsl := hG.gsl
    have gt := hG.gt
    have hu2 : BarsAt H2 u bars := barsAt_mono _ _ _ _ (grow_in (same0 _)) hu
    obtain ⟨vsl0, hsl0⟩ := id W0.slL
    have nslr : sl ≠ e.r := ne_of hsl0 hr0 (by intro z; cases z)
    have f02 : FrW e sl H H2 := (frW_r f1).trans (frW_same s2)
    have none2 : ∀ c, H2 c = none → H c = none := fun c z => none1 c (s2.free z)
    rw [step_staff] at eS eO
    refine ⟨_, rfl, _, rfl, e.s, CS, dxs, _, _, rfl, hs2, Z.cl, Z.nL, scF_l _ _ _, u, la, bars, S.bars, rfl, hu2, numsAt_mono _ _ _ _ hG.sub hla, Nat.le_trans W2.good.short (by decide), fun H3 s3 => ⟨_, rfl, ?_⟩⟩
    have W3 := W2.same s3
    cases c : staffOk S.bars bars with
    | false =>
      rw [c, if_pos rfl] at eS eO
      subst eS eO
      refine iteT_of rfl ?_
      refine ⟨_, rfl, by show 1 ≤ sizeLine; decide, fun p np => ?_⟩
      have sp := same_upd (o := .lst [V.int (-1)]) np
      exact q _ p sl (W3.same sp) (f02.trans (frW_same (s3.trans sp))) ⟨_, sp _ _ (s3 _ _ hsl2)⟩ (.inl rfl) (none2 p (s3.free np)) upd_same
    | true =>
      rw [c, if_neg (by intro z; cases z)] at eS eO
      refine iteF_of rfl ?_
      refine ⟨_, rfl, e.s, CS, dxs, _, _, rfl, s3 _ _ hs2, Z.cl, Z.nS, scF_s _ _ _, sl, _, rfl, .inl (SqL.of (s3 _ _ hsl2)), _, _, rfl, rfl, _, rfl, ?_⟩
      rw [hpr.length]
      by_cases c8 : 8 ≤ S.staves.length
      · rw [if_pos c8] at eS eO
        subst eS eO
        refine iteT_of (decide_eq_true (by omega)) ?_
        refine ⟨_, rfl, by show 1 ≤ sizeLine; decide, fun p np => ?_⟩
        have sp := same_upd (o := .lst [V.int (-5)]) np
        exact q _ p sl (W3.same sp) (f02.trans (frW_same (s3.trans sp))) ⟨_, sp _ _ (s3 _ _ hsl2)⟩ (.inl rfl) (none2 p (s3.free np)) upd_same
      rw [if_neg c8] at eS eO
      subst eS eO
      refine iteF_of (decide_eq_false (by omega)) ?_
      have hbl : bars.length = S.bars.length := by
        unfold staffOk at c
        rw [Bool.and_eq_true] at c
        exact of_decide_eq_true c.1
      obtain ⟨laa, rfl, hlaa⟩ := id hla
      have hla3 : H3 laa = some (.lst (nV S.bars)) := s3 _ _ (hG.sub _ _ hlaa)
      have sG3 : Same G H3 := hG.sub.trans s3
      have hu3 : BarsAt (Grow G H1 H3) u bars := barsAt_mono _ _ _ _ (grow_from hG1.sub (fun c h => h) (fun c o _ h _ => s3 _ _ h)) hu
      have sGL : Same (Grow G H1 H3) H3 := grow_in sG3
      have mGL : ∀ Hx, Same H3 Hx → Same (Grow G H1 H3) (Grow G H1 Hx) := fun Hx sx => grow_mono fun c o _ h _ => sx _ _ h
      obtain ⟨ua, uxs, rfl, hua, hup⟩ := hu3
      generalize hGLe : Grow G H1 H3 = GL at hua hup sGL mGL
      have hua3 : H3 ua = some (.lst uxs) := sGL _ _ hua
      have n31 : ∀ c, H3 c = none → H1 c = none := fun c z => s2.free (s3.free z)
      refine ⟨_, rfl, _, rfl, e.s, CS, dxs, _, _, rfl, s3 _ _ hs2, Z.cl, Z.nL, scF_l _ _ _, ua, laa, _, _, rfl, SqL.of hua3, SqL.of hla3, fun L nL => lc_it (walk_zip (K := K) (a := ua) (b := laa) (xs := uxs) (ys := nV S.bars) (n := S.bars.length) (by rw [hup.length, nV_length, hbl]; omega)) (fun i H' => ∃ vs, Same H3 H' ∧ H' L = some (.lst vs) ∧ Paired (BarAt (Grow GL (upd H3 L (.lst [])) H')) vs (((S.bars.zip bars).take i).map fun x => keptBar x.2 x.1))
        ⟨[], same_upd nL, upd_same, .nil⟩ (fun i H' _ ⟨_, s, _⟩ => ⟨SqL.of (s _ _ hua3), SqL.of (s _ _ hla3)⟩) ?_ ?_⟩
      · have pL : (upd H3 L (.lst [])) L = some (.lst []) := upd_same
        have n43 : ∀ c, c ≠ L → (upd H3 L (.lst [])) c = H3 c := fun c z => upd_ne z
        generalize hH4 : upd H3 L (.lst []) = H4 at pL n43
        rintro i z Hi H2t hi ⟨vs, si, hL, pr⟩ ⟨t, vx, vy, rfl, nt, rfl, e1, e2⟩
        obtain ⟨bx, hbx, hba'⟩ := paired_at hup e1
        obtain ⟨n, hn, rfl⟩ := nV_at e2
        have st := same_upd (o := .tup [vx, V.int n]) nt
        have zs := snoc_take (zip_at hn hbx)
        have sit := si.trans st
        refine ⟨t, _, rfl, SqT.of upd_same, rfl, _, _, rfl, _, _, rfl, rfl, rfl, ?_⟩
        refine lc_yes ?_
        refine ⟨_, rfl, _, rfl, vx, bx, n, GL, rfl, sGL.trans sit, hba', fun Hk v sk hv => ?_⟩
        have hLk : Hk L = some (.lst vs) := sk _ _ (st _ _ hL)
        refine ⟨vs, hLk, small1000 (by rw [pr.length, List.length_map, List.length_take]; have := W2.good.short; omega), vs ++ [v], fun c o y => ?_, upd_same, ?_⟩
        · rw [upd_ne (ne_of_none y nL)]
          exact sk _ _ (sit _ _ y)
        · rw [zs, List.map_append]
          have m1 : Same (Grow GL H4 Hi) (Grow GL H4 (upd Hk L (.lst (vs ++ [v])))) := grow_mono fun c o y1 y2 _ => by
            rw [upd_ne (fun q => by subst q; rw [pL] at y1; cases y1)]
            exact sk _ _ (st _ _ y2)
          have m2 : Same (Grow GL (upd Hi t (.tup [vx, V.int n])) Hk) (Grow GL H4 (upd Hk L (.lst (vs ++ [v])))) := (grow_mono fun c o y1 y2 _ => by
            rw [upd_ne (fun q => by subst q; rw [st _ _ hL] at y1; cases y1)]
            exact y2).trans (grow_later fun c y => by
              by_cases cl : c = L
              · subst cl; rw [st _ _ hL] at y; cases y
              · rw [n43 c cl]
                exact sit.free y)
          exact Paired.snoc (Paired.mono (fun _ _ h => barAt_mono _ _ _ _ m1 h) pr) (barAt_mono _ _ _ _ m2 hv)
      · rintro HE ⟨vs, sE, hL, pr⟩
        rw [List.take_of_length_le (by rw [List.length_zip]; omega)] at pr
        have c2 := c
        unfold staffOk at c2
        rw [Bool.and_eq_true] at c2
        rw [kept_map S.bars bars W2.good.pos hbl c2.2] at pr
        have sGE : Same G HE := sG3.trans sE
        have nL1 : H1 L = none := n31 L nL
        have a1 : Same GL (Grow G H1 HE) := mGL HE sE
        have sE1 : Same H1 HE := (s2.trans s3).trans sE
        have hk : BarsAt (Grow G H1 HE) (.ref L) (bars.map Sw71.plain) := by
          refine ⟨L, vs, rfl, grow_new hG1.sub nL1 hL rfl, Paired.mono (fun _ _ h => barAt_mono _ _ _ _ (grow_over hG1.sub a1 fun c y => ?_) h) pr⟩
          by_cases cl : c = L
          · subst cl; exact nL1
          · rw [upd_ne cl] at y
            exact n31 c y
        obtain ⟨vs1, hsl1⟩ := W1.slL
        obtain ⟨xt1, ht1⟩ := W1.tl
        have hGE : ScP CS HE (Grow G H1 HE) e.s sl e.t S := hG1.on (grow_dat hG1.dat) (same_grow _ _ _) (grow_in sGE) (grow_out hsl1 gsl) (grow_out ht1 gt) (fun o z => sE1 _ _ z) (fun o z => sE1 _ _ z)
        have WE := W3.same sE
        obtain ⟨dxE, laE, baE, hsE⟩ := WE.sIns
        refine ⟨_, rfl, e.s, dxE, _, rfl, hsE, scF_no _ _ _ (by decide +kernel) (by decide +kernel) (by decide +kernel), _, rfl, e.s, sl, e.t, .ref L, Grow G H1 HE, S, bars.map Sw71.plain, rfl, hGE, hk, by omega, fun H5 hP5 f5 => ?_⟩
        refine ⟨by show 1 ≤ sizeLine; decide, fun p np => ?_⟩
        have sp := same_upd (o := .lst [V.int (S.staves.length : Nat)]) np
        obtain ⟨vsE, hslE⟩ := WE.slL
        obtain ⟨xtE, htE⟩ := WE.tl
        obtain ⟨dxr, pr9, hrE, _⟩ := id WE.rd
        have rsl : e.r ≠ sl := (ne_of hslE hrE (by intro z; cases z)).symm
        obtain ⟨dx5, la5, ba5, vs5, _, _, _, hsl5, _⟩ := hP5.ex
        have W5 : Wd K CR CS e H5 sl l' { S with staves := S.staves ++ [bars.map Sw71.plain] } :=
          ⟨fun c o z => f5 _ _ (WE.sB c o z) (fun q => by subst q; rw [WE.bsl] at z; cases z), WE.br, WE.bs, WE.bsl, WE.sq, WE.rd.at fun o z => f5 _ _ z rsl, ⟨_, hP5⟩, WE.rs, ⟨xtE, f5 _ _ htE WE.tsl⟩, WE.tsl,
            ⟨WE.good.pos, fun st h => by
              rcases List.mem_append.mp h with h | h
              · exact WE.good.len st h
              · rw [List.mem_singleton.mp h, List.length_map, hbl], by
              show (S.staves ++ [bars.map Sw71.plain]).length ≤ 8
              rw [List.length_append]
              show _ + 1 ≤ 8
              omega, WE.good.short, fun st h b hb => by
              rcases List.mem_append.mp h with h | h
              · exact WE.good.tiny st h b hb
              · rw [List.mem_singleton.mp h] at hb
                obtain ⟨b0, hb0, rfl⟩ := List.mem_map.mp hb
                exact plain_tiny (staffOk_tiny c b0 hb0)⟩⟩
        have nE : ∀ c, HE c = none → H c = none := fun c z => none1 c (sE1.free z)
        have n5 : ∀ c, H5 c = none → HE c = none := fun c z => fr_none hsl5 f5 c z
        exact q _ p sl (W5.same sp) (f02.trans (((frW_same (s3.trans sE)).trans (frW_sl f5)).trans (frW_same sp))) ⟨_, sp _ _ hsl5⟩ (.inl rfl) (nE _ (n5 _ np)) upd_same
end
end Ps

namespace Ps
open PySem PySem.Spec PyProof.Rows L2
section
variable {P : Program} {w : World} {K : PySem.W.Frag} {mg : Str → Option Value} {base : Heap}
/-! ### answer_staves -/
def RStaves : Rel := fun l S l' S' out => ∃ k : Nat, l = (k : Int) :: l' ∧ S' = (Sw71.step S (.staves k)).1 ∧ out = Sw71Neutral.out (Sw71.step S (.staves k)).2
theorem one_row {H : Hp} {p q : Addr} {x : List Nat} (h : H p = some (.lst (nV x))) (n : H q = none) : RowsAt (upd H q (.lst [.ref p])) (.ref q) [x] :=
  ⟨q, [.ref p], rfl, upd_same, .cons ⟨p, rfl, same_upd n _ _ h⟩ .nil⟩
theorem ok_answer_staves {CR CS f : Addr} {fd : FuncData} (D : Dn K mg "answer_staves" s_answer_staves ["score", "reader"] f fd) (R : RdC P w K mg base CR) (Z : ScC P w K mg base CS)
    (C1 : Cal P w K mg base "bars_numbers" 2 ["bars"] sp_bars_numbers) (C2 : Cal P w K mg base "with_lists" 1 ["number", "rows"] sp_with_lists) : Cal P w K mg base "answer_staves" 3 ["score", "reader"] (AnsSp K CR CS RStaves) := by
  obtain ⟨f_bars_numbers, fd_bars_numbers, G_bars_numbers, m_bars_numbers, k_bars_numbers, b_bars_numbers⟩ := C1.ex
  obtain ⟨f_with_lists, fd_with_lists, G_with_lists, m_with_lists, k_with_lists, b_with_lists⟩ := C2.ex
  obtain ⟨f_Reader_take, fd_Reader_take, G_Reader_take, h_Reader_take, b_Reader_take⟩ := R.take.ex
  obtain ⟨f_Score_has_staff, fd_Score_has_staff, G_Score_has_staff, h_Score_has_staff, b_Score_has_staff⟩ := Z.has.ex
  refine D.cal (D.fn.ok sc_answer_staves (fun vs H Q E h => ?_) (fun cdv A outer s H vs Q E hr h => ?_))
  · obtain ⟨e, sl, l, S, l', S', out, rfl, _⟩ := h
    rfl
  · obtain ⟨e, sl, l, S, l', S', out, rfl, W0, ⟨k, rfl, eS, eO⟩, hbig, q⟩ := h
    refine ⟨_, (pss_cons (ps_set (i := 2) sc_answer_staves.nd rfl (Or.inl rfl) (pe_meth0 (pv 1) R.cl h_Reader_take G_Reader_take (hr.mono (by decide)) b_Reader_take .nil pass0))
      (pss_cons (ps_if (pt_not (pt_val (pe_meth (pv 0) Z.cl h_Score_has_staff G_Score_has_staff (hr.mono (by decide)) b_Score_has_staff .nil pass0 (pa_cons (pv 2) pa_nil))))
        (pss_one (ps_ret (pe_lst (pa_cons (pe_un un_neg pe_int) pa_nil))))
        pss_nil)
      (pss_one (ps_ret (pe_call G_with_lists (hr.mono (by decide)) rfl m_with_lists k_with_lists b_with_lists .nil pass0 (pa_cons pe_int (pa_cons (pe_lst (pa_cons (pe_call G_bars_numbers (hr.mono (by decide)) rfl m_bars_numbers k_bars_numbers b_bars_numbers .nil pass0 (pa_cons (pe_ix ix_list (pe_fld (pv 0) rfl) (pv 2) (fun _ _ => rfl)) pa_nil)) pa_nil)) pa_nil))))))), ?_⟩
    obtain ⟨dx0, p0, hr0, _⟩ := id W0.rd
    refine ⟨_, rfl, e.r, dx0, _, rfl, hr0, rdF_no _ _ (by decide +kernel) (by decide +kernel), e.r, _, _, _, _, rfl, W0.rdAt, fun H1 R1 f1 => ?_⟩
    have W1 := W0.reads R1 f1
    have none1 : ∀ c, H1 c = none → H c = none := fun c z => by
      obtain ⟨dx9, fs9, h9⟩ := R1.ins
      exact fr_none h9 f1 c z
    obtain ⟨G, hG⟩ := id W1.sc
    obtain ⟨dxs, la, ba, vsl, hs, hla, hba, hsl, hpr⟩ := id hG.ex
    refine ⟨_, rfl, e.s, dxs, _, rfl, hs, scF_no _ _ _ (by decide +kernel) (by decide +kernel) (by decide +kernel), _, rfl, e.s, sl, e.t, k, G, S, rfl, hG, _, rfl, ?_⟩
    cases hk : S.staves[k]? with
    | none =>
      have c : ¬ k < S.staves.length := fun z => by rw [List.getElem?_eq_getElem z] at hk; cases hk
      have e1 : Sw71.step S (.staves k) = (S, Sw71.ok (-2)) := by
        show (S, (match S.staves[k]? with | none => Sw71.ok (-2) | some l => ⟨0, [Sw71.staffOut l]⟩)) = _
        rw [hk]
      rw [e1] at eS eO
      subst eS eO
      refine iteT_of (by rw [decide_eq_false c]; rfl) ?_
      refine ⟨_, rfl, by show 1 ≤ sizeLine; decide, fun p np => ?_⟩
      have sp := same_upd (o := .lst [V.int (-2)]) np
      exact q _ p sl (W1.same sp) ((frW_r f1).trans (frW_same sp)) ⟨_, sp _ _ hsl⟩ (.inl rfl) (none1 p np) upd_same
    | some st =>
      have c : k < S.staves.length := lt_of_at hk
      have e1 : Sw71.step S (.staves k) = (S, ⟨0, [Sw71.staffOut st]⟩) := by
        show (S, (match S.staves[k]? with | none => Sw71.ok (-2) | some l => ⟨0, [Sw71.staffOut l]⟩)) = _
        rw [hk]
      rw [e1] at eS eO
      subst eS eO
      refine iteF_of (by rw [decide_eq_true c]; rfl) ?_
      obtain ⟨v, hv, hst⟩ := paired_at' hpr hk
      have big : (Sw71.staffOut st).length ≤ 1000000 := by
        have h : (Sw71Neutral.out ⟨0, [Sw71.staffOut st]⟩).length ≤ 1000000 := hbig
        rw [out_eq, List.length_cons, List.flatMap_cons, List.length_append, List.length_cons, nI_length] at h
        omega
      refine ⟨_, rfl, e.s, CS, dxs, _, _, rfl, hs, Z.cl, Z.nS, scF_s _ _ _, _, rfl, sl, _, _, v, rfl, rfl, SqL.of hsl, atI_nat hv, v, st, rfl, barsAt_mono _ _ _ _ hG.sub hst, by omega, fun H2 p2 s2 np2 hp2 => ?_⟩
      refine ⟨by show 1 ≤ sizeLine; decide, fun p3 np3 => ?_⟩
      have s3 := same_upd (o := .lst [V.ref p2]) np3
      have W3 := (W1.same s2).same s3
      refine ⟨0, .ref p3, _, rfl, one_row hp2 np3, Nat.le_trans hbig (by decide), fun H4 p s4 np hp => ?_⟩
      exact q _ p sl (W3.same s4) ((frW_r f1).trans (frW_same ((s2.trans s3).trans s4))) ⟨_, s4 _ _ (s3 _ _ (s2 _ _ hsl))⟩ (.inl rfl) (none1 p (s2.free (s3.free np))) hp
/-! ### the bars of a part -/
theorem barAt_at {S : Sw71.Score} {k i : Nat} {st : List Sw71.Bar} {b : Sw71.Bar} (h1 : S.staves[k]? = some st) (h2 : st[i]? = some b) : S.barAt k i = b := by
  unfold Sw71.Score.barAt
  rw [h1]
  show st.getD i [] = b
  rw [List.getD_eq_getElem?_getD, h2]; rfl
theorem bar_there {C : Addr} {H G : Hp} {s sl t : Addr} {S : Sw71.Score} (h : ScP C H G s sl t S) (g : Good S) {k i : Nat} (hk : k < S.staves.length) (hi : i < S.bars.length) :
    ∃ dx la ba vsl x bs vb, H s = some (.ins C dx (scF la ba (.ref sl))) ∧ H sl = some (.lst vsl) ∧ vsl[k]? = some (.ref x) ∧ H x = some (.lst bs) ∧ bs[i]? = some vb ∧ BarAt G vb (S.barAt k i) := by
  obtain ⟨dx, la, ba, vsl, h1, _, _, h4, h5⟩ := h.ex
  have e1 := List.getElem?_eq_getElem hk
  obtain ⟨v, hv, x, bs, rfl, hx, hp⟩ := paired_at' h5 e1
  have hl := g.len _ (List.mem_of_getElem? e1)
  have e2 : (S.staves[k])[i]? = some ((S.staves[k])[i]'(by omega)) := List.getElem?_eq_getElem _
  obtain ⟨vb, hvb, hb⟩ := paired_at' hp e2
  exact ⟨dx, la, ba, vsl, x, bs, vb, h1, h4, hv, h.sub _ _ hx, hvb, by rw [barAt_at e1 e2]; exact hb⟩
/-- what a def of parts is handed: the score, the part's numbers -/
structure PtAt (C : Addr) (H G : Hp) (s sl t pa : Addr) (S : Sw71.Score) (ks : List Nat) : Prop where
  sc : ScP C H G s sl t S
  good : Good S
  part : H pa = some (.lst (nV ks))
  ok : ∀ k ∈ ks, k < S.staves.length
theorem PtAt.same {C : Addr} {H H' G : Hp} {s sl t pa : Addr} {S : Sw71.Score} {ks : List Nat} (h : PtAt C H G s sl t pa S ks) (x : Same H H') : PtAt C H' G s sl t pa S ks := ⟨h.sc.same x, h.good, x _ _ h.part, h.ok⟩
def sp_part_rests (C : Addr) : Sp := fun vs H Q _ => ∃ G s sl t pa S ks i, vs = [.ref s, .ref pa, .int (i : Nat)] ∧ PtAt C H G s sl t pa S ks ∧ i < S.bars.length ∧ Q (.bl (S.silent ks i)) H
theorem ok_part_rests {CS f : Addr} {fd : FuncData} (D : Dn K mg "part_rests" s_part_rests ["score", "part", "place"] f fd) (cl : Cls K CS) (nS : NoAttr K CS "staves")
    (C1 : Cal P w K mg base "bar_rests" 1 ["bar"] sp_bar_rests) : Cal P w K mg base "part_rests" 2 ["score", "part", "place"] (sp_part_rests CS) := by
  obtain ⟨f_bar_rests, fd_bar_rests, G_bar_rests, m_bar_rests, k_bar_rests, b_bar_rests⟩ := C1.ex
  refine D.cal (D.fn.ok sc_part_rests (fun vs H Q E h => ?_) (fun cdv A outer s0 H vs Q E hr h => ?_))
  · obtain ⟨G, s, sl, t, pa, S, ks, i, rfl, _⟩ := h
    rfl
  · obtain ⟨G, s, sl, t, pa, S, ks, i, rfl, hP, hi, q⟩ := h
    refine ⟨_, (pss_cons (ps_for PassesOwn.never rfl (pi_list (pv 1)) (pg_name (i := 3) sc_part_rests.nd rfl (Or.inl rfl))
        (pss_one (ps_if (pt_not (pt_val (pe_call G_bar_rests (hr.mono (by decide)) rfl m_bar_rests k_bar_rests b_bar_rests .nil pass0 (pa_cons (pe_ix ix_list (pe_ix ix_list (pe_fld (pv 0) rfl) (pv 3) (fun _ _ => rfl)) (pv 2) (fun _ _ => rfl)) pa_nil))))
          (pss_one (ps_ret pe_bl))
          pss_nil)))
      (pss_one (ps_ret pe_bl))), ?_⟩
    refine ⟨_, rfl, pa, rfl, ⟨_, SqL.of hP.part⟩, for_list (K := K) (a := pa) (xs := nV ks) (fun j σ H' => ∃ (v : Option V), σ = [some (.ref s), some (.ref pa), some (.int (i : Nat)), v] ∧ H' = H ∧ (ks.take j).all (fun k => Sw71.rests (S.barAt k i)) = true)
      ⟨none, rfl, rfl, rfl⟩ (fun j σ H' _ ⟨_, _, e, _⟩ => e ▸ SqL.of hP.part) ?_ ?_⟩
    · rintro j y σ H' hj ⟨v, rfl, rfl, hall⟩
      obtain ⟨k, hk, rfl⟩ := nV_at hj
      obtain ⟨dx, la, ba, vsl, x, bs, vb, h1, h2, h3, h4, h5, h6⟩ := bar_there hP.sc hP.good (hP.ok k (List.mem_of_getElem? hk)) hi
      have step := all_snoc (p := fun k => Sw71.rests (S.barAt k i)) hk
      rw [hall, Bool.true_and] at step
      refine ⟨_, rfl, s, CS, dx, _, _, rfl, h1, cl, nS, scF_s _ _ _, _, rfl, sl, _, _, _, rfl, rfl, SqL.of h2, atI_nat h3, _, rfl, x, _, _, _, rfl, rfl, SqL.of h4, atI_nat h5, vb, _, rfl, barAt_mono _ _ _ _ hP.sc.sub h6, _, rfl, ?_⟩
      cases c : Sw71.rests (S.barAt k i) with
      | true =>
        refine iteF_of rfl ?_
        exact ⟨_, rfl, rfl, step.trans c⟩
      | false =>
        refine iteT_of rfl ?_
        have e : S.silent ks i = false := all_no hk c
        rw [e] at q
        exact q
    · rintro σ H' ⟨v, rfl, rfl, hall⟩
      rw [nV_length, List.take_length] at hall
      have e : S.silent ks i = true := hall
      rw [e] at q
      exact q
/-! ### rest_end -/
theorem inV_nat (k : Nat) : ∀ ks : List Nat, inV (.int (k : Int)) (nV ks) = ks.contains k
  | [] => rfl
  | a :: ks => by
    have ih := inV_nat k ks
    show (((a : Int) == (k : Int)) || inV (.int (k : Int)) (nV ks)) = (a :: ks).contains k
    rw [ih, List.contains_cons]
    congr 1
    by_cases c : a = k
    · subst c
      rw [beq_self_eq_true, beq_self_eq_true]
    · rw [beq_eq_false_iff_ne.mpr (show (a : Int) ≠ (k : Int) from fun z => c (Int.ofNat.inj z)), beq_eq_false_iff_ne.mpr (show k ≠ a from fun z => c z.symm)]
theorem rest_fuel (S : Sw71.Score) (ks : List Nat) : ∀ (f i : Nat), S.bars.length - i ≤ f → S.restFrom ks f i = S.restFrom ks (S.bars.length - i) i
  | 0, i, h => by rw [show S.bars.length - i = 0 by omega]
  | f + 1, i, h => by
    by_cases c : S.bars.length ≤ i
    · rw [show S.bars.length - i = 0 by omega]
      show (if S.bars.length ≤ i ∨ S.silent ks i = false then 0 else _) = 0
      rw [if_pos (.inl c)]
    · obtain ⟨k, hk⟩ : ∃ k, S.bars.length - i = k + 1 := ⟨S.bars.length - i - 1, by omega⟩
      rw [hk]
      have ih := rest_fuel S ks f (i + 1) (by omega)
      rw [show S.bars.length - (i + 1) = k by omega] at ih
      show (if S.bars.length ≤ i ∨ S.silent ks i = false then 0 else if S.breaks.contains (i + 1) = true then 1 else 1 + S.restFrom ks f (i + 1)) = (if S.bars.length ≤ i ∨ S.silent ks i = false then 0 else if S.breaks.contains (i + 1) = true then 1 else 1 + S.restFrom ks k (i + 1))
      rw [ih]
/-- a rest's bars from a bar on -/
def restN (S : Sw71.Score) (ks : List Nat) (i : Nat) : Nat := S.restFrom ks S.bars.length i
theorem restN_no {S : Sw71.Score} {ks : List Nat} {i : Nat} (h : ¬ i < S.bars.length ∨ S.silent ks i = false) : restN S ks i = 0 := by
  unfold restN
  rw [rest_fuel S ks S.bars.length i (by omega)]
  by_cases c : S.bars.length ≤ i
  · rw [show S.bars.length - i = 0 by omega]; rfl
  · obtain ⟨k, hk⟩ : ∃ k, S.bars.length - i = k + 1 := ⟨S.bars.length - i - 1, by omega⟩
    rw [hk]
    show (if S.bars.length ≤ i ∨ S.silent ks i = false then 0 else _) = 0
    rcases h with h | h
    · omega
    · rw [if_pos (.inr h)]
theorem restN_yes {S : Sw71.Score} {ks : List Nat} {i : Nat} (h1 : i < S.bars.length) (h2 : S.silent ks i = true) : restN S ks i = 1 + (if S.breaks.contains (i + 1) = true then 0 else restN S ks (i + 1)) := by
  unfold restN
  rw [rest_fuel S ks S.bars.length i (by omega), rest_fuel S ks S.bars.length (i + 1) (by omega)]
  obtain ⟨k, hk⟩ : ∃ k, S.bars.length - i = k + 1 := ⟨S.bars.length - i - 1, by omega⟩
  rw [hk, show S.bars.length - (i + 1) = k by omega]
  show (if S.bars.length ≤ i ∨ S.silent ks i = false then 0 else if S.breaks.contains (i + 1) = true then 1 else 1 + S.restFrom ks k (i + 1)) = _
  rw [if_neg (by rw [h2]; intro z; rcases z with z | z; omega; cases z)]
  split <;> rfl
theorem restN_le (S : Sw71.Score) (ks : List Nat) : ∀ (m i : Nat), S.bars.length - i ≤ m → i ≤ S.bars.length → i + restN S ks i ≤ S.bars.length
  | m, i, hm, hi => by
    by_cases c : i < S.bars.length ∧ S.silent ks i = true
    · cases m with
      | zero => omega
      | succ m =>
        have ih := restN_le S ks m (i + 1) (by omega) (by omega)
        rw [restN_yes c.1 c.2]
        split <;> omega
    · have : restN S ks i = 0 := restN_no (by
        by_cases d : i < S.bars.length
        · right
          cases e : S.silent ks i with
          | false => rfl
          | true => exact absurd ⟨d, e⟩ c
        · exact .inl d)
      omega
def sp_rest_end (C : Addr) : Sp := fun vs H Q _ => ∃ G s sl t pa S ks i, vs = [.ref s, .ref pa, .int (i : Nat)] ∧ PtAt C H G s sl t pa S ks ∧ Q (.int ((i + restN S ks i : Nat) : Int)) H
theorem ok_rest_end {CS f : Addr} {fd : FuncData} (n_len : mg "len" = none) (D : Dn K mg "rest_end" s_rest_end ["score", "part", "start"] f fd) (cl : Cls K CS) (nL : NoAttr K CS "lengths") (nB : NoAttr K CS "breaks")
    (C1 : Cal P w K mg base "part_rests" 2 ["score", "part", "place"] (sp_part_rests CS)) : Cal P w K mg base "rest_end" 3 ["score", "part", "start"] (sp_rest_end CS) := by
  obtain ⟨f_part_rests, fd_part_rests, G_part_rests, m_part_rests, k_part_rests, b_part_rests⟩ := C1.ex
  refine D.cal (D.fn.ok sc_rest_end (fun vs H Q E h => ?_) (fun cdv A outer s0 H vs Q E hr h => ?_))
  · obtain ⟨G, s, sl, t, pa, S, ks, i, rfl, _⟩ := h
    rfl
  · obtain ⟨G, s, sl, t, pa, S, ks, i, rfl, hP, q⟩ := h
    refine ⟨_, (pss_cons (ps_set (i := 3) sc_rest_end.nd rfl (Or.inl rfl) (pv 2))
      (pss_cons (ps_while PassesOwn.never (PW.pt (pw_and (pt_cmpR op_lt (pv 3) (pe_callB call_len_seq (by rfl) n_len PySem.boot_len (pa_cons (pe_fld (pv 0) rfl) pa_nil)) (nomark _)) (pw_and1 (pt_val (pe_call G_part_rests (hr.mono (by decide)) rfl m_part_rests k_part_rests b_part_rests .nil pass0 (pa_cons (pv 0) (pa_cons (pv 1) (pa_cons (pv 3) pa_nil))))))))
        (pss_cons (ps_if (PW.pt (pw_and (pt_cmpR op_gt (pv 3) (pv 2) (nomark _)) (pw_and1 (pt_cmpR op_in_seq (pv 3) (pe_fld (pv 0) rfl) (by rfl)))))
          (pss_one (ps_ret (pv 3)))
          pss_nil)
        (pss_one (ps_aug (i := 3) sc_rest_end.nd rfl (Or.inl rfl) pe_int ip_add))))
      (pss_one (ps_ret (pv 3))))), ?_⟩
    obtain ⟨dx, la, ba, vsl, h1, h2, h3, h4, h5⟩ := id hP.sc.ex
    obtain ⟨laa, rfl, hla⟩ := h2
    obtain ⟨baa, rfl, hba⟩ := h3
    have hla' := hP.sc.sub _ _ hla
    have hba' := hP.sc.sub _ _ hba
    refine ⟨_, rfl, ?_⟩
    refine ⟨fun m σ H' => ∃ e : Nat, σ = [some (.ref s), some (.ref pa), some (.int (i : Nat)), some (.int (e : Nat))] ∧ H' = H ∧ m = S.bars.length - e ∧ i ≤ e ∧ i + restN S ks i = e + (if i < e ∧ S.breaks.contains e = true then 0 else restN S ks e),
      ⟨_, i, rfl, rfl, rfl, Nat.le_refl _, by rw [if_neg (fun z => Nat.lt_irrefl _ z.1)]⟩, ?_⟩
    rintro m σ H' ⟨e, rfl, rfl, rfl, hie, inv⟩
    refine ⟨_, rfl, _, rfl, s, CS, dx, _, _, rfl, h1, cl, nL, scF_l _ _ _, laa, _, rfl, .inl (SqL.of hla'), _, _, rfl, rfl, _, rfl, ?_⟩
    rw [nV_length]
    have out : (¬ e < S.bars.length ∨ S.silent ks e = false) → (({ nx := fun σ H' => tRet (tVar 3) { nx := fun _ H' => Q .non H', rt := Q } σ H', rt := Q } : Ends).nx [some (.ref s), some (.ref pa), some (.int (i : Nat)), some (.int (e : Nat))] H' : Prop) := fun z => by
      rw [restN_no z] at inv
      have e0 : i + restN S ks i = e := by
        rw [inv]
        split <;> rfl
      rw [e0] at q
      exact ⟨_, rfl, q⟩
    by_cases c1 : e < S.bars.length
    · refine iteT_of (decide_eq_true (by omega)) ?_
      refine ⟨_, rfl, _, rfl, _, rfl, G, s, sl, t, pa, S, ks, e, rfl, hP, c1, _, rfl, ?_⟩
      cases c2 : S.silent ks e with
      | false =>
        refine iteF ?_
        exact out (.inr c2)
      | true =>
        refine iteT ?_
        refine ⟨fun σ H2 => ∃ e2 : Nat, σ = [some (.ref s), some (.ref pa), some (.int (i : Nat)), some (.int (e2 : Nat))] ∧ H2 = H' ∧ e2 = e + 1 ∧ i + restN S ks i = e2 + (if i < e2 ∧ S.breaks.contains e2 = true then 0 else restN S ks e2), ?_, ?_⟩
        · rintro σ2 H2 ⟨e2, rfl, rfl, rfl, inv2⟩
          exact ⟨_, by omega, e + 1, rfl, rfl, rfl, by omega, inv2⟩
        · have fin : ¬ (i < e ∧ S.breaks.contains e = true) → i + restN S ks i = (e + 1) + (if i < e + 1 ∧ S.breaks.contains (e + 1) = true then 0 else restN S ks (e + 1)) := fun z => by
            rw [inv, if_neg z, restN_yes c1 c2]
            by_cases b : S.breaks.contains (e + 1) = true
            · rw [if_pos b, if_pos ⟨by omega, b⟩]
            · rw [if_neg b, if_neg (fun z => b z.2)]; omega
          have go : ¬ (i < e ∧ S.breaks.contains e = true) → ∃ e2 : Nat, ([some (.ref s), some (.ref pa), some (.int (i : Nat)), some (.int ((e : Int) + 1))] : L2.St) = [some (.ref s), some (.ref pa), some (.int (i : Nat)), some (.int (e2 : Nat))] ∧ H' = H' ∧ e2 = e + 1 ∧ i + restN S ks i = e2 + (if i < e2 ∧ S.breaks.contains e2 = true then 0 else restN S ks e2) := fun z => ⟨e + 1, rfl, rfl, rfl, fin z⟩
          refine ⟨_, rfl, _, rfl, _, _, rfl, rfl, _, rfl, ?_⟩
          by_cases d1 : i < e
          · refine iteT_of (decide_eq_true (by omega)) ?_
            refine ⟨_, rfl, _, rfl, s, CS, dx, _, _, rfl, h1, cl, nB, scF_b _ _ _, baa, _, rfl, .inl (SqL.of hba'), rfl, nV_flat _, _, rfl, ?_⟩
            rw [inV_nat]
            cases d2 : S.breaks.contains e with
            | true =>
              refine iteT_of rfl ?_
              rw [if_pos ⟨d1, d2⟩] at inv
              have e0 : i + restN S ks i = e := inv
              rw [e0] at q
              exact ⟨_, rfl, q⟩
            | false =>
              refine iteF_of rfl ?_
              exact ⟨_, rfl, _, _, rfl, rfl, go (fun z => by rw [d2] at z; cases z.2)⟩
          · refine iteF_of (decide_eq_false (by omega)) ?_
            refine iteF_of rfl ?_
            exact ⟨_, rfl, _, _, rfl, rfl, go (fun z => d1 z.1)⟩
    · refine iteF_of (decide_eq_false (by omega)) ?_
      refine iteF ?_
      exact out (.inl c1)
end
end Ps

namespace Ps
open PySem PySem.Spec PyProof.Rows L2
section
variable {P : Program} {w : World} {K : PySem.W.Frag} {mg : Str → Option Value} {base : Heap}
structure TxtP (K : PySem.W.Frag) (mg : Str → Option Value) (CS : Addr) : Prop where
  g_REST : ∃ t, mg "REST" = some (.int 0 t)
  g_BAR : ∃ t, mg "BAR" = some (.int 1 t)
  g_CUED_BAR : ∃ t, mg "CUED_BAR" = some (.int 2 t)
  n_len : mg "len" = none
  n_enumerate : mg "enumerate" = none
  cl : Cls K CS
  nL : NoAttr K CS "lengths"
  nB : NoAttr K CS "breaks"
  nS : NoAttr K CS "staves"
/-! ### bar_piece -/
def sp_bar_piece (C : Addr) : Sp := fun vs H Q _ => ∃ G s sl t pa S ks i, vs = [.ref s, .ref pa, .int (i : Nat)] ∧ PtAt C H G s sl t pa S ks ∧ i < S.bars.length ∧ ks.length ≤ 1000 ∧ (Sw71.pieceOut (.bar (ks.map fun k => S.barAt k i))).length ≤ 1000000 ∧
  ∀ H' p, Same H H' → H p = none → H' p = some (.lst (nV (Sw71.pieceOut (.bar (ks.map fun k => S.barAt k i))))) → Q (.ref p) H'
theorem ok_bar_piece {CS f : Addr} {fd : FuncData} (T : TxtP K mg CS) (D : Dn K mg "bar_piece" s_bar_piece ["score", "part", "place"] f fd)
    (C1 : Cal P w K mg base "bars_numbers" 2 ["bars"] sp_bars_numbers) : Cal P w K mg base "bar_piece" 3 ["score", "part", "place"] (sp_bar_piece CS) := by
  obtain ⟨f_bars_numbers, fd_bars_numbers, G_bars_numbers, m_bars_numbers, k_bars_numbers, b_bars_numbers⟩ := C1.ex
  refine D.cal (D.fn.ok sc_bar_piece (fun vs H Q E h => ?_) (fun cdv A outer s0 H vs Q E hr h => ?_))
  · obtain ⟨G, s, sl, t, pa, S, ks, i, rfl, _⟩ := h
    rfl
  · obtain ⟨G, s, sl, t, pa, S, ks, i, rfl, hP, hi, hk1, hbig, q⟩ := h
    refine ⟨_, (pss_one (ps_ret (pe_op op_cat (pe_lst (pa_cons (pe_gi rfl T.g_BAR) pa_nil)) (pe_call G_bars_numbers (hr.mono (by decide)) rfl m_bars_numbers k_bars_numbers b_bars_numbers .nil pass0 (pa_cons (pe_lc (own := [("number", 3)]) (te := tOp (rIxL K) (tOp (rIxL K) (tFld K (tVar 0) "staves") (tVar 3)) (tVar 2)) rfl sc_bar_piece.nd (pi_list (pv 1)) (blkOk_by (own := [("number", 3)]) (N := ["score", "part", "place", "number"]) (sc := defScope s_bar_piece) (by decide +kernel)) (fun _ _ _ _ _ => (pg_name (i := 3) sc_bar_piece.nd rfl (Or.inl rfl))) (fun _ _ _ _ _ => pts_nil) (fun _ _ _ _ _ => (pe_ix ix_list (pe_ix ix_list (pe_fld (pv 0) rfl) (pv 3) (fun _ _ => rfl)) (pv 2) (fun _ _ => rfl)))) pa_nil))))), ?_⟩
    refine ⟨by show 1 ≤ sizeLine; decide, fun p1 np1 => ?_⟩
    have s1 := same_upd (o := .lst [V.int 1]) np1
    refine ⟨_, rfl, pa, rfl, ⟨_, SqL.of (s1 _ _ hP.part)⟩, fun L nL => lc_list (K := K) (a := pa) (xs := nV ks) (fun j H' => ∃ vs, Same (upd H p1 (.lst [V.int 1])) H' ∧ H' L = some (.lst vs) ∧ Paired (BarAt G) vs ((ks.take j).map fun k => S.barAt k i))
      ⟨[], same_upd nL, upd_same, .nil⟩ (fun j H' _ ⟨_, s2, _⟩ => SqL.of (s2 _ _ (s1 _ _ hP.part))) ?_ ?_⟩
    · rintro j y H' hj ⟨vs, s2, hL, pr⟩
      obtain ⟨k, hk, rfl⟩ := nV_at hj
      have P2 := (hP.same s1).same s2
      obtain ⟨dx, la, ba, vsl, x, bs, vb, h1, h2, h3, h4, h5, h6⟩ := bar_there P2.sc hP.good (hP.ok k (List.mem_of_getElem? hk)) hi
      refine ⟨rfl, lc_yes ?_⟩
      refine ⟨_, rfl, s, CS, dx, _, _, rfl, h1, T.cl, T.nS, scF_s _ _ _, _, rfl, sl, _, _, _, rfl, rfl, SqL.of h2, atI_nat h3, _, rfl, x, _, _, vb, rfl, rfl, SqL.of h4, atI_nat h5, vs, hL, small1000 ?_, vs ++ [vb], fun c o e => ?_, upd_same, ?_⟩
      · rw [pr.length, List.length_map, List.length_take]; omega
      · rw [upd_ne (ne_of_none e nL)]
        exact s2 _ _ e
      · rw [snoc_take hk, List.map_append]
        exact Paired.snoc pr h6
    · rintro H2 ⟨vs, s2, hL, pr⟩
      rw [nV_length, List.take_length] at pr
      have P2 := (hP.same s1).same s2
      have e0 : Sw71.pieceOut (.bar (ks.map fun k => S.barAt k i)) = 1 :: Sw71.staffOut (ks.map fun k => S.barAt k i) := rfl
      rw [e0] at q hbig
      rw [List.length_cons] at hbig
      refine ⟨_, _, rfl, ⟨L, vs, rfl, hL, Paired.mono (fun _ _ h => barAt_mono _ _ _ _ P2.sc.sub h) pr⟩, by omega, fun H3 z s3 nz hz => ?_⟩
      refine ⟨p1, z, _, _, rfl, rfl, s3 _ _ (s2 _ _ upd_same), hz, Nat.le_of_lt (line_big (by rw [nV_length]; show 1 + _ ≤ _; omega)), fun p np => ?_⟩
      refine q _ p (((s1.trans s2).trans s3).trans (same_upd np)) (s1.free (s2.free (s3.free np))) upd_same
/-! ### cue_staff -/
def cueV : Option Nat → V
  | none => .non
  | some k => .int (k : Int)
def sp_cue_staff (C : Addr) : Sp := fun vs H Q _ => ∃ G s sl t pa S ks i, vs = [.ref s, .ref pa, .int (i : Nat)] ∧ PtAt C H G s sl t pa S ks ∧ i < S.bars.length ∧
  ∀ H', Same H H' → Q (cueV (S.cueAt ks i)) H'
theorem cue_some {S : Sw71.Score} {ks : List Nat} {i k : Nat} (hk : k < S.staves.length) (h : (!ks.contains k && !Sw71.rests (S.barAt k i)) = true) (n : ∀ j, j < k → (!ks.contains j && !Sw71.rests (S.barAt j i)) = false) : S.cueAt ks i = some k :=
  List.find?_range_eq_some.mpr ⟨h, List.mem_range.mpr hk, fun j hj => by rw [n j hj]; rfl⟩
theorem ok_cue_staff {CS f : Addr} {fd : FuncData} (T : TxtP K mg CS) (D : Dn K mg "cue_staff" s_cue_staff ["score", "part", "place"] f fd)
    (C1 : Cal P w K mg base "bar_rests" 1 ["bar"] sp_bar_rests) : Cal P w K mg base "cue_staff" 2 ["score", "part", "place"] (sp_cue_staff CS) := by
  obtain ⟨f_bar_rests, fd_bar_rests, G_bar_rests, m_bar_rests, k_bar_rests, b_bar_rests⟩ := C1.ex
  refine D.cal (D.fn.ok sc_cue_staff (fun vs H Q E h => ?_) (fun cdv A outer s0 H vs Q E hr h => ?_))
  · obtain ⟨G, s, sl, t, pa, S, ks, i, rfl, _⟩ := h
    rfl
  · obtain ⟨G, s, sl, t, pa, S, ks, i, rfl, hP, hi, q⟩ := h
    refine ⟨_, (pss_cons (ps_for PassesOwn.never rfl (pi_enum (by rfl) T.n_enumerate (pa_cons (pe_fld (pv 0) rfl) pa_nil)) (pg_tup rfl (pgs_cons (pg_name (i := 3) sc_cue_staff.nd rfl (Or.inl rfl)) (pgs_cons (pg_name (i := 4) sc_cue_staff.nd rfl (Or.inl rfl)) pgs_nil)))
        (pss_one (ps_if (PW.pt (pw_and (pt_cmpR op_notIn_seq (pv 3) (pv 1) (by rfl)) (pw_and1 (pt_not (pt_val (pe_call G_bar_rests (hr.mono (by decide)) rfl m_bar_rests k_bar_rests b_bar_rests .nil pass0 (pa_cons (pe_ix ix_list (pv 4) (pv 2) (fun _ _ => rfl)) pa_nil)))))))
          (pss_one (ps_ret (pv 3)))
          pss_nil)))
      (pss_one (ps_ret pe_non))), ?_⟩
    obtain ⟨dx, la, ba, vsl, h1, h2, h3, h4, h5⟩ := id hP.sc.ex
    refine ⟨_, rfl, s, CS, dx, _, _, rfl, h1, T.cl, T.nS, scF_s _ _ _, sl, vsl, rfl, SqL.of h4, for_it (walk_enum (K := K) (a := sl) (xs := vsl)) (fun j σ H' => ∃ v3 v4, σ = [some (.ref s), some (.ref pa), some (.int (i : Nat)), v3, v4] ∧ Same H H' ∧ ∀ m, m < j → (!ks.contains m && !Sw71.rests (S.barAt m i)) = false)
      ⟨none, none, rfl, Same.refl H, fun m hm => absurd hm (Nat.not_lt_zero m)⟩ (fun j σ H' _ ⟨_, _, _, s2, _⟩ => SqL.of (s2 _ _ h4)) ?_ ?_⟩
    · rintro k z σ Hi H2 hk ⟨v3, v4, rfl, si, hn⟩ ⟨tt, vx, vy, rfl, nt, rfl, e1, e2⟩
      cases e1
      have st := same_upd (o := .tup [V.int (k : Nat), vy]) nt
      have s2 := si.trans st
      have hk' : k < S.staves.length := by rw [← h5.length]; exact hk
      have P2 := hP.same s2
      obtain ⟨dx', la', ba', vsl', x, bs, vb, g1, g2, g3, g4, g5, g6⟩ := bar_there P2.sc hP.good hk' hi
      have ev : vsl' = vsl := by
        rw [s2 _ _ h4] at g2
        cases g2; rfl
      subst ev
      have evy : vy = .ref x := Option.some.inj (e2.symm.trans g3)
      subst evy
      refine ⟨tt, _, rfl, SqT.of upd_same, rfl, _, _, rfl, _, _, rfl, rfl, ?_⟩
      refine ⟨_, rfl, _, rfl, pa, _, rfl, .inl (SqL.of P2.part), rfl, nV_flat _, _, rfl, ?_⟩
      rw [inV_nat]
      have more : (!ks.contains k && !Sw71.rests (S.barAt k i)) = false → ∃ v3 v4, ([some (.ref s), some (.ref pa), some (.int (i : Nat)), some (.int (k : Nat)), some (.ref x)] : L2.St) = [some (.ref s), some (.ref pa), some (.int (i : Nat)), v3, v4] ∧ Same H (upd Hi tt (.tup [V.int (k : Nat), V.ref x])) ∧ ∀ m, m < k + 1 → (!ks.contains m && !Sw71.rests (S.barAt m i)) = false := fun no =>
        ⟨_, _, rfl, s2, fun m hm => by
          by_cases c : m = k
          · subst c; exact no
          · exact hn m (by omega)⟩
      cases c1 : ks.contains k with
      | true =>
        refine iteF_of rfl ?_
        refine iteF_of rfl ?_
        exact more (by rw [c1]; rfl)
      | false =>
        refine iteT_of rfl ?_
        refine ⟨_, rfl, _, rfl, x, _, _, vb, rfl, rfl, SqL.of g4, atI_nat g5, vb, _, rfl, barAt_mono _ _ _ _ P2.sc.sub g6, _, rfl, ?_⟩
        cases c2 : Sw71.rests (S.barAt k i) with
        | true =>
          refine iteF_of rfl ?_
          exact more (by rw [c1, c2]; rfl)
        | false =>
          refine iteT_of rfl ?_
          have e : S.cueAt ks i = some k := cue_some hk' (by rw [c1, c2]; rfl) hn
          have q2 := q _ s2
          rw [e] at q2
          exact ⟨_, rfl, q2⟩
    · rintro σ H2 ⟨v3, v4, rfl, s2, hn⟩
      have e : S.cueAt ks i = none := List.find?_range_eq_none.mpr fun m hm => by rw [hn m (by rw [h5.length]; exact hm)]; rfl
      have q2 := q _ s2
      rw [e] at q2
      exact q2
/-! ### rest_pieces -/
theorem grow_at {H H' : Hp} {a : Addr} {o : HO} (h : H a = none) (h' : H' a = some o) (d : datO o = true) : Grow Hp0 H H' a = some o := grow_new (same0 _) h h' d
def sp_rest_pieces (C : Addr) : Sp := fun vs H Q _ => ∃ G s sl t pa S ks i n least, vs = [.ref s, .ref pa, .int (i : Nat), .int ((i + n : Nat) : Int), .int (least : Nat)] ∧ PtAt C H G s sl t pa S ks ∧ 1 ≤ n ∧ i + n ≤ S.bars.length ∧
  (∀ p ∈ S.restOut ks least i n, (Sw71.pieceOut p).length ≤ 1000000) ∧
  ∀ H' u, Same H H' → RowsAt (Grow Hp0 H H') u ((S.restOut ks least i n).map Sw71.pieceOut) → Q u H'
theorem ok_rest_pieces {CS f : Addr} {fd : FuncData} (T : TxtP K mg CS) (D : Dn K mg "rest_pieces" s_rest_pieces ["score", "part", "start", "end", "least"] f fd)
    (C1 : Cal P w K mg base "cue_staff" 2 ["score", "part", "place"] (sp_cue_staff CS)) (C2 : Cal P w K mg base "bar_numbers" 1 ["bar"] sp_bar_numbers) : Cal P w K mg base "rest_pieces" 3 ["score", "part", "start", "end", "least"] (sp_rest_pieces CS) := by
  obtain ⟨f_cue_staff, fd_cue_staff, G_cue_staff, m_cue_staff, k_cue_staff, b_cue_staff⟩ := C1.ex
  obtain ⟨f_bar_numbers, fd_bar_numbers, G_bar_numbers, m_bar_numbers, k_bar_numbers, b_bar_numbers⟩ := C2.ex
  refine D.cal (D.fn.ok sc_rest_pieces (fun vs H Q E h => ?_) (fun cdv A outer s0 H vs Q E hr h => ?_))
  · obtain ⟨G, s, sl, t, pa, S, ks, i, n, least, rfl, _⟩ := h
    rfl
  · obtain ⟨G, s, sl, t, pa, S, ks, i, n, least, rfl, hP, hn, hin, hbig, q⟩ := h
    refine ⟨_, (pss_cons (ps_set (i := 5) sc_rest_pieces.nd rfl (Or.inl rfl) (pe_op op_sub (pv 3) (pv 2)))
      (pss_cons (ps_set (i := 6) sc_rest_pieces.nd rfl (Or.inl rfl) pe_non)
      (pss_cons (ps_if (PW.pt (pw_and (pt_cmpR op_ne (pv 4) pe_int (nomark _)) (pw_and1 (pt_cmpR op_ge (pv 5) (pv 4) (nomark _)))))
        (pss_one (ps_set (i := 6) sc_rest_pieces.nd rfl (Or.inl rfl) (pe_call G_cue_staff (hr.mono (by decide)) rfl m_cue_staff k_cue_staff b_cue_staff .nil pass0 (pa_cons (pv 0) (pa_cons (pv 1) (pa_cons (pe_op op_sub (pv 3) pe_int) pa_nil))))))
        pss_nil)
      (pss_cons (ps_if (pt_cmpR op_isN (pv 6) pe_non (nomark _))
        (pss_one (ps_ret (pe_lst (pa_cons (pe_lst (pa_cons (pe_gi rfl T.g_REST) (pa_cons (pv 5) pa_nil))) pa_nil))))
        pss_nil)
      (pss_cons (ps_set (i := 7) sc_rest_pieces.nd rfl (Or.inl rfl) (pe_op op_cat (pe_lst (pa_cons (pe_gi rfl T.g_CUED_BAR) (pa_cons (pv 6) pa_nil))) (pe_call G_bar_numbers (hr.mono (by decide)) rfl m_bar_numbers k_bar_numbers b_bar_numbers .nil pass0 (pa_cons (pe_ix ix_list (pe_ix ix_list (pe_fld (pv 0) rfl) (pv 6) (fun _ _ => rfl)) (pe_op op_sub (pv 3) pe_int) (fun _ _ => rfl)) pa_nil))))
      (pss_cons (ps_if (pt_cmpR op_eq (pv 5) pe_int (nomark _))
        (pss_one (ps_ret (pe_lst (pa_cons (pv 7) pa_nil))))
        pss_nil)
      (pss_one (ps_ret (pe_lst (pa_cons (pe_lst (pa_cons (pe_gi rfl T.g_REST) (pa_cons (pe_op op_sub (pv 5) pe_int) pa_nil))) (pa_cons (pv 7) pa_nil))))))))))), ?_⟩
    have en : ((i + n : Nat) : Int) - (i : Int) = (n : Int) := by omega
    have ep : ((i + n : Nat) : Int) - 1 = ((i + n - 1 : Nat) : Int) := by omega
    have hi1 : i + n - 1 < S.bars.length := by omega
    -- one rest alone
    have one : S.restOut ks least i n = [.rest n] → ∀ (H1 : Hp) (p1 p2 : Addr), Same H H1 → H1 p1 = none → (upd H1 p1 (.lst [V.int 0, V.int (n : Nat)])) p2 = none → Q (.ref p2) (upd (upd H1 p1 (.lst [V.int 0, V.int (n : Nat)])) p2 (.lst [.ref p1])) := fun e H1 p1 p2 s1 n1 n2 => by
      rw [e] at q
      have s2 := same_upd (o := .lst [V.int 0, V.int (n : Nat)]) n1
      have s3 := same_upd (o := .lst [V.ref p1]) n2
      exact q _ _ ((s1.trans s2).trans s3) ⟨p2, _, rfl, grow_at (s1.free (s2.free n2)) upd_same rfl, .cons ⟨p1, rfl, grow_at (s1.free n1) (s3 _ _ upd_same) rfl⟩ .nil⟩
    refine ⟨_, rfl, _, rfl, _, _, rfl, rfl, ?_⟩
    show gName 5 (V.int (((i + n : Nat) : Int) - (i : Int))) _ _ _
    rw [en]
    refine ⟨_, rfl, rfl, _, rfl, ?_⟩
    by_cases c0 : least = 0
    · refine iteF_of (by rw [c0]; rfl) (iteF ?_)
      have e : S.restOut ks least i n = [.rest n] := by
        unfold Sw71.Score.restOut
        rw [if_neg (fun z => z.1 c0)]
      refine ⟨_, rfl, rfl, _, rfl, iteT_of rfl ?_⟩
      exact ⟨_, rfl, by show 2 ≤ sizeLine; decide, fun p1 n1 => ⟨by show 1 ≤ sizeLine; decide, fun p2 n2 => one e _ _ _ (Same.refl H) n1 n2⟩⟩
    refine iteT_of (by
      show (!decide (V.int (least : Int) = V.int 0)) = true
      rw [decide_eq_false (fun z => c0 (by injection z with z; exact Int.ofNat.inj z))]; rfl) ?_
    refine ⟨_, rfl, _, rfl, _, _, rfl, rfl, _, rfl, ?_⟩
    by_cases c1 : least ≤ n
    case neg =>
      refine iteF_of (decide_eq_false (by omega)) ?_
      have e : S.restOut ks least i n = [.rest n] := by
        unfold Sw71.Score.restOut
        rw [if_neg (fun z => c1 z.2)]
      refine ⟨_, rfl, rfl, _, rfl, iteT_of rfl ?_⟩
      exact ⟨_, rfl, by show 2 ≤ sizeLine; decide, fun p1 n1 => ⟨by show 1 ≤ sizeLine; decide, fun p2 n2 => one e _ _ _ (Same.refl H) n1 n2⟩⟩
    refine iteT_of (decide_eq_true (by omega)) ?_
    refine ⟨_, rfl, _, rfl, _, rfl, _, _, rfl, rfl, G, s, sl, t, pa, S, ks, i + n - 1, ?_, hP, hi1, fun H1 s1 => ?_⟩
    · show [V.ref s, V.ref pa, V.int (((i + n : Nat) : Int) - 1)] = _
      rw [ep]
    cases hc : S.cueAt ks (i + n - 1) with
    | none =>
      have e : S.restOut ks least i n = [.rest n] := by
        unfold Sw71.Score.restOut
        rw [if_pos ⟨c0, c1⟩, hc]
      refine ⟨_, rfl, rfl, _, rfl, iteT_of rfl ?_⟩
      exact ⟨_, rfl, by show 2 ≤ sizeLine; decide, fun p1 n1 => ⟨by show 1 ≤ sizeLine; decide, fun p2 n2 => one e _ _ _ s1 n1 n2⟩⟩
    | some k =>
      have e : S.restOut ks least i n = (if n = 1 then [] else [.rest (n - 1)]) ++ [.cue k (S.barAt k (i + n - 1))] := by
        unfold Sw71.Score.restOut
        rw [if_pos ⟨c0, c1⟩, hc]
      have hk : k < S.staves.length := List.mem_range.mp (List.mem_of_find?_eq_some hc)
      have hb := hbig (.cue k (S.barAt k (i + n - 1))) (by rw [e]; exact List.mem_append_right _ (List.mem_singleton.mpr rfl))
      have e0 : Sw71.pieceOut (.cue k (S.barAt k (i + n - 1))) = 2 :: k :: Sw71.barOut (S.barAt k (i + n - 1)) := rfl
      rw [e0, List.length_cons, List.length_cons] at hb
      refine ⟨_, rfl, rfl, _, rfl, iteF_of rfl ?_⟩
      refine ⟨_, rfl, by show 2 ≤ sizeLine; decide, fun p1 n1 => ?_⟩
      have s2 := same_upd (o := .lst [V.int 2, cueV (some k)]) n1
      have P2 := (hP.same s1).same s2
      obtain ⟨dx, la, ba, vsl, x, bs, vb, g1, g2, g3, g4, g5, g6⟩ := bar_there P2.sc hP.good hk hi1
      refine ⟨_, rfl, s, CS, dx, _, _, rfl, g1, T.cl, T.nS, scF_s _ _ _, _, rfl, sl, _, _, _, rfl, rfl, SqL.of g2, atI_nat g3, _, rfl, _, _, rfl, rfl, x, _, _, vb, rfl, rfl, SqL.of g4, ?_, vb, _, rfl, barAt_mono _ _ _ _ P2.sc.sub g6, by omega, fun H3 z s3 nz hz => ?_⟩
      · rw [ep]; exact atI_nat g5
      have h1 : H3 p1 = some (.lst [V.int 2, cueV (some k)]) := s3 _ _ upd_same
      refine ⟨p1, z, _, _, rfl, rfl, h1, hz, Nat.le_of_lt (line_big (by rw [nV_length]; show 2 + _ ≤ _; omega)), fun p3 n3 => ?_⟩
      have s4 := same_upd (o := .lst ([V.int 2, cueV (some k)] ++ nV (Sw71.barOut (S.barAt k (i + n - 1))))) n3
      have S4 := ((s1.trans s2).trans s3).trans s4
      have n3H : H p3 = none := s1.free (s2.free (s3.free n3))
      refine ⟨_, rfl, rfl, _, rfl, ?_⟩
      by_cases c3 : n = 1
      · refine iteT_of (by rw [c3]; rfl) ?_
        refine ⟨_, rfl, by show 1 ≤ sizeLine; decide, fun p5 n5 => ?_⟩
        have s5 := same_upd (o := .lst [V.ref p3]) n5
        rw [e, if_pos c3] at q
        exact q _ _ (S4.trans s5) ⟨p5, _, rfl, grow_at (S4.free n5) upd_same rfl, .cons ⟨p3, rfl, grow_at n3H (s5 _ _ upd_same) rfl⟩ .nil⟩
      · refine iteF_of (by
          show decide (V.int (n : Int) = V.int 1) = false
          exact decide_eq_false (fun z => c3 (by injection z with z; omega))) ?_
        refine ⟨_, rfl, _, _, rfl, rfl, by show 2 ≤ sizeLine; decide, fun p5 n5 => ?_⟩
        have s5 := same_upd (o := .lst [V.int 0, V.int ((n : Int) - 1)]) n5
        refine ⟨_, rfl, by show 2 ≤ sizeLine; decide, fun p6 n6 => ?_⟩
        have s6 := same_upd (o := .lst [V.ref p5, V.ref p3]) n6
        rw [e, if_neg c3] at q
        refine q _ _ ((S4.trans s5).trans s6) ⟨p6, _, rfl, grow_at (S4.free (s5.free n6)) upd_same rfl, .cons ⟨p5, rfl, grow_at (S4.free n5) (s6 _ _ ?_) rfl⟩ (.cons ⟨p3, rfl, grow_at n3H (s6 _ _ (s5 _ _ upd_same)) rfl⟩ .nil)⟩
        rw [upd_same]
        show some (HO.lst [V.int 0, V.int ((n : Int) - 1)]) = _
        rw [show ((n : Int) - 1) = ((n - 1 : Nat) : Int) by omega]; rfl
end
end Ps

namespace Ps
open PySem PySem.Spec PyProof.Rows L2
section
variable {P : Program} {w : World} {K : PySem.W.Frag} {mg : Str → Option Value} {base : Heap}
/-! ### drawn_out -/
def drawN (S : Sw71.Score) (ks : List Nat) (least i : Nat) : List Sw71.Piece := S.drawFrom ks least S.bars.length i
theorem draw_turn (S : Sw71.Score) (ks : List Nat) (least f i : Nat) : S.drawFrom ks least (f + 1) i = if S.bars.length ≤ i then [] else if restN S ks i = 0 then .bar (ks.map fun k => S.barAt k i) :: S.drawFrom ks least f (i + 1) else S.restOut ks least i (restN S ks i) ++ S.drawFrom ks least f (i + restN S ks i) := rfl
theorem draw_fuel (S : Sw71.Score) (ks : List Nat) (least : Nat) : ∀ (f g i : Nat), S.bars.length - i ≤ f → S.bars.length - i ≤ g → S.drawFrom ks least f i = S.drawFrom ks least g i
  | 0, 0, i, _, _ => rfl
  | 0, g + 1, i, h, _ => by
    rw [draw_turn, if_pos (by omega)]; rfl
  | f + 1, 0, i, _, h => by
    rw [draw_turn, if_pos (by omega)]; rfl
  | f + 1, g + 1, i, h1, h2 => by
    rw [draw_turn, draw_turn]
    by_cases c : S.bars.length ≤ i
    · rw [if_pos c, if_pos c]
    · rw [if_neg c, if_neg c, draw_fuel S ks least f g (i + 1) (by omega) (by omega)]
      by_cases z : restN S ks i = 0
      · rw [if_pos z, if_pos z]
      · rw [if_neg z, if_neg z, draw_fuel S ks least f g (i + restN S ks i) (by omega) (by omega)]
theorem drawN_end {S : Sw71.Score} {ks : List Nat} {least i : Nat} (h : ¬ i < S.bars.length) : drawN S ks least i = [] := by
  unfold drawN
  rw [draw_fuel S ks least S.bars.length 0 i (by omega) (by omega)]; rfl
theorem drawN_bar {S : Sw71.Score} {ks : List Nat} {least i : Nat} (h : i < S.bars.length) (z : restN S ks i = 0) : drawN S ks least i = .bar (ks.map fun k => S.barAt k i) :: drawN S ks least (i + 1) := by
  unfold drawN
  rw [draw_fuel S ks least S.bars.length (S.bars.length + 1) i (by omega) (by omega), draw_turn, if_neg (by omega), if_pos z]
theorem drawN_rest {S : Sw71.Score} {ks : List Nat} {least i : Nat} (h : i < S.bars.length) (z : ¬ restN S ks i = 0) : drawN S ks least i = S.restOut ks least i (restN S ks i) ++ drawN S ks least (i + restN S ks i) := by
  unfold drawN
  rw [draw_fuel S ks least S.bars.length (S.bars.length + 1) i (by omega) (by omega), draw_turn, if_neg (by omega), if_neg z]
def sp_drawn_out (C : Addr) : Sp := fun vs H Q _ => ∃ G s sl t pa S ks least, vs = [.ref s, .ref pa, .int (least : Nat)] ∧ PtAt C H G s sl t pa S ks ∧ ks.length ≤ 1000 ∧ (S.draw ks least).length ≤ 1000000 ∧ (∀ p ∈ S.draw ks least, (Sw71.pieceOut p).length ≤ 1000000) ∧
  ∀ H' u, Same H H' → RowsAt (Grow Hp0 H H') u ((S.draw ks least).map Sw71.pieceOut) → Q u H'
theorem ok_drawn_out {CS f : Addr} {fd : FuncData} (T : TxtP K mg CS) (D : Dn K mg "drawn_out" s_drawn_out ["score", "part", "least"] f fd)
    (C1 : Cal P w K mg base "rest_end" 3 ["score", "part", "start"] (sp_rest_end CS)) (C2 : Cal P w K mg base "bar_piece" 3 ["score", "part", "place"] (sp_bar_piece CS)) (C3 : Cal P w K mg base "rest_pieces" 3 ["score", "part", "start", "end", "least"] (sp_rest_pieces CS)) :
    Cal P w K mg base "drawn_out" 4 ["score", "part", "least"] (sp_drawn_out CS) := by
  obtain ⟨f_rest_end, fd_rest_end, G_rest_end, m_rest_end, k_rest_end, b_rest_end⟩ := C1.ex
  obtain ⟨f_bar_piece, fd_bar_piece, G_bar_piece, m_bar_piece, k_bar_piece, b_bar_piece⟩ := C2.ex
  obtain ⟨f_rest_pieces, fd_rest_pieces, G_rest_pieces, m_rest_pieces, k_rest_pieces, b_rest_pieces⟩ := C3.ex
  refine D.cal (D.fn.ok sc_drawn_out (fun vs H Q E h => ?_) (fun cdv A outer s0 H vs Q E hr h => ?_))
  · obtain ⟨G, s, sl, t, pa, S, ks, least, rfl, _⟩ := h
    rfl
  · obtain ⟨G, s, sl, t, pa, S, ks, least, rfl, hP, hk1, hnum, hbig, q⟩ := h
    refine ⟨_, (pss_cons (ps_set (i := 3) sc_drawn_out.nd rfl (Or.inl rfl) (pe_lst pa_nil))
      (pss_cons (ps_set (i := 4) sc_drawn_out.nd rfl (Or.inl rfl) pe_int)
      (pss_cons (ps_while PassesOwn.never (pt_cmpR op_lt (pv 4) (pe_callB call_len_seq (by rfl) T.n_len PySem.boot_len (pa_cons (pe_fld (pv 0) rfl) pa_nil)) (nomark _))
        (pss_cons (ps_set (i := 5) sc_drawn_out.nd rfl (Or.inl rfl) (pe_call G_rest_end (hr.mono (by decide)) rfl m_rest_end k_rest_end b_rest_end .nil pass0 (pa_cons (pv 0) (pa_cons (pv 1) (pa_cons (pv 4) pa_nil)))))
        (pss_one (ps_if (pt_cmpR op_eq (pv 5) (pv 4) (nomark _))
          (pss_cons (ps_expr (pe_bm PySem.F.plainAttrs_list PySem.F.slot_list_append PySem.F.type_list_append mt_append (pv 3) (pa_cons (pe_call G_bar_piece (hr.mono (by decide)) rfl m_bar_piece k_bar_piece b_bar_piece .nil pass0 (pa_cons (pv 0) (pa_cons (pv 1) (pa_cons (pv 4) pa_nil)))) pa_nil)))
          (pss_one (ps_aug (i := 4) sc_drawn_out.nd rfl (Or.inl rfl) pe_int ip_add)))
          (pss_cons (ps_expr (pe_bm PySem.F.plainAttrs_list PySem.F.slot_list_extend PySem.F.type_list_extend mt_extend (pv 3) (pa_cons (pe_call G_rest_pieces (hr.mono (by decide)) rfl m_rest_pieces k_rest_pieces b_rest_pieces .nil pass0 (pa_cons (pv 0) (pa_cons (pv 1) (pa_cons (pv 4) (pa_cons (pv 5) (pa_cons (pv 2) pa_nil)))))) pa_nil)))
          (pss_one (ps_set (i := 4) sc_drawn_out.nd rfl (Or.inl rfl) (pv 5))))))))
      (pss_one (ps_ret (pv 3)))))), ?_⟩
    refine ⟨Nat.zero_le _, fun p np => ?_⟩
    have s1 := same_upd (o := .lst []) np
    have p1 : (upd H p (.lst [])) p = some (.lst []) := upd_same
    generalize hH1 : upd H p (.lst []) = H1 at s1 p1 ⊢
    refine ⟨fun m σ H' => ∃ (i : Nat) (v5 : Option V) (vs : List V) (done : List Sw71.Piece), σ = [some (.ref s), some (.ref pa), some (.int (least : Nat)), some (.ref p), some (.int (i : Nat)), v5] ∧ m = S.bars.length - i ∧ i ≤ S.bars.length ∧ S.draw ks least = done ++ drawN S ks least i ∧ Same H H' ∧ (∀ c, H' c = none → H1 c = none) ∧ H' p = some (.lst vs) ∧ Paired (NumsAt (Grow Hp0 H1 H')) vs (done.map Sw71.pieceOut),
      ⟨_, 0, none, [], [], rfl, rfl, Nat.zero_le _, rfl, s1, fun c h => h, p1, .nil⟩, ?_⟩
    rintro m σ Hi ⟨i, v5, vs, done, rfl, rfl, hi, hd, si, ni, hp, pr⟩
    have Pi := hP.same si
    obtain ⟨dx, la, ba, vsl, h1, h2, h3, h4, h5⟩ := id Pi.sc.ex
    obtain ⟨laa, rfl, hla⟩ := h2
    have hla' := Pi.sc.sub _ _ hla
    have lenD := congrArg List.length hd
    rw [List.length_append] at lenD
    have vlen : vs.length ≤ 1000000 := by
      rw [pr.length, List.length_map]; omega
    refine ⟨_, rfl, _, rfl, s, CS, dx, _, _, rfl, h1, T.cl, T.nL, scF_l _ _ _, laa, _, rfl, .inl (SqL.of hla'), _, _, rfl, rfl, _, rfl, ?_⟩
    rw [nV_length]
    by_cases c : i < S.bars.length
    case neg =>
      refine iteF_of (decide_eq_false (by omega)) ?_
      rw [drawN_end c, List.append_nil] at hd
      rw [hd] at q
      exact ⟨_, rfl, q _ _ si ⟨p, vs, rfl, grow_at np hp rfl, Paired.mono (fun _ _ h => numsAt_mono _ _ _ _ (grow_later fun c h => s1.free h) h) pr⟩⟩
    refine iteT_of (decide_eq_true (by omega)) ?_
    refine ⟨fun σ H2 => ∃ (i2 : Nat) (v5 : Option V) (vs2 : List V) (done2 : List Sw71.Piece), σ = [some (.ref s), some (.ref pa), some (.int (least : Nat)), some (.ref p), some (.int (i2 : Nat)), v5] ∧ i < i2 ∧ i2 ≤ S.bars.length ∧ S.draw ks least = done2 ++ drawN S ks least i2 ∧ Same H H2 ∧ (∀ c, H2 c = none → H1 c = none) ∧ H2 p = some (.lst vs2) ∧ Paired (NumsAt (Grow Hp0 H1 H2)) vs2 (done2.map Sw71.pieceOut),
      fun σ2 H2 ⟨i2, v5, vs2, done2, e1, e2, e3, e4, e5, e6, e7, e8⟩ => ⟨_, by omega, i2, v5, vs2, done2, e1, rfl, e3, e4, e5, e6, e7, e8⟩, ?_⟩
    refine ⟨_, rfl, _, rfl, _, rfl, G, s, sl, t, pa, S, ks, i, rfl, Pi, ?_⟩
    refine ⟨_, rfl, _, rfl, rfl, _, rfl, ?_⟩
    have le := restN_le S ks _ i (Nat.le_refl _) hi
    -- what is new behind a call stays, the list at p aside
    have keep : ∀ (Hx : Hp) (xs : List V), Same Hi Hx → Same (Grow Hp0 H1 Hi) (Grow Hp0 H1 (upd Hx p (.lst xs))) := fun Hx xs sx => grow_mono fun a o y1 y2 _ => by
      rw [upd_ne (fun z => by subst z; rw [p1] at y1; cases y1)]
      exact sx _ _ y2
    have keep2 : ∀ (Hx : Hp) (xs : List V), Same Hi Hx → Same (Grow Hp0 Hi Hx) (Grow Hp0 H1 (upd Hx p (.lst xs))) := fun Hx xs sx => (grow_mono fun a o y1 y2 _ => by
      rw [upd_ne (fun z => by subst z; rw [hp] at y1; cases y1)]
      exact y2).trans (grow_later ni)
    have sH : ∀ (Hx : Hp) (xs : List V), Same Hi Hx → Same H (upd Hx p (.lst xs)) := fun Hx xs sx a o y => by
      rw [upd_ne (ne_of_none y np)]
      exact sx _ _ (si _ _ y)
    have nH : ∀ (Hx : Hp) (xs : List V), Same Hi Hx → ∀ a, (upd Hx p (.lst xs)) a = none → H1 a = none := fun Hx xs sx a y => by
      by_cases z : a = p
      · subst z; rw [upd_same] at y; cases y
      · rw [upd_ne z] at y
        exact ni a (sx.free y)
    by_cases z : restN S ks i = 0
    · refine iteT_of (by rw [z]; exact decide_eq_true rfl) ?_
      have hd2 : S.draw ks least = (done ++ [.bar (ks.map fun k => S.barAt k i)]) ++ drawN S ks least (i + 1) := by
        rw [hd, drawN_bar c z, List.append_assoc]; rfl
      refine ⟨_, rfl, .inl ⟨rfl, _, SqL.of hp⟩, _, rfl, _, rfl, _, rfl, G, s, sl, t, pa, S, ks, i, rfl, Pi, c, hk1, hbig _ (by rw [hd2]; exact List.mem_append_left _ (List.mem_append_right _ (List.mem_singleton.mpr rfl))), fun H2 a s2 na ha => ?_⟩
      refine ⟨p, vs, _, rfl, rfl, s2 _ _ hp, line_big (by omega), ?_⟩
      refine ⟨_, rfl, _, _, rfl, rfl, i + 1, _, vs ++ [.ref a], done ++ [.bar (ks.map fun k => S.barAt k i)], rfl, by omega, by omega, hd2, sH _ _ s2, nH _ _ s2, upd_same, ?_⟩
      rw [List.map_append]
      exact Paired.snoc (Paired.mono (fun _ _ h => numsAt_mono _ _ _ _ (keep _ _ s2) h) pr) ⟨a, rfl, keep2 _ _ s2 _ _ (grow_at na ha rfl)⟩
    · refine iteF_of (decide_eq_false (fun y => z (by injection y with y; omega))) ?_
      have hd2 : S.draw ks least = (done ++ S.restOut ks least i (restN S ks i)) ++ drawN S ks least (i + restN S ks i) := by
        rw [hd, drawN_rest c z, List.append_assoc]
      refine ⟨_, rfl, .inl ⟨rfl, _, SqL.of hp⟩, _, rfl, _, rfl, _, rfl, _, rfl, _, rfl, G, s, sl, t, pa, S, ks, i, restN S ks i, least, rfl, Pi, by omega, le, fun x hx => hbig x (by rw [hd2]; exact List.mem_append_left _ (List.mem_append_right _ hx)), fun H2 u s2 hu => ?_⟩
      obtain ⟨a, xs, rfl, ha, hpx⟩ := hu
      have ha2 : H2 a = some (.lst xs) := grow_in (same0 _) _ _ ha
      have lenD2 := congrArg List.length hd2
      rw [List.length_append, List.length_append] at lenD2
      refine ⟨p, a, vs, xs, rfl, rfl, s2 _ _ hp, ha2, Nat.le_of_lt (line_big ?_), ?_⟩
      · rw [pr.length, hpx.length, List.length_map, List.length_map]; omega
      refine ⟨_, rfl, i + restN S ks i, _, vs ++ xs, done ++ S.restOut ks least i (restN S ks i), rfl, by omega, le, hd2, sH _ _ s2, nH _ _ s2, upd_same, ?_⟩
      rw [List.map_append]
      exact paired_append (Paired.mono (fun _ _ h => numsAt_mono _ _ _ _ (keep _ _ s2) h) pr) (Paired.mono (fun _ _ h => numsAt_mono _ _ _ _ (keep2 _ _ s2) h) hpx)
end
end Ps

namespace Ps
open PySem PySem.Spec PyProof.Rows L2
section
variable {P : Program} {w : World} {K : PySem.W.Frag} {mg : Str → Option Value} {base : Heap}
/-! ### len(set(xs)) of whole numbers, alike ones too -/
def setN (ns : List Int) : Nat := (firstMet (fun j => ns.getD j 0) ns.length).length
def tSetLen (K : PySem.W.Frag) (tx : TE) : TE := fun σ H Q => tx σ H fun v H1 => ∃ (a : Addr) (ns : List Int), v = V.ref a ∧ SqL K H1 a (ns.map V.int) ∧ ns.length < 64 ∧ Q (.int (setN ns : Nat)) H1
theorem pe_lenSetN {X : Cx} {x : Expr} {tx : TE} {q1 q2 q3 q4 : Pos} (calm : X.calm = true) (gl : Gl X "len") (ml : X.mg "len" = none) (gs : Gl X "set") (ms : X.mg "set" = none) (hx : PE X x tx)
    (one : starEach [x] X.env = (false, eval x X.env) :: starEach [] X.env := by rfl) : PE X (.Call (.Name "len" q1) [.Call (.Name "set" q2) [x] [] q3] [] q4) (tSetLen X.K tx) := by
  refine ⟨fun pins s0 σ H Q I0 hyp => ?_⟩
  refine Call_ (ld_blt I0 gl ml PySem.boot_len (PyProof.Rows.callWith_builtin1 (PyProof.Rows.args_cons (Call_ (ld_blt I0 gs ms PyProof.Rows.boot_set ?_)) rfl) rfl rfl))
  refine PyProof.Rows.callWith_type1 (PyProof.Rows.args_cons (thn (hx.run pins s0 σ H _ I0 hyp) fun u s2 ⟨v, H2, I2, rv, want⟩ => PyProof.Rows.args_nil ?_) one) one rfl
  obtain ⟨a, ns, ev, sq, small, want⟩ := want
  subst ev
  cases rv
  obtain ⟨vals, rel, plain, _⟩ := I2.list sq
  have size : vals.toArray.size = ns.length := by
    rw [List.size_toArray, ← rel.length]
    exact List.length_map _
  refine call_set_list (ns := ns) (I2.ok.hd calm) plain.isList (by simpa using rel.ints) (by unfold scanBound; omega) fun hp tok isSet same => PyProof.Rows.args_nil ?_
  rw [size] at isSet
  obtain ⟨ob, els, pe, tb, at_, exact_, data, _, _, _, fits, count⟩ := isSet
  have I3 : Inv X pins σ H2 { s2 with heap := hp, toks := tok } := I2.kept fun b o e => same b o (Heap.lt_size e) e
  have few : setN ns ≤ ns.length := firstMet_length_le _ _
  refine call_len_set at_ exact_ data fits (by rw [count]; show ((setN ns : Nat) : Int) < 2 ^ 63; omega) ⟨.int (setN ns : Nat), H2, I3.tok _, ⟨_, by rw [count]; rfl⟩, want⟩
theorem set_nodup (ns : List Int) (h : ns.Nodup) : setN ns = ns.length := by
  unfold setN
  rw [firstMet_nodup ns h ns.length (Nat.le_refl _), List.take_length]
theorem set_full (ns : List Int) : ∀ i, i ≤ ns.length → (firstMet (fun j => ns.getD j 0) i).length = i → (ns.take i).Nodup ∧ ∀ x, x ∈ firstMet (fun j => ns.getD j 0) i ↔ x ∈ ns.take i
  | 0, _, _ => ⟨by simp, fun x => by rw [firstMet_zero]; simp⟩
  | i + 1, hi, h => by
    have hlt : i < ns.length := hi
    have e : ns.getD i 0 = ns[i] := by rw [List.getD_eq_getElem?_getD, List.getElem?_eq_getElem hlt]; rfl
    rw [firstMet_succ, step_length] at h
    have le := firstMet_length_le (fun j => ns.getD j 0) i
    by_cases c : (firstMet (fun j => ns.getD j 0) i).any (· == (fun j => ns.getD j 0) i) = true
    · rw [if_pos c] at h; omega
    · rw [if_neg c] at h
      obtain ⟨ih1, ih2⟩ := set_full ns i (Nat.le_of_lt hlt) (by omega)
      have tk : ns.take (i + 1) = ns.take i ++ [ns[i]] := snoc_take (List.getElem?_eq_getElem hlt)
      have nin : ns[i] ∉ ns.take i := fun z => c (List.any_eq_true.mpr ⟨ns[i], (ih2 _).mpr z, by
        show (ns[i] == ns.getD i 0) = true
        rw [e]; exact beq_self_eq_true _⟩)
      refine ⟨?_, fun x => ?_⟩
      · rw [tk, List.nodup_append]
        exact ⟨ih1, by simp, fun a ha b hb => by
          rw [List.mem_singleton.mp hb]
          exact fun z => nin (z ▸ ha)⟩
      · rw [firstMet_succ, tk]
        unfold PyProof.Rows.step_dedup
        rw [if_neg c, List.mem_append, List.mem_append, ih2, e]
theorem set_less (ns : List Int) (h : ¬ ns.Nodup) : setN ns < ns.length := by
  have le : setN ns ≤ ns.length := firstMet_length_le _ _
  rcases Nat.lt_or_eq_of_le le with c | c
  · exact c
  · have q := (set_full ns ns.length (Nat.le_refl _) c).1
    rw [List.take_length] at q
    exact absurd q h
theorem unlike_nodup : ∀ ks : List Nat, Sw71.unlike ks = true ↔ (nI ks).Nodup
  | [] => ⟨fun _ => by simp [nI], fun _ => rfl⟩
  | k :: ks => by
    have ih := unlike_nodup ks
    show (!ks.contains k && Sw71.unlike ks) = true ↔ ((k : Int) :: nI ks).Nodup
    rw [Bool.and_eq_true, ih, List.nodup_cons]
    have e : (!ks.contains k) = true ↔ ¬ (k : Int) ∈ nI ks := by
      rw [Bool.not_eq_true', ← Bool.not_eq_true, List.contains_iff_mem]
      refine not_congr ⟨fun h => List.mem_map.mpr ⟨k, h, rfl⟩, fun h => ?_⟩
      obtain ⟨m, hm, e⟩ := List.mem_map.mp h
      rw [← Int.ofNat.inj e]; exact hm
    rw [e]
/-! ### answer_draw -/
def RDraw : Rel := fun l S l' S' out => ∃ (least : Nat) (ks : List Nat), l = (least : Int) :: rowI ks l' ∧ ks.length ≤ 60 ∧ S' = (Sw71.step S (.draw ks least)).1 ∧ out = Sw71Neutral.out (Sw71.step S (.draw ks least)).2
theorem step_draw (S : Sw71.Score) (ks : List Nat) (least : Nat) : Sw71.step S (.draw ks least) = if (ks.all fun k => decide (k < S.staves.length)) = false then (S, Sw71.ok (-2)) else if (ks.isEmpty || !Sw71.unlike ks) = true then (S, Sw71.ok (-1)) else (S, ⟨((S.draw ks least).length : Nat), (S.draw ks least).map Sw71.pieceOut⟩) := rfl
theorem out_row (i : Int) (rows : List (List Nat)) (r : List Nat) (h : r ∈ rows) : r.length ≤ (Sw71Neutral.out ⟨i, rows⟩).length := by
  obtain ⟨j, hj⟩ := List.getElem?_of_mem h
  have q := flat_take_le (fun w : List Nat => (w.length : Int) :: nI w) rows (j + 1)
  rw [flat_take hj, List.length_append, List.length_cons, nI_length] at q
  rw [out_eq, List.length_cons]
  omega
theorem out_num (i : Int) : ∀ rows : List (List Nat), rows.length ≤ (Sw71Neutral.out ⟨i, rows⟩).length := fun rows => by
  rw [out_eq, List.length_cons]
  have : ∀ rows : List (List Nat), rows.length ≤ (rows.flatMap fun w => (w.length : Int) :: nI w).length := fun rows => by
    induction rows with
    | nil => exact Nat.le_refl _
    | cons r rows ih =>
      rw [List.flatMap_cons, List.length_append, List.length_cons, List.length_cons]
      omega
  have := this rows
  omega
theorem ok_answer_draw {CR CS f : Addr} {fd : FuncData} (n_len : mg "len" = none) (n_set : mg "set" = none) (D : Dn K mg "answer_draw" s_answer_draw ["score", "reader"] f fd) (R : RdC P w K mg base CR) (Z : ScC P w K mg base CS)
    (C1 : Cal P w K mg base "drawn_out" 4 ["score", "part", "least"] (sp_drawn_out CS)) (C2 : Cal P w K mg base "with_lists" 1 ["number", "rows"] sp_with_lists) : Cal P w K mg base "answer_draw" 5 ["score", "reader"] (AnsSp K CR CS RDraw) := by
  obtain ⟨f_drawn_out, fd_drawn_out, G_drawn_out, m_drawn_out, k_drawn_out, b_drawn_out⟩ := C1.ex
  obtain ⟨f_with_lists, fd_with_lists, G_with_lists, m_with_lists, k_with_lists, b_with_lists⟩ := C2.ex
  obtain ⟨f_Reader_take, fd_Reader_take, G_Reader_take, h_Reader_take, b_Reader_take⟩ := R.take.ex
  obtain ⟨f_Reader_take_row, fd_Reader_take_row, G_Reader_take_row, h_Reader_take_row, b_Reader_take_row⟩ := R.row.ex
  obtain ⟨f_Score_has_staff, fd_Score_has_staff, G_Score_has_staff, h_Score_has_staff, b_Score_has_staff⟩ := Z.has.ex
  refine D.cal (D.fn.ok sc_answer_draw (fun vs H Q E h => ?_) (fun cdv A outer s H vs Q E hr h => ?_))
  · obtain ⟨e, sl, l, S, l', S', out, rfl, _⟩ := h
    rfl
  · obtain ⟨e, sl, l, S, l', S', out, rfl, W0, ⟨least, ks, rfl, hk60, eS, eO⟩, hbig, q⟩ := h
    refine ⟨_, (pss_cons (ps_set (i := 2) sc_answer_draw.nd rfl (Or.inl rfl) (pe_meth0 (pv 1) R.cl h_Reader_take G_Reader_take (hr.mono (by decide)) b_Reader_take .nil pass0))
      (pss_cons (ps_set (i := 3) sc_answer_draw.nd rfl (Or.inl rfl) (pe_meth0 (pv 1) R.cl h_Reader_take_row G_Reader_take_row (hr.mono (by decide)) b_Reader_take_row .nil pass0))
      (pss_cons (ps_for PassesOwn.never rfl (pi_list (pv 3)) (pg_name (i := 4) sc_answer_draw.nd rfl (Or.inl rfl))
        (pss_one (ps_if (pt_not (pt_val (pe_meth (pv 0) Z.cl h_Score_has_staff G_Score_has_staff (hr.mono (by decide)) b_Score_has_staff .nil pass0 (pa_cons (pv 4) pa_nil))))
          (pss_one (ps_ret (pe_lst (pa_cons (pe_un un_neg pe_int) pa_nil))))
          pss_nil)))
      (pss_cons (ps_if (PW.pt (pw_or (pt_not (pt_truth (pv 3) (by intro _; rfl))) (pw_or1 (pt_cmpR op_lt (pe_lenSetN rfl rfl n_len rfl n_set (pv 3)) (pe_callB call_len_seq (by rfl) n_len PySem.boot_len (pa_cons (pv 3) pa_nil)) (nomark _)))))
        (pss_one (ps_ret (pe_lst (pa_cons (pe_un un_neg pe_int) pa_nil))))
        pss_nil)
      (pss_cons (ps_set (i := 5) sc_answer_draw.nd rfl (Or.inl rfl) (pe_call G_drawn_out (hr.mono (by decide)) rfl m_drawn_out k_drawn_out b_drawn_out .nil pass0 (pa_cons (pv 0) (pa_cons (pv 3) (pa_cons (pv 2) pa_nil)))))
      (pss_one (ps_ret (pe_call G_with_lists (hr.mono (by decide)) rfl m_with_lists k_with_lists b_with_lists .nil pass0 (pa_cons (pe_callB call_len_seq (by rfl) n_len PySem.boot_len (pa_cons (pv 5) pa_nil)) (pa_cons (pv 5) pa_nil)))))))))), ?_⟩
    obtain ⟨dx0, p0, hr0, _⟩ := id W0.rd
    refine ⟨_, rfl, e.r, dx0, _, rfl, hr0, rdF_no _ _ (by decide +kernel) (by decide +kernel), e.r, _, _, _, _, rfl, W0.rdAt, fun H1 R1 f1 => ?_⟩
    have W1 := W0.reads R1 f1
    obtain ⟨dx1, p1, hr1, _⟩ := id R1
    refine ⟨_, rfl, e.r, dx1, _, rfl, hr1, rdF_no _ _ (by decide +kernel) (by decide +kernel), e.r, _, _, nI ks, _, rfl, W1.rdAt, fun H2 z2 R2 f2 nz2 hz2 => ?_⟩
    have W2 := W1.reads R2 f2
    have none2 : ∀ c, H2 c = none → H c = none := fun c z => by
      obtain ⟨dx2, fs2, hr2⟩ := R2.ins
      exact fr_none hr2 (f1.trans f2) c z
    have f02 : FrW e sl H H2 := frW_r (f1.trans f2)
    obtain ⟨G, hG⟩ := id W2.sc
    obtain ⟨dxs, la, ba, vsl, hs, hla, hba, hsl, hpr⟩ := id hG.ex
    have hz : H2 z2 = some (.lst (nV ks)) := by rw [hz2, nI_V]
    rw [step_draw] at eS eO
    refine ⟨_, rfl, z2, rfl, ⟨_, SqL.of hz⟩, for_list (K := K) (a := z2) (xs := nV ks) (fun j σ H' => ∃ (v : Option V), σ = [some (.ref e.s), some (.ref e.r), some (.int (least : Nat)), some (.ref z2), v, none] ∧ H' = H2 ∧ (ks.take j).all (fun k => decide (k < S.staves.length)) = true)
      ⟨none, rfl, rfl, rfl⟩ (fun j σ H' _ ⟨_, _, e, _⟩ => e ▸ SqL.of hz) ?_ ?_⟩
    · rintro j y σ H' hj ⟨v, rfl, rfl, hall⟩
      obtain ⟨k, hk, rfl⟩ := nV_at hj
      have step := all_snoc (p := fun k => decide (k < S.staves.length)) hk
      rw [hall, Bool.true_and] at step
      refine ⟨_, rfl, e.s, dxs, _, rfl, hs, scF_no _ _ _ (by decide +kernel) (by decide +kernel) (by decide +kernel), _, rfl, e.s, sl, e.t, k, G, S, rfl, hG, _, rfl, ?_⟩
      by_cases c : k < S.staves.length
      · refine iteF_of (by rw [decide_eq_true c]; rfl) ?_
        exact ⟨_, rfl, rfl, by rw [step, decide_eq_true c]⟩
      · refine iteT_of (by rw [decide_eq_false c]; rfl) ?_
        have e1 : (ks.all fun k => decide (k < S.staves.length)) = false := all_no hk (decide_eq_false c)
        rw [if_pos e1] at eS eO
        subst eS eO
        refine ⟨_, rfl, by show 1 ≤ sizeLine; decide, fun p np => ?_⟩
        have sp := same_upd (o := .lst [V.int (-2)]) np
        exact q _ p sl (W2.same sp) (f02.trans (frW_same sp)) ⟨_, sp _ _ hsl⟩ (.inl rfl) (none2 p np) upd_same
    · rintro σ H' ⟨v, rfl, rfl, hall⟩
      rw [nV_length, List.take_length] at hall
      rw [if_neg (by rw [hall]; intro z; cases z)] at eS eO
      have bad : (ks.isEmpty || !Sw71.unlike ks) = true → ∀ p, H' p = none → Q (.ref p) (upd H' p (.lst [V.int (-1)])) := fun b p np => by
        rw [if_pos b] at eS eO
        subst eS eO
        have sp := same_upd (o := .lst [V.int (-1)]) np
        exact q _ p sl (W2.same sp) (f02.trans (frW_same sp)) ⟨_, sp _ _ hsl⟩ (.inl rfl) (none2 p np) upd_same
      refine ⟨_, rfl, _, .inl ⟨_, SqL.of hz, rfl⟩, ?_⟩
      cases hks : ks with
      | nil =>
        refine iteT_of rfl ?_
        refine iteT_of rfl ?_
        exact ⟨_, rfl, by show 1 ≤ sizeLine; decide, fun p np => bad (by rw [hks]; rfl) p np⟩
      | cons k0 kr =>
        refine iteF_of rfl ?_
        refine ⟨_, rfl, z2, nI ks, rfl, by rw [nI_V]; exact SqL.of hz, by rw [nI_length]; omega, _, rfl, z2, _, rfl, .inl (SqL.of hz), _, _, rfl, rfl, _, rfl, ?_⟩
        rw [nV_length]
        by_cases u : Sw71.unlike ks = true
        · have nd := (unlike_nodup ks).mp u
          refine iteF_of (by rw [set_nodup _ nd, nI_length]; exact decide_eq_false (by omega)) ?_
          rw [if_neg (by rw [u, hks]; intro z; cases z)] at eS eO
          have eS3 : S = S' := eS.symm
          subst eS3
          subst eO
          have big : ∀ x ∈ S.draw ks least, (Sw71.pieceOut x).length ≤ 1000000 := fun x hx => Nat.le_trans (out_row _ _ _ (List.mem_map.mpr ⟨x, hx, rfl⟩)) hbig
          have num : (S.draw ks least).length ≤ 1000000 := by
            have := out_num ((S.draw ks least).length : Nat) ((S.draw ks least).map Sw71.pieceOut)
            rw [List.length_map] at this
            exact Nat.le_trans this hbig
          refine ⟨_, rfl, _, rfl, _, rfl, G, e.s, sl, e.t, z2, S, ks, least, rfl, ⟨hG, W2.good, hz, fun k hk => of_decide_eq_true (List.all_eq_true.mp hall k hk)⟩, by omega, num, big, fun H3 u3 s3 hu => ?_⟩
          obtain ⟨a3, xs3, rfl, ha3, hp3⟩ := id hu
          have ha3' := grow_in (same0 H3) _ _ ha3
          refine ⟨_, rfl, a3, _, rfl, .inl (SqL.of ha3'), _, rfl, _, _, (S.draw ks least).map Sw71.pieceOut, rfl, rowsAt_mono _ _ _ _ (grow_in (same0 H3)) hu, ?_, fun H4 p s4 np hp => ?_⟩
          · rw [hp3.length, List.length_map]
            exact Nat.le_trans hbig (by decide)
          · rw [hp3.length, List.length_map] at hp
            exact q _ p sl ((W2.same s3).same s4) (f02.trans (frW_same (s3.trans s4))) ⟨_, s4 _ _ (s3 _ _ hsl)⟩ (.inl rfl) (none2 p (s3.free np)) hp
        · have nd : ¬ (nI ks).Nodup := fun z => u ((unlike_nodup ks).mpr z)
          have := set_less _ nd
          rw [nI_length] at this
          refine iteT_of (decide_eq_true (by omega)) ?_
          exact ⟨_, rfl, by show 1 ≤ sizeLine; decide, fun p np => bad (by
            cases c : Sw71.unlike ks with
            | true => exact absurd c u
            | false => rw [Bool.not_false, Bool.or_true]) p np⟩
end
end Ps

namespace Ps
open PySem PySem.Spec PyProof.Rows L2
section
variable {P : Program} {w : World} {K : PySem.W.Frag} {mg : Str → Option Value} {base : Heap}
/-! ### a call's numbers, as the program has them and as the specification has them -/
open Sw71Neutral in
theorem all_some {A : Type} {x : Option (A × List Int)} {a : A} (h : all_ x = some a) : x = some (a, []) := by
  cases x with
  | none => cases h
  | some y =>
    obtain ⟨b, l⟩ := y
    have h : (if l.isEmpty = true then some b else none) = some a := h
    cases l with
    | nil => cases h; rfl
    | cons z l => cases h
theorem row_eq {x l2 rest : List Int} {xs : List Nat} (h : (x.length : Int) :: (x ++ rest) = ((nI xs).length : Int) :: (nI xs ++ l2)) : x = nI xs ∧ rest = l2 := by
  injection h with h1 h2
  exact List.append_inj h2 (by omega)
open Sw71Neutral in
theorem begins_of {x y : List Int} {c : Sw71.Call} (h : callOf (0 :: (x.length : Int) :: (x ++ (y.length : Int) :: y)) = some c) : ∃ xs ys, x = nI xs ∧ y = nI ys ∧ c = .begins xs ys := by
  have h : all_ ((rowIn ((x.length : Int) :: (x ++ (y.length : Int) :: y))).bind fun a => (rowIn a.2).map fun b => (Sw71.Call.begins a.1 b.1, b.2)) = some c := h
  have h := all_some h
  cases e : rowIn ((x.length : Int) :: (x ++ (y.length : Int) :: y)) with
  | none => rw [e] at h; cases h
  | some a =>
    obtain ⟨xs, l1⟩ := a
    rw [e] at h
    have h : ((rowIn l1).map fun b => (Sw71.Call.begins xs b.1, b.2)) = some (c, []) := h
    obtain ⟨e1, e2⟩ := row_eq (rowIn_some e).1
    cases e3 : rowIn l1 with
    | none => rw [e3] at h; cases h
    | some b =>
      obtain ⟨ys, l2⟩ := b
      rw [e3] at h
      have h : some (Sw71.Call.begins xs ys, l2) = some (c, []) := h
      cases h
      rw [← e2] at e3
      have e4 := (rowIn_some e3).1
      have e5 : (y.length : Int) :: (y ++ []) = ((nI ys).length : Int) :: (nI ys ++ []) := by rw [List.append_nil]; exact e4
      exact ⟨xs, ys, e1, (row_eq e5).1, rfl⟩
open Sw71Neutral in
theorem draw_of {x : List Int} {n : Int} {c : Sw71.Call} (h : callOf (3 :: (x.length : Int) :: (x ++ [n])) = some c) : ∃ xs k, x = nI xs ∧ n = (k : Nat) ∧ xs.length ≤ 60 ∧ c = .draw xs k := by
  have h : all_ ((rowIn ((x.length : Int) :: (x ++ [n]))).bind fun a => (natIn a.2).map fun b => (Sw71.Call.draw a.1 b.1, b.2)) = some c := h
  have h := all_some h
  cases e : rowIn ((x.length : Int) :: (x ++ [n])) with
  | none => rw [e] at h; cases h
  | some a =>
    obtain ⟨xs, l1⟩ := a
    rw [e] at h
    have h : ((natIn l1).map fun b => (Sw71.Call.draw xs b.1, b.2)) = some (c, []) := h
    obtain ⟨e1, e2⟩ := row_eq (rowIn_some e).1
    cases e3 : natIn l1 with
    | none => rw [e3] at h; cases h
    | some b =>
      obtain ⟨k, l2⟩ := b
      rw [e3] at h
      have h : some (Sw71.Call.draw xs k, l2) = some (c, []) := h
      cases h
      have e4 := (natIn_some e3).1
      rw [← e2] at e4
      injection e4 with e4 _
      exact ⟨xs, k, e1, e4, (rowIn_some e).2, rfl⟩
open Sw71Neutral in
theorem back_of {n : Int} {row : List Int} {c : Sw71.Call} (h : callOf (4 :: n :: row) = some c) : ∃ (m : Nat) (ps : List Sw71.Piece), n = (m : Int) ∧ listIn pieceIn row = some (ps, []) ∧ c = .back m ps := by
  have h : all_ ((natIn (n :: row)).bind fun m => (listIn pieceIn m.2).map fun p => (Sw71.Call.back m.1 p.1, p.2)) = some c := h
  have h := all_some h
  cases e : natIn (n :: row) with
  | none => rw [e] at h; cases h
  | some a =>
    obtain ⟨m, l1⟩ := a
    rw [e] at h
    have h : ((listIn pieceIn l1).map fun p => (Sw71.Call.back m p.1, p.2)) = some (c, []) := h
    have e1 := (natIn_some e).1
    injection e1 with e1 e2
    subst e2
    cases e3 : listIn pieceIn row with
    | none => rw [e3] at h; cases h
    | some b =>
      obtain ⟨ps, l2⟩ := b
      rw [e3] at h
      have h : some (Sw71.Call.back m ps, l2) = some (c, []) := h
      cases h
      exact ⟨m, ps, e1, rfl, rfl⟩
open Sw71Neutral in
theorem two_of {a b : Int} {c : Sw71.Call} (h : callOf [5, a, b] = some c) : ∃ (x y : Nat), a = (x : Int) ∧ b = (y : Int) ∧ c = .two x y := by
  have h : all_ ((natIn [a, b]).bind fun a => (natIn a.2).map fun b => (Sw71.Call.two a.1 b.1, b.2)) = some c := h
  have h := all_some h
  cases e : natIn [a, b] with
  | none => rw [e] at h; cases h
  | some x =>
    obtain ⟨x, l1⟩ := x
    rw [e] at h
    have h : ((natIn l1).map fun b => (Sw71.Call.two x b.1, b.2)) = some (c, []) := h
    have e1 := (natIn_some e).1
    injection e1 with e1 e2
    subst e2
    cases e3 : natIn [b] with
    | none => rw [e3] at h; cases h
    | some y =>
      obtain ⟨y, l2⟩ := y
      rw [e3] at h
      have h : some (Sw71.Call.two x y, l2) = some (c, []) := h
      cases h
      have e4 := (natIn_some e3).1
      injection e4 with e4 _
      exact ⟨x, y, e1, e4, rfl⟩
open Sw71Neutral in
theorem staff_of {row : List Int} {c : Sw71.Call} (h : callOf (1 :: row) = some c) : ∃ bars, listIn barIn row = some (bars, []) ∧ c = .staff bars := by
  have h : (all_ (listIn barIn row)).map Sw71.Call.staff = some c := h
  cases e : all_ (listIn barIn row) with
  | none => rw [e] at h; cases h
  | some b => rw [e] at h; cases h; exact ⟨b, all_some e, rfl⟩
open Sw71Neutral in
theorem parted_of {row : List Int} {c : Sw71.Call} (h : callOf (6 :: row) = some c) : ∃ bs, listIn bothIn row = some (bs, []) ∧ c = .parted bs := by
  have h : (all_ (listIn bothIn row)).map Sw71.Call.parted = some c := h
  cases e : all_ (listIn bothIn row) with
  | none => rw [e] at h; cases h
  | some b => rw [e] at h; cases h; exact ⟨b, all_some e, rfl⟩
open Sw71Neutral in
theorem staves_of {k : Int} {c : Sw71.Call} (h : callOf [2, k] = some c) : ∃ n : Nat, k = (n : Int) ∧ c = .staves n := by
  have h : (if 0 ≤ k ∧ k < 2 ^ 32 then some (Sw71.Call.staves k.toNat) else none) = some c := h
  by_cases z : 0 ≤ k ∧ k < 2 ^ 32
  · rw [if_pos z] at h; cases h; exact ⟨k.toNat, by omega, rfl⟩
  · rw [if_neg z] at h; cases h
theorem call_cases {l l' : List Int} {c : List (List Int)} {x : Sw71.Call} (h : PyFlat.call PySw71.shape l = some (c, l')) (hx : Sw71Neutral.callOf ((PySw71.whole c).headD []) = some x) :
    (∃ xs ys, l = 0 :: rowI xs (rowI ys l') ∧ x = .begins xs ys) ∨ (∃ (row : List Int) (bars : _), l = 1 :: (row.length : Int) :: (row ++ l') ∧ Sw71Neutral.listIn Sw71Neutral.barIn row = some (bars, []) ∧ x = .staff bars) ∨
    (∃ k : Nat, l = 2 :: (k : Int) :: l' ∧ x = .staves k) ∨ (∃ (least : Nat) (ks : List Nat), l = 3 :: (least : Int) :: rowI ks l' ∧ ks.length ≤ 60 ∧ x = .draw ks least) ∨
    (∃ (m : Nat) (row : List Int) (ps : _), l = 4 :: (m : Int) :: (row.length : Int) :: (row ++ l') ∧ Sw71Neutral.listIn Sw71Neutral.pieceIn row = some (ps, []) ∧ x = .back m ps) ∨
    (∃ a b : Nat, l = 5 :: (a : Int) :: (b : Int) :: l' ∧ x = .two a b) ∨
    (∃ (row : List Int) (bs : _), l = 6 :: (row.length : Int) :: (row ++ l') ∧ Sw71Neutral.listIn Sw71Neutral.bothIn row = some (bs, []) ∧ x = .parted bs) := by
  obtain ⟨el, p, a, rows, rfl, hs⟩ := PyFlat.call_inv h
  subst el
  unfold PySw71.shape at hs
  by_cases c0 : p = 0
  · subst c0
    rw [if_pos rfl] at hs
    have hs := Option.some.inj hs
    obtain ⟨h1, h2⟩ := Prod.mk.inj hs
    match a, rows, h1, h2 with
    | [], [r0, r1], _, _ =>
      have hx : Sw71Neutral.callOf (0 :: (([(r0.length : Int)] ++ r0) ++ [(r1.length : Int)] ++ r1)) = some x := hx
      obtain ⟨xs, ys, e1, e2, e3⟩ := begins_of (x := r0) (y := r1) (c := x) (by rw [← hx]; simp)
      refine .inl ⟨xs, ys, ?_, e3⟩
      rw [e1, e2]
      simp [PyFlat.put1, PyFlat.putRows, PyFlat.putRow, rowI]
  rw [if_neg c0] at hs
  by_cases c1 : p = 1
  · subst c1
    rw [if_pos rfl] at hs
    obtain ⟨h1, h2⟩ := Prod.mk.inj (Option.some.inj hs)
    match a, rows, h1, h2 with
    | [], [r0], _, _ =>
      obtain ⟨bars, e1, e2⟩ := staff_of (row := r0) (c := x) hx
      exact .inr (.inl ⟨r0, bars, by simp [PyFlat.put1, PyFlat.putRows, PyFlat.putRow], e1, e2⟩)
  rw [if_neg c1] at hs
  by_cases c2 : p = 2
  · subst c2
    rw [if_pos rfl] at hs
    obtain ⟨h1, h2⟩ := Prod.mk.inj (Option.some.inj hs)
    match a, rows, h1, h2 with
    | [k], [], _, _ =>
      obtain ⟨n, e1, e2⟩ := staves_of (k := k) (c := x) hx
      exact .inr (.inr (.inl ⟨n, by rw [e1]; simp [PyFlat.put1, PyFlat.putRows], e2⟩))
  rw [if_neg c2] at hs
  by_cases c3 : p = 3
  · subst c3
    rw [if_pos rfl] at hs
    obtain ⟨h1, h2⟩ := Prod.mk.inj (Option.some.inj hs)
    match a, rows, h1, h2 with
    | [k], [r0], _, _ =>
      have hx : Sw71Neutral.callOf (3 :: (([(r0.length : Int)] ++ r0) ++ [k])) = some x := hx
      obtain ⟨xs, n, e1, e2, e3, e4⟩ := draw_of (x := r0) (n := k) (c := x) (by rw [← hx]; simp)
      refine .inr (.inr (.inr (.inl ⟨n, xs, ?_, e3, e4⟩)))
      rw [e1, e2]
      simp [PyFlat.put1, PyFlat.putRows, PyFlat.putRow, rowI]
  rw [if_neg c3] at hs
  by_cases c4 : p = 4
  · subst c4
    rw [if_pos rfl] at hs
    obtain ⟨h1, h2⟩ := Prod.mk.inj (Option.some.inj hs)
    match a, rows, h1, h2 with
    | [k], [r0], _, _ =>
      obtain ⟨m, ps, e1, e2, e3⟩ := back_of (n := k) (row := r0) (c := x) hx
      exact .inr (.inr (.inr (.inr (.inl ⟨m, r0, ps, by rw [e1]; simp [PyFlat.put1, PyFlat.putRows, PyFlat.putRow], e2, e3⟩))))
  rw [if_neg c4] at hs
  by_cases c5 : p = 5
  · subst c5
    rw [if_pos rfl] at hs
    obtain ⟨h1, h2⟩ := Prod.mk.inj (Option.some.inj hs)
    match a, rows, h1, h2 with
    | [u, v], [], _, _ =>
      obtain ⟨m, n, e1, e2, e3⟩ := two_of (a := u) (b := v) (c := x) hx
      exact .inr (.inr (.inr (.inr (.inr (.inl ⟨m, n, by rw [e1, e2]; simp [PyFlat.put1, PyFlat.putRows], e3⟩)))))
  rw [if_neg c5] at hs
  by_cases c6 : p = 6
  · subst c6
    rw [if_pos rfl] at hs
    obtain ⟨h1, h2⟩ := Prod.mk.inj (Option.some.inj hs)
    match a, rows, h1, h2 with
    | [], [r0], _, _ =>
      obtain ⟨bs, e1, e2⟩ := parted_of (row := r0) (c := x) hx
      exact .inr (.inr (.inr (.inr (.inr (.inr ⟨r0, bs, by simp [PyFlat.put1, PyFlat.putRows, PyFlat.putRow], e1, e2⟩)))))
  rw [if_neg c6] at hs
  cases hs
/-! ### a call of what an expression hands over -/
def tCallX (Hd : Addr → Sp → Prop) (tg : TE) (t : TA) : TE := fun σ H Q => tg σ H fun v H0 => ∃ f sp, v = V.ref f ∧ Hd f sp ∧ t σ H0 fun vs H1 => sp vs H1 Q E0
structure Hel (P : Program) (w : World) (K : PySem.W.Frag) (mg : Str → Option Value) (base : Heap) (k : Nat) (f : Addr) (sp : Sp) : Prop where
  ex : ∃ (fd : FuncData) (ps : List Str), FnOk P w K mg base CX0 k f fd ps sp ∧ PySem.W.keepIn K (.ref f) = true ∧ Binds K fd ps []
theorem pe_callX {X : Cx} {Hd : Addr → Sp → Prop} {g x : Expr} {xs : List Expr} {tg : TE} {t : TA} {pos : Pos} (A : ∀ f sp, Hd f sp → ∃ k, Hel X.prog X.w X.K X.mg X.base k f sp ∧ Room k X.A) (hg : PE X g tg) (ha : PA X (x :: xs) t)
    (one : starEach (x :: xs) X.env = (false, eval x X.env) :: starEach xs X.env := by rfl) (plain : (backTo pos (starEach xs X.env)).any (·.1) = false := by rfl)
    (what : eval (.Call g (x :: xs) [] pos) X.env = (do callWith pos (← eval g X.env) [] (backTo pos (starEach (x :: xs) X.env)) (backToKw pos (keywordEach [] X.env))) := by rfl) : PE X (.Call g (x :: xs) [] pos) (tCallX Hd tg t) := by
  refine ⟨fun pins s0 σ H Q I0 hyp => ?_⟩
  refine Call_ (thn (hg.run pins s0 σ H _ I0 hyp) fun u s1 ⟨v, H1, I1, rv, f, sp, ev, hd, want⟩ => ?_) what
  subst ev
  cases rv
  obtain ⟨k, he, hr⟩ := A f sp hd
  obtain ⟨fd, ps, F, kp, bd⟩ := he.ex
  refine PySem.W.callWith_K (h₀ := X.base) I1.ok.mod.kin kp (thn (ha.run pos pins s1 σ H1 _ I1 want) fun us s2 ⟨vs, H2, I2, rs, want2⟩ => ⟨I2.kIn, ?_⟩) one plain
  exact run_fn (dvs := []) F hr bd .nil pass0 I2 rs (by rw [List.append_nil]; exact want2)
end
end Ps

namespace Ps
open PySem PySem.Spec PyProof.Rows L2
section
variable {P : Program} {w : World} {K : PySem.W.Frag} {mg : Str → Option Value} {base : Heap}
/-! ### what is new -/
def NewIn (H H' : Hp) : Hp := fun a => match H a with
  | some _ => none
  | none => H' a
theorem new_at {H H' : Hp} {a : Addr} {o : HO} (h : H a = none) (h' : H' a = some o) : NewIn H H' a = some o := by
  unfold NewIn; rw [h]; exact h'
theorem new_inv {H H' : Hp} {a : Addr} {o : HO} (h : NewIn H H' a = some o) : H a = none ∧ H' a = some o := by
  unfold NewIn at h
  cases e : H a with
  | some x => rw [e] at h; cases h
  | none => rw [e] at h; exact ⟨rfl, h⟩
theorem new_in (H H' : Hp) : Same (NewIn H H') H' := fun _ _ h => (new_inv h).2
theorem new_grow (H H' : Hp) : Same (Grow Hp0 H H') (NewIn H H') := fun a o h => by
  rcases grow_inv h with h | ⟨_, h1, h2, _⟩
  · cases h
  · exact new_at h1 h2
theorem new_mono {H H' H'' : Hp} (s : ∀ b o, H b = none → H' b = some o → H'' b = some o) : Same (NewIn H H') (NewIn H H'') := fun a o h =>
  new_at (new_inv h).1 (s a o (new_inv h).1 (new_inv h).2)
theorem new_later {H H1 H' : Hp} (s : ∀ b, H1 b = none → H b = none) : Same (NewIn H1 H') (NewIn H H') := fun a o h =>
  new_at (s a (new_inv h).1) (new_inv h).2
/-- an instance has been made, and its fields put in -/
theorem made {C p dx : Addr} {H H' : Hp} (np : H p = none) (nd : H dx = none) (ne : ¬ dx = p) (f : Fr p (upd (upd H dx (.own p)) p (.ins C dx [])) H') : Same H H' := fun b o e => by
  refine f _ _ ?_ (ne_of_none e np)
  refine same_upd ?_ _ _ (same_upd nd _ _ e)
  rw [upd_ne (fun e => ne e.symm)]; exact np
/-! ### what a Piece has -/
def pcF (k c b : V) : List (Str × V) := [("kind", k), ("bar_count", c), ("bars", b)]
theorem pcF_k (k c b : V) : (pcF k c b).lookup ("kind" : Str) = some k := lk_here
theorem pcF_c (k c b : V) : (pcF k c b).lookup ("bar_count" : Str) = some c := (lk_past (by decide +kernel)).trans lk_here
theorem pcF_b (k c b : V) : (pcF k c b).lookup ("bars" : Str) = some b := (lk_past (by decide +kernel)).trans ((lk_past (by decide +kernel)).trans lk_here)
theorem pcF_new (k c b : V) : putF "bars" b (putF "bar_count" c (putF "kind" k [])) = pcF k c b := by
  rw [show putF "kind" k [] = [(("kind" : Str), k)] from rfl]
  rw [show putF "bar_count" c [(("kind" : Str), k)] = [(("kind" : Str), k), (("bar_count" : Str), c)] from (put_past (by decide +kernel)).trans rfl]
  exact (put_past (by decide +kernel)).trans (congrArg _ ((put_past (by decide +kernel)).trans rfl))
structure TxtPc (K : PySem.W.Frag) (mg : Str → Option Value) (C : Addr) : Prop where
  cl : Cls K C
  nK : NoAttr K C "kind"
  nC : NoAttr K C "bar_count"
  nB : NoAttr K C "bars"
  g_REST : ∃ t, mg "REST" = some (.int 0 t)
  g_BAR : ∃ t, mg "BAR" = some (.int 1 t)
def kindOf : Sw71.Piece → Nat
  | .rest _ => 0
  | .bar _ => 1
  | .cue _ _ => 2
def barsOf : Sw71.Piece → List Sw71.Bar
  | .rest _ => []
  | .bar l => l
  | .cue _ b => [b]
def PieceAt (C : Addr) (G : Hp) (v : V) (x : Sw71.Piece) : Prop := ∃ a dx bv, v = .ref a ∧ G a = some (.ins C dx (pcF (.int (kindOf x : Nat)) (.int (x.bars : Nat)) bv)) ∧ BarsAt G bv (barsOf x)
theorem pieceAt_mono {C : Addr} : Mono (PieceAt C) := fun _ _ _ _ s h => by
  obtain ⟨a, dx, bv, e, h1, h2⟩ := h
  exact ⟨a, dx, bv, e, s _ _ h1, barsAt_mono _ _ _ _ s h2⟩
def sp_pc_init (C : Addr) : Sp := fun vs H Q _ => ∃ (s dx : Addr) (k c b : V), vs = [.ref s, k, c, b] ∧ H s = some (.ins C dx []) ∧
  ∀ H', H' s = some (.ins C dx (pcF k c b)) → Fr s H H' → Q .non H'
theorem ok_pc_init {C f : Addr} {fd : FuncData} (F : Fun K "__init__" "Piece.__init__" s_Piece_init f fd) (T : TxtPc K mg C) : FnOk P w K mg base CX0 1 f fd ["self", "kind", "bar_count", "bars"] (sp_pc_init C) := by
  refine F.ok sc_Piece_init (fun vs H Q E h => ?_) (fun cdv A outer s H vs Q E hr h => ?_)
  · obtain ⟨s0, dx, k, c, b, rfl, _⟩ := h
    rfl
  · obtain ⟨s0, dx, k, c, b, rfl, h1, q⟩ := h
    refine ⟨_, (pss_cons (ps_fld (pv 0) (pv 1) rfl)
      (pss_cons (ps_fld (pv 0) (pv 2) rfl)
      (pss_one (ps_fld (pv 0) (pv 3) rfl)))), ?_⟩
    refine ⟨_, rfl, _, rfl, s0, C, dx, [], rfl, h1, T.cl, T.nK, (by show 0 < 1000; decide), ?_⟩
    refine ⟨_, rfl, _, rfl, s0, C, dx, _, rfl, upd_same, T.cl, T.nC, (by show 1 < 1000; decide), ?_⟩
    refine ⟨_, rfl, _, rfl, s0, C, dx, _, rfl, upd_same, T.cl, T.nB, (by show 2 < 1000; decide), ?_⟩
    refine q _ ?_ ((fr_upd.trans fr_upd).trans fr_upd)
    rw [upd_same, pcF_new]
/-- the class Piece as callers have it -/
structure PcC (P : Program) (w : World) (K : PySem.W.Frag) (mg : Str → Option Value) (base : Heap) (C : Addr) : Prop where
  txt : TxtPc K mg C
  init : ∃ fI fd, Mk K C fI ∧ FnOk P w K mg base CX0 1 fI fd ["self", "kind", "bar_count", "bars"] (sp_pc_init C) ∧ Binds K fd ["self", "kind", "bar_count", "bars"] []
  gC : mg "Piece" = some (.ref C)
/-! ### read_piece -/
open Sw71Neutral in
theorem pieceIn_some {l l' : List Int} {x : Sw71.Piece} (h : pieceIn l = some (x, l')) : (∃ n : Nat, l = 0 :: (n : Int) :: l' ∧ x = .rest n) ∨ (∃ (l1 : List Int) (b : List Sw71.Bar), l = 1 :: l1 ∧ listIn barIn l1 = some (b, l') ∧ x = .bar b) ∨
    (∃ (k : Nat) (l1 : List Int) (b : Sw71.Bar), l = 2 :: (k : Int) :: l1 ∧ barIn l1 = some (b, l') ∧ x = .cue k b) := by
  unfold pieceIn at h
  split at h
  · rename_i l1
    cases e : natIn l1 with
    | none => rw [e] at h; cases h
    | some n =>
      rw [e] at h
      cases h
      exact .inl ⟨n.1, by rw [(natIn_some (n := n.1) (l' := n.2) e).1], rfl⟩
  · rename_i l1
    cases e : listIn barIn l1 with
    | none => rw [e] at h; cases h
    | some n =>
      rw [e] at h
      cases h
      exact .inr (.inl ⟨l1, n.1, rfl, e, rfl⟩)
  · rename_i l1
    cases e : natIn l1 with
    | none => rw [e] at h; cases h
    | some n =>
      rw [e] at h
      have h : ((barIn n.2).map fun b => (Sw71.Piece.cue n.1 b.1, b.2)) = some (x, l') := h
      cases e2 : barIn n.2 with
      | none => rw [e2] at h; cases h
      | some b =>
        rw [e2] at h
        cases h
        exact .inr (.inr ⟨n.1, n.2, b.1, by rw [(natIn_some (n := n.1) (l' := n.2) e).1], e2, rfl⟩)
  · cases h
def sp_read_piece (K : PySem.W.Frag) (C CP : Addr) : Sp := fun vs H Q _ => ∃ r a ns l x l', vs = [.ref r] ∧ RdAt K C H r a ns l ∧ Sw71Neutral.pieceIn l = some (x, l') ∧
  ∀ H' u, RdP C H' r a ns l' → Fr r H H' → PieceAt CP (NewIn H H') u x → Q u H'
theorem ok_read_piece {C CP f : Addr} {fd : FuncData} (D : Dn K mg "read_piece" s_read_piece ["reader"] f fd) (R : RdC P w K mg base C) (T : PcC P w K mg base CP)
    (C1 : Cal P w K mg base "read_bar" 3 ["reader"] (sp_read_bar K C)) (C2 : Cal P w K mg base "read_bars" 4 ["reader"] (sp_read_bars K C)) : Cal P w K mg base "read_piece" 5 ["reader"] (sp_read_piece K C CP) := by
  obtain ⟨f_Reader_take, fd_Reader_take, G_Reader_take, h_Reader_take, b_Reader_take⟩ := R.take.ex
  obtain ⟨f_Piece_init, fd_Piece_init, M_Piece, G_Piece_init, b_Piece_init⟩ := T.init
  obtain ⟨f_read_bar, fd_read_bar, G_read_bar, m_read_bar, k_read_bar, b_read_bar⟩ := C1.ex
  obtain ⟨f_read_bars, fd_read_bars, G_read_bars, m_read_bars, k_read_bars, b_read_bars⟩ := C2.ex
  refine D.cal (D.fn.ok sc_read_piece (fun vs H Q E h => ?_) (fun cdv A outer s H vs Q E hr h => ?_))
  · obtain ⟨r, a, ns, l, bars, l', rfl, _⟩ := h
    rfl
  · obtain ⟨r, a, ns, l, x, l', rfl, hR, hin, q⟩ := h
    refine ⟨_, (pss_cons (ps_set (i := 1) sc_read_piece.nd rfl (Or.inl rfl) (pe_meth0 (pv 0) R.cl h_Reader_take G_Reader_take (hr.mono (by decide)) b_Reader_take .nil pass0))
      (pss_cons (ps_if (pt_cmpR op_eq (pv 1) (pe_gi rfl T.txt.g_REST) (nomark _))
        (pss_one (ps_ret (pe_make M_Piece G_Piece_init (hr.mono (by decide)) rfl T.gC b_Piece_init .nil pass0 (pa_cons (pv 1) (pa_cons (pe_meth0 (pv 0) R.cl h_Reader_take G_Reader_take (hr.mono (by decide)) b_Reader_take .nil pass0) (pa_cons (pe_lst pa_nil) pa_nil))))))
        pss_nil)
      (pss_cons (ps_if (pt_cmpR op_eq (pv 1) (pe_gi rfl T.txt.g_BAR) (nomark _))
        (pss_one (ps_ret (pe_make M_Piece G_Piece_init (hr.mono (by decide)) rfl T.gC b_Piece_init .nil pass0 (pa_cons (pv 1) (pa_cons pe_int (pa_cons (pe_call G_read_bars (hr.mono (by decide)) rfl m_read_bars k_read_bars b_read_bars .nil pass0 (pa_cons (pv 0) pa_nil)) pa_nil))))))
        pss_nil)
      (pss_cons (ps_expr (pe_meth0 (pv 0) R.cl h_Reader_take G_Reader_take (hr.mono (by decide)) b_Reader_take .nil pass0))
      (pss_one (ps_ret (pe_make M_Piece G_Piece_init (hr.mono (by decide)) rfl T.gC b_Piece_init .nil pass0 (pa_cons (pv 1) (pa_cons pe_int (pa_cons (pe_lst (pa_cons (pe_call G_read_bar (hr.mono (by decide)) rfl m_read_bar k_read_bar b_read_bar .nil pass0 (pa_cons (pv 0) pa_nil)) pa_nil)) pa_nil)))))))))), ?_⟩
    obtain ⟨⟨dx0, p0, hr0, _⟩, hS⟩ := id hR
    have first : ∀ (k : Int) (t : List Int), l = k :: t → RdAt K C H r a ns (k :: t) := fun k t e => e ▸ hR
    -- the end of each way: an instance at p
    have fin : ∀ (H3 H5 : Hp) (p dxp : Addr) (bv : V), RdP C H3 r a ns l' → Fr r H H3 → H3 p = none → H3 dxp = none → ¬ dxp = p → BarsAt (NewIn H H3) bv (barsOf x) →
        H5 p = some (.ins CP dxp (pcF (.int (kindOf x : Nat)) (.int (x.bars : Nat)) bv)) → Fr p (upd (upd H3 dxp (.own p)) p (.ins CP dxp [])) H5 → Q (.ref p) H5 := fun H3 H5 p dxp bv R3 f3 np nd ne hb h5 f5 => by
      have s5 := made np nd ne f5
      obtain ⟨dx3, p3, hr3, _⟩ := id R3
      refine q _ _ (R3.at fun o e => s5 _ _ e) (f3.trans (same_fr s5 r)) ⟨p, dxp, bv, rfl, new_at (fr_none hr3 f3 p np) h5, ?_⟩
      exact barsAt_mono _ _ _ _ (new_mono fun b o _ e => s5 _ _ e) hb
    rcases pieceIn_some hin with ⟨n, el, ex⟩ | ⟨l1, b, el, hb, ex⟩ | ⟨k, l1, b, el, hb, ex⟩
    · subst ex
      have R0 := first _ _ el
      refine ⟨_, rfl, r, dx0, _, rfl, hr0, rdF_no _ _ (by decide +kernel) (by decide +kernel), r, a, _, _, _, rfl, R0, fun H1 R1 f1 => ?_⟩
      obtain ⟨dx1, p1, hr1, _⟩ := id R1
      refine ⟨_, rfl, rfl, _, rfl, iteT_of rfl ?_⟩
      refine ⟨_, rfl, _, rfl, r, dx1, _, rfl, hr1, rdF_no _ _ (by decide +kernel) (by decide +kernel), r, a, _, _, _, rfl, hR.on f1 R1, fun H2 R2 f2 => ?_⟩
      obtain ⟨dx2, p2, hr2, _⟩ := id R2
      refine ⟨Nat.zero_le _, fun z nz => ?_⟩
      have sz := same_upd (o := .lst []) nz
      refine fun p dxp np nd ne => ⟨p, dxp, _, _, _, rfl, upd_same, fun H5 h5 f5 => ⟨rfl, ?_⟩⟩
      exact fin _ _ p dxp (.ref z) (R2.at fun o e => sz _ _ e) ((f1.trans f2).trans (same_fr sz r)) np nd ne ⟨z, [], rfl, new_at (fr_none hr2 (f1.trans f2) z nz) upd_same, .nil⟩ h5 f5
    · subst ex
      have R0 := first _ _ el
      refine ⟨_, rfl, r, dx0, _, rfl, hr0, rdF_no _ _ (by decide +kernel) (by decide +kernel), r, a, _, _, _, rfl, R0, fun H1 R1 f1 => ?_⟩
      obtain ⟨dx1, p1, hr1, _⟩ := id R1
      refine ⟨_, rfl, rfl, _, rfl, iteF_of rfl ?_⟩
      refine ⟨_, rfl, rfl, _, rfl, iteT_of rfl ?_⟩
      refine ⟨_, rfl, _, rfl, r, a, ns, l1, b, l', rfl, hR.on f1 R1, hb, fun H2 u R2 f2 hu => ?_⟩
      refine fun p dxp np nd ne => ⟨p, dxp, _, _, _, rfl, upd_same, fun H5 h5 f5 => ⟨rfl, ?_⟩⟩
      exact fin _ _ p dxp u R2 (f1.trans f2) np nd ne (barsAt_mono _ _ _ _ ((new_grow _ _).trans (new_later fun c z => fr_none hr1 f1 c z)) hu) h5 f5
    · subst ex
      have R0 := first _ _ el
      refine ⟨_, rfl, r, dx0, _, rfl, hr0, rdF_no _ _ (by decide +kernel) (by decide +kernel), r, a, _, _, _, rfl, R0, fun H1 R1 f1 => ?_⟩
      obtain ⟨dx1, p1, hr1, _⟩ := id R1
      refine ⟨_, rfl, rfl, _, rfl, iteF_of rfl ?_⟩
      refine ⟨_, rfl, rfl, _, rfl, iteF_of rfl ?_⟩
      refine ⟨_, rfl, r, dx1, _, rfl, hr1, rdF_no _ _ (by decide +kernel) (by decide +kernel), r, a, _, _, _, rfl, hR.on f1 R1, fun H2 R2 f2 => ?_⟩
      obtain ⟨dx2, p2, hr2, _⟩ := id R2
      have f12 := f1.trans f2
      refine ⟨_, rfl, _, rfl, r, a, ns, l1, b, l', rfl, hR.on f12 R2, hb, fun H3 u R3 f3 hu => ?_⟩
      obtain ⟨dx3, p3, hr3, _⟩ := id R3
      refine ⟨by show 1 ≤ sizeLine; decide, fun z nz => ?_⟩
      have sz := same_upd (o := .lst [u]) nz
      refine fun p dxp np nd ne => ⟨p, dxp, _, _, _, rfl, upd_same, fun H5 h5 f5 => ⟨rfl, ?_⟩⟩
      refine fin _ _ p dxp (.ref z) (R3.at fun o e => sz _ _ e) ((f12.trans f3).trans (same_fr sz r)) np nd ne ⟨z, [u], rfl, new_at (fr_none hr3 (f12.trans f3) z nz) upd_same, .cons ?_ .nil⟩ h5 f5
      exact barAt_mono _ _ _ _ (((new_grow _ _).trans (new_later fun c z => fr_none hr2 f12 c z)).trans (new_mono fun b o _ e => sz _ _ e)) hu
/-! ### read_pieces -/
def sp_read_pieces (K : PySem.W.Frag) (C CP : Addr) : Sp := fun vs H Q _ => ∃ r a ns l bars l', vs = [.ref r] ∧ RdAt K C H r a ns l ∧ Sw71Neutral.listIn Sw71Neutral.pieceIn l = some (bars, l') ∧
  ∀ H' u, RdP C H' r a ns l' → Fr r H H' → ListAt (PieceAt CP) (NewIn H H') u bars → Q u H'
theorem ok_read_pieces {C CP f : Addr} {fd : FuncData} (n_range : mg "range" = none) (D : Dn K mg "read_pieces" s_read_pieces ["reader"] f fd) (R : RdC P w K mg base C)
    (C1 : Cal P w K mg base "read_piece" 5 ["reader"] (sp_read_piece K C CP)) : Cal P w K mg base "read_pieces" 6 ["reader"] (sp_read_pieces K C CP) := by
  obtain ⟨f_Reader_take, fd_Reader_take, G_Reader_take, h_Reader_take, b_Reader_take⟩ := R.take.ex
  obtain ⟨f_read_piece, fd_read_piece, G_read_piece, m_read_piece, k_read_piece, b_read_piece⟩ := C1.ex
  refine D.cal (D.fn.ok sc_read_pieces (fun vs H Q E h => ?_) (fun cdv A outer s H vs Q E hr h => ?_))
  · obtain ⟨r, a, ns, l, bars, l', rfl, _⟩ := h
    rfl
  · obtain ⟨r, a, ns, l, bars, l', rfl, hR, hin, q⟩ := h
    obtain ⟨n, l1, el, hn, hm⟩ := listIn_some hin
    subst el
    refine ⟨_, (pss_one (ps_ret (pe_lc (own := [("turn", 1)]) rfl sc_read_pieces.nd (pi_range1 (by rfl) n_range (pa_cons (pe_meth0 (pv 0) R.cl h_Reader_take G_Reader_take (hr.mono (by decide)) b_Reader_take .nil pass0) pa_nil)) (blkOk_by (own := [("turn", 1)]) (N := ["reader", "turn"]) (sc := defScope s_read_pieces) (by decide +kernel)) (fun _ _ _ _ _ => (pg_name (i := 1) sc_read_pieces.nd rfl (Or.inl rfl))) (fun _ _ _ _ _ => pts_nil) (fun _ _ _ _ _ => (pe_call G_read_piece (hr.mono (by decide)) rfl m_read_piece k_read_piece b_read_piece .nil pass0 (pa_cons (pv 0) pa_nil)))))), ?_⟩
    obtain ⟨⟨dx2, p2, hr2, _⟩, hS⟩ := id hR
    refine ⟨_, rfl, r, dx2, _, rfl, hr2, rdF_no _ _ (by decide +kernel) (by decide +kernel), r, a, _, _, _, rfl, hR, fun H3 R3 f3 => ?_⟩
    obtain ⟨dx3, p3, hr3, _⟩ := id R3
    have hS3 := (hR.on f3 R3).2
    refine ⟨n, rfl, by omega, by omega, fun L nL => lc_range (lo := 0) (n := (n : Int).toNat) (fun i H' => ∃ (vs : List V) (done rest : List Sw71.Piece) (li : List Int),
      Sw71Neutral.many_ Sw71Neutral.pieceIn (n - i) li = some (rest, l') ∧ bars = done ++ rest ∧ RdP C H' r a ns li ∧ H' L = some (.lst vs) ∧ Fr2 r L (upd H3 L (.lst [])) H' ∧ Paired (PieceAt CP (NewIn (upd H3 L (.lst [])) H')) vs done ∧ done.length = i)
      ⟨[], [], bars, l1, hm, rfl, R3.at (fun o e => same_upd nL _ _ e), upd_same, fun c o e _ _ => e, .nil, rfl⟩ ?_ ?_⟩
    · have nLr : r ≠ L := ne_of_none hr3 nL
      have pL : (upd H3 L (.lst [])) L = some (.lst []) := upd_same
      have hrL : (upd H3 L (.lst [])) r = some (.ins C dx3 (rdF (.ref a) p3)) := by rw [upd_ne nLr]; exact hr3
      have n34 : ∀ c o, H3 c = some o → c ≠ L → (upd H3 L (.lst [])) c = some o := fun c o e z => by rw [upd_ne z]; exact e
      generalize hH4 : upd H3 L (.lst []) = H4 at pL hrL n34 ⊢
      rintro i H' hi ⟨vs, done, rest, li, hm', eb, R', hp', fr, pr, eLen⟩
      have hi : i < n := by simpa using hi
      obtain ⟨k, hk⟩ : ∃ k, n - i = k + 1 := ⟨n - i - 1, by omega⟩
      rw [hk] at hm'
      obtain ⟨x, l2, rest', hx, hm2, er⟩ := many_step hm'
      obtain ⟨dxi, pi, hri, _⟩ := id R'
      have hS' : SqL K H' a (ns.map V.int) := sqL_fr2 hS3 hr3 nL fun c o e n1 n2 => fr _ _ (n34 _ _ e n2) n1 n2
      refine ⟨rfl, ?_⟩
      refine lc_yes ?_
      refine ⟨_, rfl, r, a, _, li, x, l2, rfl, ⟨R', hS'⟩, hx, fun HA u RA fA hu => ?_⟩
      obtain ⟨dxA, pA, hrA, _⟩ := id RA
      have hLA : HA L = some (.lst vs) := fA _ _ hp' nLr.symm
      refine ⟨vs, hLA, line_big (by rw [pr.length, eLen]; omega), vs ++ [u], done ++ [x], rest', l2, ?_, ?_, RA.at (fun o e => by rw [upd_ne nLr]; exact e), upd_same, fr2_frp (fr2_fr fr fA) fr_upd, ?_, ?_⟩
      · rw [show n - (i + 1) = k by omega]; exact hm2
      · rw [eb, er, List.append_assoc]; rfl
      · have nz : ∀ c, H' c = none → H4 c = none := fr2_none fr hri hp'
        have mono1 : Same (NewIn H4 H') (NewIn H4 (upd HA L (.lst (vs ++ [u])))) := new_mono fun c o e1 e2 => by
          have c1 : c ≠ r := fun z => by subst z; rw [hrL] at e1; cases e1
          have c2 : c ≠ L := fun z => by subst z; rw [pL] at e1; cases e1
          rw [upd_ne c2]
          exact fA _ _ e2 c1
        have mono2 : Same (NewIn H' HA) (NewIn H4 (upd HA L (.lst (vs ++ [u])))) := (new_mono fun c o e1 e2 => by
          have c2 : c ≠ L := fun z => by subst z; rw [hp'] at e1; cases e1
          rw [upd_ne c2]
          exact e2).trans (new_later nz)
        exact Paired.snoc (Paired.mono (fun _ _ h => pieceAt_mono _ _ _ _ mono1 h) pr) (pieceAt_mono _ _ _ _ mono2 hu)
      · rw [List.length_append, eLen]; rfl
    · rintro H' ⟨vs, done, rest, li, hm', eb, R', hp', fr, pr, eLen⟩
      rw [show n - (n : Int).toNat = 0 by simp] at hm'
      obtain ⟨e1, e2⟩ := many_zero hm'
      subst e1 e2
      rw [List.append_nil] at eb
      subst eb
      have nLH : H L = none := fr_none hr3 f3 L nL
      have fL : Fr r H H' := fun b o e c => fr _ _ (by rw [upd_ne (ne_of_none e nLH)]; exact f3 _ _ e c) c (ne_of_none e nLH)
      refine q _ _ R' fL ⟨L, vs, rfl, new_at nLH hp', ?_⟩
      refine Paired.mono (fun _ _ h => pieceAt_mono _ _ _ _ (new_later fun c e => ?_) h) pr
      by_cases c1 : c = L
      · subst c1; exact nLH
      · rw [upd_ne c1] at e
        exact fr_none hr3 f3 c e
end
end Ps

namespace Ps
open PySem PySem.Spec PyProof.Rows L2
section
variable {P : Program} {w : World} {K : PySem.W.Frag} {mg : Str → Option Value} {base : Heap}
/-! ### bars_as_told -/
def sp_bars_as_told : Sp := fun vs H Q _ => ∃ v l n, vs = [v, .int (n : Nat)] ∧ BarsAt H v l ∧ l.length ≤ 1000 ∧ ∀ H', Same H H' → Q (.bl (l.all (Sw71.barOk n))) H'
theorem ok_bars_as_told {f : Addr} {fd : FuncData} (n_all : mg "all" = none) (D : Dn K mg "bars_as_told" s_bars_as_told ["bars", "bar_length"] f fd) (C1 : Cal P w K mg base "bar_as_told" 2 ["bar", "bar_length"] sp_bar_as_told) :
    Cal P w K mg base "bars_as_told" 3 ["bars", "bar_length"] sp_bars_as_told := by
  obtain ⟨f_bar_as_told, fd_bar_as_told, G_bar_as_told, m_bar_as_told, k_bar_as_told, b_bar_as_told⟩ := C1.ex
  refine D.cal (D.fn.ok sc_bars_as_told (fun vs H Q E h => ?_) (fun cdv A outer s H vs Q E hr h => ?_))
  · obtain ⟨v, l, n, rfl, _⟩ := h
    rfl
  · obtain ⟨v, l, n, rfl, ⟨x, xs, rfl, hx, hp⟩, hlen, q⟩ := h
    refine ⟨_, (pss_one (ps_ret (pe_callB (cr_all rfl) (by rfl) n_all (by decide +kernel) (pa_cons (pe_lc (own := [("bar", 2)]) rfl sc_bars_as_told.nd (pi_list (pv 0)) (blkOk_by (own := [("bar", 2)]) (N := ["bars", "bar_length", "bar"]) (sc := defScope s_bars_as_told) (by decide +kernel)) (fun _ _ _ _ _ => (pg_name (i := 2) sc_bars_as_told.nd rfl (Or.inl rfl))) (fun _ _ _ _ _ => pts_nil) (fun _ _ _ _ _ => (pe_call G_bar_as_told (hr.mono (by decide)) rfl m_bar_as_told k_bar_as_told b_bar_as_told .nil pass0 (pa_cons (pv 2) (pa_cons (pv 1) pa_nil))))) pa_nil)))), ?_⟩
    refine ⟨_, rfl, x, rfl, ⟨_, SqL.of hx⟩, fun L nL => lc_list (K := K) (a := x) (xs := xs) (fun i H' => Same H H' ∧ H' L = some (.lst (((l.take i).map (Sw71.barOk n)).map V.bl)))
      ⟨same_upd nL, upd_same⟩ (fun i H' _ ⟨s, _⟩ => SqL.of (s _ _ hx)) ?_ ?_⟩
    · rintro i y H' hi ⟨s, hL⟩
      obtain ⟨b, hb, hba⟩ := paired_at hp hi
      refine ⟨rfl, lc_yes ?_⟩
      refine ⟨_, rfl, _, rfl, y, b, n, rfl, barAt_mono _ _ _ _ s hba, _, hL, small1000 (by rw [List.length_map, List.length_map, List.length_take]; omega), fun c o e => ?_, ?_⟩
      · rw [upd_ne (ne_of_none e nL)]; exact s _ _ e
      · rw [upd_same, snoc_take hb, List.map_append, List.map_append]; rfl
    · rintro H1 ⟨s, hL⟩
      rw [hp.length, List.take_length] at hL
      refine ⟨L, _, rfl, SqL.of hL, ?_⟩
      have e : ((l.map (Sw71.barOk n)).all id) = l.all (Sw71.barOk n) := by rw [List.all_map]; rfl
      rw [e]
      exact q _ s
/-! ### goes_over_break -/
def overBreak (bs : List Nat) (i j : Nat) : Bool := bs.any fun b => decide (i < b) && decide (b < j)
theorem any_snoc {A : Type} {p : A → Bool} {l : List A} {i : Nat} {x : A} (h : l[i]? = some x) : (l.take (i + 1)).any p = ((l.take i).any p || p x) := by
  rw [snoc_take h, List.any_append]
  simp
def sp_goes_over_break (C : Addr) : Sp := fun vs H Q _ => ∃ G s sl t S i j, vs = [.ref s, .int (i : Nat), .int (j : Nat)] ∧ ScP C H G s sl t S ∧ Q (.bl (overBreak S.breaks i j)) H
theorem ok_goes_over_break {CS f : Addr} {fd : FuncData} (D : Dn K mg "goes_over_break" s_goes_over_break ["score", "start", "end"] f fd) (cl : Cls K CS) (nB : NoAttr K CS "breaks") :
    Cal P w K mg base "goes_over_break" 1 ["score", "start", "end"] (sp_goes_over_break CS) := by
  refine D.cal (D.fn.ok sc_goes_over_break (fun vs H Q E h => ?_) (fun cdv A outer s0 H vs Q E hr h => ?_))
  · obtain ⟨G, s, sl, t, S, i, j, rfl, _⟩ := h
    rfl
  · obtain ⟨G, s, sl, t, S, i, j, rfl, hP, q⟩ := h
    refine ⟨_, (pss_cons (ps_for PassesOwn.never rfl (pi_list (pe_fld (pv 0) rfl)) (pg_name (i := 3) sc_goes_over_break.nd rfl (Or.inl rfl))
        (pss_one (ps_if (PW.pt (pw_and (pt_cmpR op_lt (pv 1) (pv 3) (nomark _)) (pw_and1 (pt_cmpR op_lt (pv 3) (pv 2) (nomark _)))))
          (pss_one (ps_ret pe_bl))
          pss_nil)))
      (pss_one (ps_ret pe_bl))), ?_⟩
    obtain ⟨dx, la, ba, vsl, h1, h2, ⟨y, rfl, hy⟩, h4, h5⟩ := id hP.ex
    have hy' := hP.sub _ _ hy
    refine ⟨_, rfl, s, CS, dx, _, _, rfl, h1, cl, nB, scF_b _ _ _, y, rfl, ⟨_, SqL.of hy'⟩, for_list (K := K) (a := y) (xs := nV S.breaks) (fun k σ H' => ∃ (v3 : Option V), σ = [some (.ref s), some (.int (i : Nat)), some (.int (j : Nat)), v3] ∧ H' = H ∧ ((S.breaks.take k).any fun b => decide (i < b) && decide (b < j)) = false)
      ⟨none, rfl, rfl, rfl⟩ (fun i σ H' _ ⟨_, _, e, _⟩ => e ▸ SqL.of hy') ?_ ?_⟩
    · rintro k z σ H' hk ⟨v3, rfl, rfl, hall⟩
      obtain ⟨n, hn, rfl⟩ := nV_at hk
      have step := any_snoc (p := fun b => decide (i < b) && decide (b < j)) hn
      rw [hall, Bool.false_or] at step
      refine ⟨_, rfl, _, rfl, _, _, rfl, rfl, _, rfl, ?_⟩
      by_cases c1 : i < n
      · refine iteT_of (decide_eq_true (by omega)) ?_
        refine ⟨_, rfl, _, rfl, _, _, rfl, rfl, _, rfl, ?_⟩
        by_cases c2 : n < j
        · refine iteT_of (decide_eq_true (by omega)) ?_
          have e : overBreak S.breaks i j = true := List.any_eq_true.mpr ⟨n, List.mem_of_getElem? hn, by rw [decide_eq_true c1, decide_eq_true c2]; rfl⟩
          rw [e] at q
          exact q
        · refine iteF_of (decide_eq_false (by omega)) ?_
          exact ⟨_, rfl, rfl, by rw [step, decide_eq_false c2, Bool.and_false]⟩
      · refine iteF_of (decide_eq_false (by omega)) (iteF ?_)
        exact ⟨_, rfl, rfl, by rw [step, decide_eq_false c1, Bool.false_and]⟩
    · rintro σ H' ⟨v3, rfl, rfl, hall⟩
      rw [nV_length, List.take_length] at hall
      have e : overBreak S.breaks i j = false := hall
      rw [e] at q
      exact q
/-! ### piece_as_told -/
def pieceKind (S : Sw71.Score) (m i : Nat) : Sw71.Piece → Bool
  | .rest n => !overBreak S.breaks i (i + n)
  | .bar b => decide (b.length = m) && !b.all Sw71.rests
  | .cue _ _ => true
def pieceOne (S : Sw71.Score) (m i : Nat) (x : Sw71.Piece) : Bool :=
  if x.bars = 0 ∨ S.bars.length < i + x.bars then false
  else if (barsOf x).all (Sw71.barOk (S.bars.getD i 0)) = false then false
  else pieceKind S m i x
theorem pieceOne_out {S : Sw71.Score} {m i : Nat} {x : Sw71.Piece} (h : x.bars = 0 ∨ S.bars.length < i + x.bars) : pieceOne S m i x = false := if_pos h
theorem pieceOne_in {S : Sw71.Score} {m i : Nat} {x : Sw71.Piece} (h : ¬ x.bars = 0) (h2 : i + x.bars ≤ S.bars.length) : pieceOne S m i x = if (barsOf x).all (Sw71.barOk (S.bars.getD i 0)) = false then false else pieceKind S m i x := if_neg (by omega)
theorem no_break (bs : List Nat) (i n : Nat) : ((List.range n).all fun j => j == 0 || !bs.contains (i + j)) = !overBreak bs i (i + n) := by
  rw [Bool.eq_iff_iff]
  constructor
  · intro h
    rw [Bool.not_eq_true']
    cases c : overBreak bs i (i + n) with
    | false => rfl
    | true =>
      obtain ⟨b, hb, hc⟩ := List.any_eq_true.mp c
      rw [Bool.and_eq_true] at hc
      have h1 := of_decide_eq_true hc.1
      have h2 := of_decide_eq_true hc.2
      have q := List.all_eq_true.mp h (b - i) (List.mem_range.mpr (by omega))
      rw [show i + (b - i) = b by omega, List.contains_iff_mem.mpr hb] at q
      have z : ((b - i) == 0) = false := by rw [beq_eq_false_iff_ne]; omega
      rw [z] at q
      cases q
  · intro h
    rw [Bool.not_eq_true'] at h
    refine List.all_eq_true.mpr fun j hj => ?_
    have hj := List.mem_range.mp hj
    by_cases c : j = 0
    · rw [c]; rfl
    · have z : bs.contains (i + j) = false := by
        cases d : bs.contains (i + j) with
        | false => rfl
        | true =>
          have := List.any_eq_false.mp h (i + j) (List.contains_iff_mem.mp d)
          rw [decide_eq_true (show i < i + j by omega), decide_eq_true (show i + j < i + n by omega)] at this
          exact absurd rfl this
      rw [z, Bool.not_false, Bool.or_true]
theorem getD_of {l : List Nat} {i : Nat} (h : i < l.length) : l[i]? = some (l.getD i 0) := by
  rw [List.getD_eq_getElem?_getD, List.getElem?_eq_getElem h]; rfl
theorem pieceOk_step (S : Sw71.Score) (m i : Nat) (x : Sw71.Piece) (l : List Sw71.Piece) : Sw71.pieceOk S m i (x :: l) = (pieceOne S m i x && Sw71.pieceOk S m (i + x.bars) l) := by
  cases x with
  | rest n =>
    show (decide (1 ≤ n) && (decide (i + n ≤ S.bars.length) && (((List.range n).all fun j => j == 0 || !S.breaks.contains (i + j)) && Sw71.pieceOk S m (i + n) l))) = (pieceOne S m i (.rest n) && Sw71.pieceOk S m (i + n) l)
    rw [no_break]
    by_cases c1 : n = 0
    · rw [pieceOne_out (x := .rest n) (.inl c1), decide_eq_false (by omega)]; rfl
    · by_cases c2 : S.bars.length < i + n
      · rw [pieceOne_out (x := .rest n) (.inr c2), decide_eq_false (show ¬ i + n ≤ S.bars.length by omega), Bool.false_and, Bool.and_false, Bool.false_and]
      · rw [pieceOne_in (x := .rest n) c1 (by show i + n ≤ _; omega), decide_eq_true (by omega), decide_eq_true (show i + n ≤ S.bars.length by omega), Bool.true_and, Bool.true_and]; rfl
  | bar b =>
    show ((match S.bars[i]? with | some n => decide (b.length = m) && (b.all (Sw71.barOk n) && !b.all Sw71.rests) | none => false) && Sw71.pieceOk S m (i + 1) l) = (pieceOne S m i (.bar b) && Sw71.pieceOk S m (i + 1) l)
    congr 1
    by_cases c : i < S.bars.length
    · rw [pieceOne_in (x := .bar b) (by intro z; cases z) (by show i + 1 ≤ _; omega), getD_of c]
      show (decide (b.length = m) && (b.all (Sw71.barOk (S.bars.getD i 0)) && !b.all Sw71.rests)) = if b.all (Sw71.barOk (S.bars.getD i 0)) = false then false else (decide (b.length = m) && !b.all Sw71.rests)
      cases b.all (Sw71.barOk (S.bars.getD i 0)) with
      | true => rw [if_neg (by intro z; cases z), Bool.true_and]
      | false => rw [if_pos rfl, Bool.false_and, Bool.and_false]
    · rw [pieceOne_out (x := .bar b) (.inr (by show _ < i + 1; omega)), List.getElem?_eq_none (by omega)]
  | cue k b =>
    show ((match S.bars[i]? with | some n => Sw71.barOk n b | none => false) && Sw71.pieceOk S m (i + 1) l) = (pieceOne S m i (.cue k b) && Sw71.pieceOk S m (i + 1) l)
    congr 1
    by_cases c : i < S.bars.length
    · rw [pieceOne_in (x := .cue k b) (by intro z; cases z) (by show i + 1 ≤ _; omega), getD_of c]
      show Sw71.barOk (S.bars.getD i 0) b = if (Sw71.barOk (S.bars.getD i 0) b && true) = false then false else true
      rw [Bool.and_true]
      cases Sw71.barOk (S.bars.getD i 0) b <;> rfl
    · rw [pieceOne_out (x := .cue k b) (.inr (by show _ < i + 1; omega)), List.getElem?_eq_none (by omega)]
def sp_piece_as_told (CS CP : Addr) : Sp := fun vs H Q _ => ∃ G s sl t S m u x i, vs = [.ref s, .int (m : Nat), u, .int (i : Nat)] ∧ ScP CS H G s sl t S ∧ PieceAt CP H u x ∧ (barsOf x).length ≤ 1000 ∧
  ∀ H', Same H H' → Q (.bl (pieceOne S m i x)) H'
theorem ok_piece_as_told {CS CP f : Addr} {fd : FuncData} (n_len : mg "len" = none) (n_all : mg "all" = none) (D : Dn K mg "piece_as_told" s_piece_as_told ["score", "staff_count", "piece", "place"] f fd) (cl : Cls K CS) (nL : NoAttr K CS "lengths") (T : TxtPc K mg CP)
    (C1 : Cal P w K mg base "bars_as_told" 3 ["bars", "bar_length"] sp_bars_as_told) (C2 : Cal P w K mg base "goes_over_break" 1 ["score", "start", "end"] (sp_goes_over_break CS)) (C3 : Cal P w K mg base "bar_rests" 1 ["bar"] sp_bar_rests) :
    Cal P w K mg base "piece_as_told" 4 ["score", "staff_count", "piece", "place"] (sp_piece_as_told CS CP) := by
  obtain ⟨f_bars_as_told, fd_bars_as_told, G_bars_as_told, m_bars_as_told, k_bars_as_told, b_bars_as_told⟩ := C1.ex
  obtain ⟨f_goes_over_break, fd_goes_over_break, G_goes_over_break, m_goes_over_break, k_goes_over_break, b_goes_over_break⟩ := C2.ex
  obtain ⟨f_bar_rests, fd_bar_rests, G_bar_rests, m_bar_rests, k_bar_rests, b_bar_rests⟩ := C3.ex
  refine D.cal (D.fn.ok sc_piece_as_told (fun vs H Q E h => ?_) (fun cdv A outer s0 H vs Q E hr h => ?_))
  · obtain ⟨G, s, sl, t, S, m, u, x, i, rfl, _⟩ := h
    rfl
  · obtain ⟨G, s, sl, t, S, m, u, x, i, rfl, hP, ⟨a, dxp, bv, rfl, ha, hbv⟩, hlen, q⟩ := h
    refine ⟨_, (pss_cons (ps_set (i := 4) sc_piece_as_told.nd rfl (Or.inl rfl) (pe_op op_add (pv 3) (pe_fld (pv 2) rfl)))
      (pss_cons (ps_if (PW.pt (pw_or (pt_cmpR op_eq (pv 4) (pv 3) (nomark _)) (pw_or1 (pt_cmpR op_gt (pv 4) (pe_callB call_len_seq (by rfl) n_len PySem.boot_len (pa_cons (pe_fld (pv 0) rfl) pa_nil)) (nomark _)))))
        (pss_one (ps_ret pe_bl))
        pss_nil)
      (pss_cons (ps_if (pt_not (pt_val (pe_call G_bars_as_told (hr.mono (by decide)) rfl m_bars_as_told k_bars_as_told b_bars_as_told .nil pass0 (pa_cons (pe_fld (pv 2) rfl) (pa_cons (pe_ix ix_list (pe_fld (pv 0) rfl) (pv 3) (fun _ _ => rfl)) pa_nil)))))
        (pss_one (ps_ret pe_bl))
        pss_nil)
      (pss_cons (ps_if (pt_cmpR op_eq (pe_fld (pv 2) rfl) (pe_gi rfl T.g_REST) (nomark _))
        (pss_one (ps_ret (pe_not (pe_call G_goes_over_break (hr.mono (by decide)) rfl m_goes_over_break k_goes_over_break b_goes_over_break .nil pass0 (pa_cons (pv 0) (pa_cons (pv 3) (pa_cons (pv 4) pa_nil)))))))
        pss_nil)
      (pss_cons (ps_if (pt_cmpR op_eq (pe_fld (pv 2) rfl) (pe_gi rfl T.g_BAR) (nomark _))
        (pss_one (ps_ret (pe_and (pe_cmpR op_eq (pe_callB call_len_seq (by rfl) n_len PySem.boot_len (pa_cons (pe_fld (pv 2) rfl) pa_nil)) (pv 1) (nomark _)) (pe_one (pe_not (pe_callB (cr_all rfl) (by rfl) n_all (by decide +kernel) (pa_cons (pe_lc (own := [("bar", 5)]) rfl sc_piece_as_told.nd (pi_list (pe_fld (pv 2) rfl)) (blkOk_by (own := [("bar", 5)]) (N := ["score", "staff_count", "piece", "place", "end", "bar"]) (sc := defScope s_piece_as_told) (by decide +kernel)) (fun _ _ _ _ _ => (pg_name (i := 5) sc_piece_as_told.nd rfl (Or.inl rfl))) (fun _ _ _ _ _ => pts_nil) (fun _ _ _ _ _ => (pe_call G_bar_rests (hr.mono (by decide)) rfl m_bar_rests k_bar_rests b_bar_rests .nil pass0 (pa_cons (pv 5) pa_nil)))) pa_nil)))))))
        pss_nil)
      (pss_one (ps_ret pe_bl))))))), ?_⟩
    obtain ⟨dx, la, ba, vsl, h1, ⟨y, rfl, hy⟩, h3, h4, h5⟩ := id hP.ex
    have hy' := hP.sub _ _ hy
    obtain ⟨z, bvs, rfl, hz, hpz⟩ := id hbv
    have ei : (i : Int) + ((x.bars : Nat) : Int) = ((i + x.bars : Nat) : Int) := (Int.natCast_add _ _).symm
    refine ⟨_, rfl, _, rfl, a, CP, dxp, _, _, rfl, ha, T.cl, T.nC, pcF_c _ _ _, _, _, rfl, rfl, ?_⟩
    show gName 4 (V.int ((i : Int) + ((x.bars : Nat) : Int))) _ _ _
    rw [ei]
    refine ⟨_, rfl, _, rfl, rfl, _, rfl, ?_⟩
    by_cases c0 : x.bars = 0
    · refine iteT_of (by rw [c0]; exact decide_eq_true rfl) ?_
      have e : pieceOne S m i x = false := pieceOne_out (.inl c0)
      rw [e] at q
      exact q _ (Same.refl H)
    refine iteF_of (decide_eq_false (fun z => c0 (by injection z with z; omega))) ?_
    refine ⟨_, rfl, _, rfl, s, CS, dx, _, _, rfl, h1, cl, nL, scF_l _ _ _, y, _, rfl, .inl (SqL.of hy'), _, _, rfl, rfl, _, rfl, ?_⟩
    rw [nV_length]
    by_cases c1 : S.bars.length < i + x.bars
    · refine iteT_of (decide_eq_true (by omega)) ?_
      have e : pieceOne S m i x = false := pieceOne_out (.inr c1)
      rw [e] at q
      exact q _ (Same.refl H)
    refine iteF_of (decide_eq_false (by omega)) ?_
    have hi : i < S.bars.length := by omega
    have e0 := pieceOne_in (m := m) c0 (Nat.le_of_not_lt c1)
    refine ⟨_, rfl, a, CP, dxp, _, _, rfl, ha, T.cl, T.nB, pcF_b _ _ _, _, rfl, s, CS, dx, _, _, rfl, h1, cl, nL, scF_l _ _ _, _, rfl, y, _, _, _, rfl, rfl, SqL.of hy', atI_nat (nV_get (getD_of hi)), _, barsOf x, _, rfl, ⟨z, bvs, rfl, hz, hpz⟩, hlen, fun H1 s1 => ⟨_, rfl, ?_⟩⟩
    cases c2 : (barsOf x).all (Sw71.barOk (S.bars.getD i 0)) with
    | false =>
      refine iteT_of rfl ?_
      rw [if_pos c2] at e0
      rw [e0] at q
      exact q _ s1
    | true =>
      refine iteF_of rfl ?_
      rw [if_neg (by rw [c2]; intro z; cases z)] at e0
      refine ⟨_, rfl, a, CP, dxp, _, _, rfl, s1 _ _ ha, T.cl, T.nK, pcF_k _ _ _, rfl, _, rfl, ?_⟩
      cases x with
      | rest n =>
        refine iteT_of rfl ?_
        refine ⟨_, rfl, _, rfl, _, rfl, G, s, sl, t, S, i, _, rfl, hP.same s1, _, rfl, ?_⟩
        have q1 := q _ s1
        rw [e0] at q1
        exact q1
      | bar b =>
        refine iteF_of rfl ?_
        refine ⟨_, rfl, a, CP, dxp, _, _, rfl, s1 _ _ ha, T.cl, T.nK, pcF_k _ _ _, rfl, _, rfl, iteT_of rfl ?_⟩
        refine ⟨_, rfl, a, CP, dxp, _, _, rfl, s1 _ _ ha, T.cl, T.nB, pcF_b _ _ _, z, _, rfl, .inl (SqL.of (s1 _ _ hz)), _, rfl, rfl, _, rfl, ?_⟩
        have el : decide (V.int (bvs.length : Nat) = V.int (m : Nat)) = decide (b.length = m) := by
          rw [hpz.length]
          by_cases c : b.length = m
          · rw [decide_eq_true c]; exact decide_eq_true (by show V.int ((barsOf (.bar b)).length : Nat) = _; rw [show barsOf (.bar b) = b from rfl, c])
          · rw [decide_eq_false c]; exact decide_eq_false (fun z => c (by injection z with z; exact Int.ofNat.inj z))
        have e0 : pieceOne S m i (.bar b) = (decide (b.length = m) && !b.all Sw71.rests) := e0
        rw [e0] at q
        by_cases c3 : b.length = m
        · rw [decide_eq_true c3] at q el
          refine iteT_of el ?_
          refine ⟨_, rfl, a, CP, dxp, _, _, rfl, s1 _ _ ha, T.cl, T.nB, pcF_b _ _ _, z, rfl, ⟨_, SqL.of (s1 _ _ hz)⟩, fun L nL => lc_list (K := K) (a := z) (xs := bvs) (fun j H' => Same H1 H' ∧ H' L = some (.lst (((b.take j).map Sw71.rests).map V.bl)))
            ⟨same_upd nL, upd_same⟩ (fun j H' _ ⟨s2, _⟩ => SqL.of (s2 _ _ (s1 _ _ hz))) ?_ ?_⟩
          · rintro j v H' hj ⟨s2, hL⟩
            obtain ⟨b1, hb1, hba⟩ := paired_at hpz hj
            have hlen : b.length ≤ 1000 := hlen
            refine ⟨rfl, lc_yes ?_⟩
            refine ⟨_, rfl, v, b1, rfl, barAt_mono _ _ _ _ (s1.trans s2) hba, _, hL, small1000 (by rw [List.length_map, List.length_map, List.length_take]; omega), fun c o e => ?_, ?_⟩
            · rw [upd_ne (ne_of_none e nL)]; exact s2 _ _ e
            · rw [upd_same, snoc_take (show b[j]? = some b1 from hb1), List.map_append, List.map_append]; rfl
          · rintro H2 ⟨s2, hL⟩
            rw [hpz.length, show barsOf (.bar b) = b from rfl, List.take_length] at hL
            refine ⟨L, _, rfl, SqL.of hL, _, rfl, ?_⟩
            have e : ((b.map Sw71.rests).all id) = b.all Sw71.rests := by rw [List.all_map]; rfl
            rw [e]
            exact q _ (s1.trans s2)
        · rw [decide_eq_false c3] at q el
          refine iteF_of el ?_
          exact q _ s1
      | cue k b =>
        refine iteF_of rfl ?_
        refine ⟨_, rfl, a, CP, dxp, _, _, rfl, s1 _ _ ha, T.cl, T.nK, pcF_k _ _ _, rfl, _, rfl, iteF_of rfl ?_⟩
        have q1 := q _ s1
        rw [e0] at q1
        exact q1
end
end Ps

namespace Ps
open PySem PySem.Spec PyProof.Rows L2
section
variable {P : Program} {w : World} {K : PySem.W.Frag} {mg : Str → Option Value} {base : Heap}
/-! ### part_as_told -/
def sp_part_as_told (CS CP : Addr) : Sp := fun vs H Q _ => ∃ G s sl t S m u ps, vs = [.ref s, .int (m : Nat), u] ∧ ScP CS H G s sl t S ∧ ListAt (PieceAt CP) H u ps ∧ (∀ x ∈ ps, (barsOf x).length ≤ 1000) ∧
  ∀ H', Same H H' → Q (.bl (Sw71.pieceOk S m 0 ps)) H'
theorem ok_part_as_told {CS CP f : Addr} {fd : FuncData} (n_len : mg "len" = none) (D : Dn K mg "part_as_told" s_part_as_told ["score", "staff_count", "pieces"] f fd) (cl : Cls K CS) (nL : NoAttr K CS "lengths") (T : TxtPc K mg CP)
    (C1 : Cal P w K mg base "piece_as_told" 4 ["score", "staff_count", "piece", "place"] (sp_piece_as_told CS CP)) :
    Cal P w K mg base "part_as_told" 5 ["score", "staff_count", "pieces"] (sp_part_as_told CS CP) := by
  obtain ⟨f_piece_as_told, fd_piece_as_told, G_piece_as_told, m_piece_as_told, k_piece_as_told, b_piece_as_told⟩ := C1.ex
  refine D.cal (D.fn.ok sc_part_as_told (fun vs H Q E h => ?_) (fun cdv A outer s0 H vs Q E hr h => ?_))
  · obtain ⟨G, s, sl, t, S, m, u, ps, rfl, _⟩ := h
    rfl
  · obtain ⟨G, s, sl, t, S, m, u, ps, rfl, hP, ⟨ua, uxs, rfl, hua, hup⟩, hlen, q⟩ := h
    refine ⟨_, (pss_cons (ps_set (i := 3) sc_part_as_told.nd rfl (Or.inl rfl) pe_int)
      (pss_cons (ps_for PassesOwn.never rfl (pi_list (pv 2)) (pg_name (i := 4) sc_part_as_told.nd rfl (Or.inl rfl))
        (pss_cons (ps_if (pt_not (pt_val (pe_call G_piece_as_told (hr.mono (by decide)) rfl m_piece_as_told k_piece_as_told b_piece_as_told .nil pass0 (pa_cons (pv 0) (pa_cons (pv 1) (pa_cons (pv 4) (pa_cons (pv 3) pa_nil)))))))
          (pss_one (ps_ret pe_bl))
          pss_nil)
        (pss_one (ps_aug (i := 3) sc_part_as_told.nd rfl (Or.inl rfl) (pe_fld (pv 4) rfl) ip_add))))
      (pss_one (ps_ret (pe_cmpR op_eq (pv 3) (pe_callB call_len_seq (by rfl) n_len PySem.boot_len (pa_cons (pe_fld (pv 0) rfl) pa_nil)) (nomark _)))))), ?_⟩
    refine ⟨_, rfl, ua, rfl, ⟨_, SqL.of hua⟩, for_list (K := K) (a := ua) (xs := uxs) (fun j σ H' => ∃ (v4 : Option V) (i : Nat), σ = [some (.ref s), some (.int (m : Nat)), some (.ref ua), some (.int (i : Nat)), v4] ∧ Same H H' ∧ Sw71.pieceOk S m 0 ps = Sw71.pieceOk S m i (ps.drop j))
      ⟨none, 0, rfl, Same.refl H, rfl⟩ (fun j σ H' _ ⟨_, _, _, s1, _⟩ => SqL.of (s1 _ _ hua)) ?_ ?_⟩
    · rintro j y σ H' hj ⟨v4, i, rfl, s1, hk⟩
      obtain ⟨x, hx, hxa⟩ := paired_at hup hj
      rw [drop_at hx, pieceOk_step] at hk
      refine ⟨_, rfl, _, rfl, _, rfl, _, rfl, G, s, sl, t, S, m, y, x, i, rfl, hP.same s1, pieceAt_mono _ _ _ _ s1 hxa, hlen x (List.mem_of_getElem? hx), fun H2 s2 => ⟨_, rfl, ?_⟩⟩
      cases c : pieceOne S m i x with
      | false =>
        refine iteT_of rfl ?_
        rw [c, Bool.false_and] at hk
        have q1 := q _ (s1.trans s2)
        rw [hk] at q1
        exact q1
      | true =>
        refine iteF_of rfl ?_
        rw [c, Bool.true_and] at hk
        obtain ⟨a, dxp, bv, rfl, ha, _⟩ := pieceAt_mono _ _ _ _ (s1.trans s2) hxa
        refine ⟨_, rfl, _, rfl, a, CP, dxp, _, _, rfl, ha, T.cl, T.nC, pcF_c _ _ _, _, _, rfl, rfl, some (.ref a), i + x.bars, ?_, s1.trans s2, hk⟩
        rw [Int.natCast_add]; rfl
    · rintro σ H' ⟨v4, i, rfl, s1, hk⟩
      rw [hup.length, List.drop_length] at hk
      have hk : Sw71.pieceOk S m 0 ps = (i == S.bars.length) := hk
      obtain ⟨dx, la, ba, vsl, h1, ⟨y, rfl, hy⟩, h3, h4, h5⟩ := id (hP.same s1).ex
      have hy' := (hP.same s1).sub _ _ hy
      refine ⟨_, rfl, _, rfl, s, CS, dx, _, _, rfl, h1, cl, nL, scF_l _ _ _, y, _, rfl, .inl (SqL.of hy'), rfl, ?_⟩
      have q1 := q _ s1
      have e : (i == S.bars.length) = decide (V.int (i : Nat) = V.int ((nV S.bars).length : Nat)) := by
        rw [nV_length]
        by_cases c : i = S.bars.length
        · rw [beq_iff_eq.mpr c]; exact (decide_eq_true (by rw [c])).symm
        · rw [beq_eq_false_iff_ne.mpr c]; exact (decide_eq_false (fun z => c (by injection z with z; exact Int.ofNat.inj z))).symm
      rw [hk, e] at q1
      exact q1
/-! ### staff_put_back -/
def rowsOf (ls : List Nat) (m i : Nat) : Sw71.Piece → List (List Sw71.Bar)
  | .rest n => (List.range n).map fun j => List.replicate m (Sw71.restBar (ls.getD (i + j) 0))
  | .cue _ _ => [List.replicate m (Sw71.restBar (ls.getD i 0))]
  | .bar b => [b]
theorem back_step (ls : List Nat) (m i : Nat) (x : Sw71.Piece) (l : List Sw71.Piece) : Sw71.back ls m i (x :: l) = rowsOf ls m i x ++ Sw71.back ls m (i + x.bars) l := by
  cases x <;> rfl
theorem rowsOf_length (ls : List Nat) (m i : Nat) (x : Sw71.Piece) : (rowsOf ls m i x).length = x.bars := by
  cases x with
  | rest n => show ((List.range n).map _).length = n; rw [List.length_map, List.length_range]
  | cue k b => rfl
  | bar b => rfl
theorem rows_rest (ls : List Nat) (m i n q : Nat) (h : q < n) : (rowsOf ls m i (.rest n))[q]? = some (List.replicate m (Sw71.restBar (ls.getD (i + q) 0))) := by
  show ((List.range n).map _)[q]? = _
  rw [List.getElem?_map, List.getElem?_range h]; rfl
def cellOf (k : Nat) (x : List Sw71.Bar) : Sw71.Bar := Sw71.plain (x.getD k [])
theorem cell_rest {m k n : Nat} (hk : k < m) (hn : 1 ≤ n) : cellOf k (List.replicate m (Sw71.restBar n)) = [⟨n, []⟩] := by
  unfold cellOf
  rw [List.getD_eq_getElem?_getD, List.getElem?_replicate, if_pos hk]
  show Sw71.plain (Sw71.restBar n) = _
  unfold Sw71.restBar
  rw [if_neg (by omega)]
  unfold Sw71.plain
  rw [if_pos ⟨rfl, by intro z; cases z⟩]
  show [(⟨0 + n, []⟩ : Sw71.Item)] = _
  rw [Nat.zero_add]
def staffBack (S : Sw71.Score) (m k : Nat) (ps : List Sw71.Piece) : List Sw71.Bar := (Sw71.back S.bars m 0 ps).map (cellOf k)
def sp_staff_put_back (CS CP : Addr) : Sp := fun vs H Q _ => ∃ G s sl t S m u ps k G0, vs = [.ref s, u, .int (k : Nat)] ∧ ScP CS H G s sl t S ∧ Good S ∧ Same G0 H ∧ ListAt (PieceAt CP) G0 u ps ∧ Sw71.pieceOk S m 0 ps = true ∧ k < m ∧
  ∀ H' v, Same H H' → BarsAt (Grow G0 H H') v (staffBack S m k ps) → Q v H'
theorem ok_staff_put_back {CS CP f : Addr} {fd : FuncData} (n_len : mg "len" = none) (n_range : mg "range" = none) (D : Dn K mg "staff_put_back" s_staff_put_back ["score", "pieces", "number"] f fd) (cl : Cls K CS) (nL : NoAttr K CS "lengths") (T : TxtPc K mg CP)
    (C1 : Cal P w K mg base "kept_bar" 2 ["bar", "bar_length"] sp_kept_bar) (C2 : Cal P w K mg base "whole_rest" 1 ["bar_length"] sp_whole_rest) :
    Cal P w K mg base "staff_put_back" 3 ["score", "pieces", "number"] (sp_staff_put_back CS CP) := by
  obtain ⟨f_kept_bar, fd_kept_bar, G_kept_bar, m_kept_bar, k_kept_bar, b_kept_bar⟩ := C1.ex
  obtain ⟨f_whole_rest, fd_whole_rest, G_whole_rest, m_whole_rest, k_whole_rest, b_whole_rest⟩ := C2.ex
  refine D.cal (D.fn.ok sc_staff_put_back (fun vs H Q E h => ?_) (fun cdv A outer s0 H vs Q E hr h => ?_))
  · obtain ⟨G, s, sl, t, S, m, u, ps, k, G0, rfl, _⟩ := h
    rfl
  · obtain ⟨G, s, sl, t, S, m, u, ps, k, G0, rfl, hP, hgood, sG, ⟨ua, uxs, rfl, hua, hup⟩, hok, hkm, q⟩ := h
    refine ⟨_, (pss_cons (ps_set (i := 3) sc_staff_put_back.nd rfl (Or.inl rfl) (pe_lst pa_nil))
      (pss_cons (ps_for PassesOwn.never rfl (pi_list (pv 1)) (pg_name (i := 4) sc_staff_put_back.nd rfl (Or.inl rfl))
        (pss_one (ps_for PassesOwn.never rfl (pi_range1 (by rfl) n_range (pa_cons (pe_fld (pv 4) rfl) pa_nil)) (pg_name (i := 5) sc_staff_put_back.nd rfl (Or.inl rfl))
          (pss_cons (ps_set (i := 6) sc_staff_put_back.nd rfl (Or.inl rfl) (pe_ix ix_list (pe_fld (pv 0) rfl) (pe_callB call_len_seq (by rfl) n_len PySem.boot_len (pa_cons (pv 3) pa_nil)) (fun _ _ => rfl)))
          (pss_one (ps_if (pt_cmpR op_eq (pe_fld (pv 4) rfl) (pe_gi rfl T.g_BAR) (nomark _))
            (pss_one (ps_expr (pe_bm PySem.F.plainAttrs_list PySem.F.slot_list_append PySem.F.type_list_append mt_append (pv 3) (pa_cons (pe_call G_kept_bar (hr.mono (by decide)) rfl m_kept_bar k_kept_bar b_kept_bar .nil pass0 (pa_cons (pe_ix ix_list (pe_fld (pv 4) rfl) (pv 2) (fun _ _ => rfl)) (pa_cons (pv 6) pa_nil))) pa_nil))))
            (pss_one (ps_expr (pe_bm PySem.F.plainAttrs_list PySem.F.slot_list_append PySem.F.type_list_append mt_append (pv 3) (pa_cons (pe_call G_whole_rest (hr.mono (by decide)) rfl m_whole_rest k_whole_rest b_whole_rest .nil pass0 (pa_cons (pv 6) pa_nil)) pa_nil))))))))))
      (pss_one (ps_ret (pv 3))))), ?_⟩
    refine ⟨Nat.zero_le _, fun p np => ?_⟩
    have s1 := same_upd (o := .lst []) np
    have p1 : (upd H p (.lst [])) p = some (.lst []) := upd_same
    have n1 : ∀ c, (upd H p (.lst [])) c = none → H c = none := fun c => s1.free
    generalize hH1 : upd H p (.lst []) = H1 at s1 p1 n1 ⊢
    have keep : ∀ (Hi Hx : Hp) (xs : List V), Same Hi Hx → Same (Grow G0 H1 Hi) (Grow G0 H1 (upd Hx p (.lst xs))) := fun Hi Hx xs sx => grow_mono fun a o y1 y2 _ => by
      rw [upd_ne (fun z => by subst z; rw [p1] at y1; cases y1)]
      exact sx _ _ y2
    have keep2 : ∀ (Hi Hx : Hp) (xs ys : List V), Hi p = some (.lst ys) → (∀ c, Hi c = none → H1 c = none) → Same (Grow G0 Hi Hx) (Grow G0 H1 (upd Hx p (.lst xs))) := fun Hi Hx xs ys hp ni => (grow_mono fun a o y1 y2 _ => by
      rw [upd_ne (fun z => by subst z; rw [hp] at y1; cases y1)]
      exact y2).trans (grow_later ni)
    refine ⟨_, rfl, ua, rfl, ⟨_, SqL.of (s1 _ _ (sG _ _ hua))⟩, for_list (K := K) (a := ua) (xs := uxs) (fun j σ H' => ∃ (v4 v5 v6 : Option V) (vs : List V) (acc : List (List Sw71.Bar)), σ = [some (.ref s), some (.ref ua), some (.int (k : Nat)), some (.ref p), v4, v5, v6] ∧ Same H H' ∧ (∀ c, H' c = none → H1 c = none) ∧ H' p = some (.lst vs) ∧ Paired (BarAt (Grow G0 H1 H')) vs (acc.map (cellOf k)) ∧
        Sw71.back S.bars m 0 ps = acc ++ Sw71.back S.bars m acc.length (ps.drop j) ∧ Sw71.pieceOk S m acc.length (ps.drop j) = true)
      ⟨none, none, none, [], [], rfl, s1, fun c h => h, p1, .nil, rfl, hok⟩ (fun j σ H' _ ⟨_, _, _, _, _, _, s2, _⟩ => SqL.of (s2 _ _ (sG _ _ hua))) ?_ ?_⟩
    · rintro j y σ Hi hj ⟨v4, v5, v6, vs, acc, rfl, si, ni, hp, pr, hb, hk⟩
      obtain ⟨x, hx, a, dxp, bv, rfl, ha0, hbv⟩ := paired_at hup hj
      have ha := sG _ _ ha0
      rw [drop_at hx, back_step] at hb
      rw [drop_at hx, pieceOk_step, Bool.and_eq_true] at hk
      obtain ⟨hone, hrest⟩ := hk
      have c0 : ¬ x.bars = 0 := fun z => by rw [pieceOne_out (.inl z)] at hone; cases hone
      have c1 : acc.length + x.bars ≤ S.bars.length := Nat.le_of_not_lt fun z => by rw [pieceOne_out (.inr z)] at hone; cases hone
      rw [pieceOne_in c0 c1] at hone
      have hs40 := hgood.short
      refine ⟨_, rfl, a, CP, dxp, _, _, rfl, si _ _ ha, T.cl, T.nC, pcF_c _ _ _, x.bars, rfl, by omega, by omega, for_range (lo := 0) (n := ((x.bars : Nat) : Int).toNat) (fun e σ H' => ∃ (v5 v6 : Option V) (vs2 : List V), σ = [some (.ref s), some (.ref ua), some (.int (k : Nat)), some (.ref p), some (.ref a), v5, v6] ∧ Same H H' ∧ (∀ c, H' c = none → H1 c = none) ∧ H' p = some (.lst vs2) ∧ Paired (BarAt (Grow G0 H1 H')) vs2 ((acc ++ (rowsOf S.bars m acc.length x).take e).map (cellOf k)))
        ⟨v5, v6, vs, rfl, si, ni, hp, by rw [List.take_zero, List.append_nil]; exact pr⟩ ?_ ?_⟩
      · rintro e σ H2 he ⟨v5, v6, vs2, rfl, s2, n2, hp2, pr2⟩
        have he : e < x.bars := by simpa using he
        have hl : vs2.length = acc.length + e := by
          rw [pr2.length, List.length_map, List.length_append, List.length_take, rowsOf_length]; omega
        have hi : vs2.length < S.bars.length := by omega
        have hn1 : 1 ≤ S.bars.getD vs2.length 0 := hgood.pos _ (List.mem_of_getElem? (getD_of hi))
        obtain ⟨dx, la, ba, vsl, h1, ⟨y, rfl, hy⟩, h3, h4, h5⟩ := id (hP.same s2).ex
        have hy' := (hP.same s2).sub _ _ hy
        refine ⟨_, rfl, s, CS, dx, _, _, rfl, h1, cl, nL, scF_l _ _ _, _, rfl, p, _, rfl, .inl (SqL.of hp2), y, _, _, _, rfl, rfl, SqL.of hy', atI_nat (nV_get (getD_of hi)), ?_⟩
        refine ⟨_, rfl, a, CP, dxp, _, _, rfl, s2 _ _ ha, T.cl, T.nK, pcF_k _ _ _, rfl, _, rfl, ?_⟩
        -- what both ways end with
        have fin : ∀ (Hk : Hp) (u : V) (row : List Sw71.Bar), Same H2 Hk → (rowsOf S.bars m acc.length x)[e]? = some row → BarAt (Grow G0 H2 Hk) u (cellOf k row) → ∃ (v5 v6 : Option V) (vs2' : List V), [some (.ref s), some (.ref ua), some (.int (k : Nat)), some (.ref p), some (.ref a), some (V.int (0 + (e : Nat))), some (V.int (S.bars.getD vs2.length 0 : Nat))] = [some (.ref s), some (.ref ua), some (.int (k : Nat)), some (.ref p), some (.ref a), v5, v6] ∧ Same H (upd Hk p (.lst (vs2 ++ [u]))) ∧ (∀ c, (upd Hk p (.lst (vs2 ++ [u]))) c = none → H1 c = none) ∧ (upd Hk p (.lst (vs2 ++ [u]))) p = some (.lst vs2') ∧
            Paired (BarAt (Grow G0 H1 (upd Hk p (.lst (vs2 ++ [u]))))) vs2' ((acc ++ (rowsOf S.bars m acc.length x).take (e + 1)).map (cellOf k)) := fun Hk u row sk hrow hu => by
          refine ⟨_, _, vs2 ++ [u], rfl, fun c o z => ?_, fun c z => ?_, upd_same, ?_⟩
          · rw [upd_ne (ne_of_none z np)]; exact sk _ _ (s2 _ _ z)
          · by_cases w : c = p
            · subst w; rw [upd_same] at z; cases z
            · rw [upd_ne w] at z; exact n2 c (sk.free z)
          · rw [snoc_take hrow, ← List.append_assoc, List.map_append]
            exact Paired.snoc (Paired.mono (fun _ _ h => barAt_mono _ _ _ _ (keep _ _ _ sk) h) pr2) (barAt_mono _ _ _ _ (keep2 _ _ _ _ hp2 n2) hu)
        have big : vs2.length < sizeLine := small1000 (by omega)
        cases x with
        | bar b =>
          refine iteT_of rfl ?_
          have he0 : e = 0 := by
            have : e < 1 := he
            omega
          subst he0
          have hone : (if b.all (Sw71.barOk (S.bars.getD acc.length 0)) = false then false else (decide (b.length = m) && !b.all Sw71.rests)) = true := hone
          cases c2 : b.all (Sw71.barOk (S.bars.getD acc.length 0)) with
          | false => rw [c2, if_pos rfl] at hone; cases hone
          | true =>
            rw [c2, if_neg (by intro z; cases z), Bool.and_eq_true] at hone
            have hbm := of_decide_eq_true hone.1
            obtain ⟨z, bvs, rfl, hz, hpz⟩ := id hbv
            have hbk : b[k]? = some (b.getD k []) := by rw [List.getD_eq_getElem?_getD, List.getElem?_eq_getElem (show k < b.length by omega)]; rfl
            obtain ⟨vb, hvb, hba⟩ := paired_at' hpz (show (barsOf (.bar b))[k]? = _ from hbk)
            refine ⟨_, rfl, .inl ⟨rfl, _, SqL.of hp2⟩, _, rfl, a, CP, dxp, _, _, rfl, s2 _ _ ha, T.cl, T.nB, pcF_b _ _ _, _, rfl, z, bvs, _, vb, rfl, rfl, SqL.of (s2 _ _ (sG _ _ hz)), atI_nat hvb, _, rfl, vb, b.getD k [], S.bars.getD vs2.length 0, G0, rfl, sG.trans s2, hba, fun Hk u sk hu => ?_⟩
            refine ⟨p, vs2, _, rfl, rfl, sk _ _ hp2, big, ?_⟩
            refine fin Hk u b sk rfl ?_
            have hok1 := List.all_eq_true.mp c2 _ (List.mem_of_getElem? hbk)
            have e9 : vs2.length = acc.length := by omega
            rw [e9] at hu hn1
            rw [kept_plain hok1 hn1] at hu
            exact hu
        | rest n =>
          refine iteF_of rfl ?_
          refine ⟨_, rfl, .inl ⟨rfl, _, SqL.of hp2⟩, _, rfl, S.bars.getD vs2.length 0, rfl, fun Hk u sk hu => ?_⟩
          refine ⟨p, vs2, _, rfl, rfl, sk _ _ hp2, big, ?_⟩
          refine fin Hk u _ sk (rows_rest _ _ _ _ _ he) ?_
          rw [← hl, cell_rest hkm hn1]
          exact barAt_mono _ _ _ _ (grow_zero (sG.trans s2)) hu
        | cue kk b =>
          refine iteF_of rfl ?_
          have he0 : e = 0 := by
            have : e < 1 := he
            omega
          subst he0
          refine ⟨_, rfl, .inl ⟨rfl, _, SqL.of hp2⟩, _, rfl, S.bars.getD vs2.length 0, rfl, fun Hk u sk hu => ?_⟩
          refine ⟨p, vs2, _, rfl, rfl, sk _ _ hp2, big, ?_⟩
          refine fin Hk u _ sk rfl ?_
          rw [show acc.length = vs2.length by omega, cell_rest hkm hn1]
          exact barAt_mono _ _ _ _ (grow_zero (sG.trans s2)) hu
      · rintro σ H2 ⟨v5, v6, vs2, rfl, s2, n2, hp2, pr2⟩
        have el : (rowsOf S.bars m acc.length x).take ((x.bars : Nat) : Int).toNat = rowsOf S.bars m acc.length x := List.take_of_length_le (by rw [rowsOf_length]; simp)
        rw [el] at pr2
        have e2 : (acc ++ rowsOf S.bars m acc.length x).length = acc.length + x.bars := by rw [List.length_append, rowsOf_length]
        exact ⟨_, v5, v6, vs2, acc ++ rowsOf S.bars m acc.length x, rfl, s2, n2, hp2, pr2, by rw [e2, hb, List.append_assoc], by rw [e2]; exact hrest⟩
    · rintro σ H' ⟨v4, v5, v6, vs, acc, rfl, si, ni, hp, pr, hb, hk⟩
      rw [hup.length, List.drop_length] at hb
      have hb : Sw71.back S.bars m 0 ps = acc := hb.trans (List.append_nil _)
      refine ⟨_, rfl, q _ _ si ⟨p, vs, rfl, grow_new sG np hp rfl, ?_⟩⟩
      rw [show staffBack S m k ps = acc.map (cellOf k) from by unfold staffBack; rw [hb]] at *
      exact Paired.mono (fun _ _ h => barAt_mono _ _ _ _ (grow_later n1) h) pr
/-! ### put_back -/
theorem putBack_eq (S : Sw71.Score) (m : Nat) (ps : List Sw71.Piece) : Sw71.putBack S.bars m ps = (List.range m).map fun k => staffBack S m k ps := rfl
def sp_put_back (CS CP : Addr) : Sp := fun vs H Q _ => ∃ G s sl t S m u ps, vs = [.ref s, .int (m : Nat), u] ∧ ScP CS H G s sl t S ∧ Good S ∧ ListAt (PieceAt CP) H u ps ∧ Sw71.pieceOk S m 0 ps = true ∧ m ≤ 8 ∧
  ∀ H' v, Same H H' → ListAt BarsAt H' v (Sw71.putBack S.bars m ps) → Q v H'
theorem ok_put_back {CS CP f : Addr} {fd : FuncData} (n_range : mg "range" = none) (D : Dn K mg "put_back" s_put_back ["score", "staff_count", "pieces"] f fd)
    (C1 : Cal P w K mg base "staff_put_back" 3 ["score", "pieces", "number"] (sp_staff_put_back CS CP)) :
    Cal P w K mg base "put_back" 4 ["score", "staff_count", "pieces"] (sp_put_back CS CP) := by
  obtain ⟨f_staff_put_back, fd_staff_put_back, G_staff_put_back, m_staff_put_back, k_staff_put_back, b_staff_put_back⟩ := C1.ex
  refine D.cal (D.fn.ok sc_put_back (fun vs H Q E h => ?_) (fun cdv A outer s0 H vs Q E hr h => ?_))
  · obtain ⟨G, s, sl, t, S, m, u, ps, rfl, _⟩ := h
    rfl
  · obtain ⟨G, s, sl, t, S, m, u, ps, rfl, hP, hgood, hu, hok, hm, q⟩ := h
    refine ⟨_, (pss_one (ps_ret (pe_lc (own := [("number", 3)]) rfl sc_put_back.nd (pi_range1 (by rfl) n_range (pa_cons (pv 1) pa_nil)) (blkOk_by (own := [("number", 3)]) (N := ["score", "staff_count", "pieces", "number"]) (sc := defScope s_put_back) (by decide +kernel)) (fun _ _ _ _ _ => (pg_name (i := 3) sc_put_back.nd rfl (Or.inl rfl))) (fun _ _ _ _ _ => pts_nil) (fun _ _ _ _ _ => (pe_call G_staff_put_back (hr.mono (by decide)) rfl m_staff_put_back k_staff_put_back b_staff_put_back .nil pass0 (pa_cons (pv 0) (pa_cons (pv 2) (pa_cons (pv 3) pa_nil)))))))), ?_⟩
    refine ⟨_, rfl, m, rfl, by omega, by omega, fun L nL => lc_range (lo := 0) (n := (m : Int).toNat) (fun i H' => ∃ (vs : List V), Same H H' ∧ (∀ c, H' c = none → (upd H L (.lst [])) c = none) ∧ H' L = some (.lst vs) ∧ Paired (BarsAt (Grow H (upd H L (.lst [])) H')) vs ((List.range i).map fun k => staffBack S m k ps))
      ⟨[], same_upd nL, fun c h => h, upd_same, .nil⟩ ?_ ?_⟩
    · have pL : (upd H L (.lst [])) L = some (.lst []) := upd_same
      generalize hH4 : upd H L (.lst []) = H4 at pL ⊢
      rintro i Hi hi ⟨vs, si, ni, hL, pr⟩
      have hi : i < m := by simpa using hi
      refine ⟨rfl, lc_yes ?_⟩
      refine ⟨_, rfl, _, rfl, _, rfl, G, s, sl, t, S, m, u, ps, i, H, ?_, hP.same si, hgood, si, hu, hok, hi, fun Hk v sk hv => ?_⟩
      · rw [Int.zero_add]; rfl
      refine ⟨vs, sk _ _ hL, small1000 (by rw [pr.length, List.length_map, List.length_range]; omega), vs ++ [v], fun c o z => ?_, fun c z => ?_, upd_same, ?_⟩
      · rw [upd_ne (ne_of_none z nL)]; exact sk _ _ (si _ _ z)
      · by_cases w : c = L
        · subst w; rw [upd_same] at z; cases z
        · rw [upd_ne w] at z; exact ni c (sk.free z)
      · rw [List.range_succ, List.map_append]
        have k1 : Same (Grow H H4 Hi) (Grow H H4 (upd Hk L (.lst (vs ++ [v])))) := grow_mono fun a o y1 y2 _ => by
          rw [upd_ne (fun z => by subst z; rw [pL] at y1; cases y1)]
          exact sk _ _ y2
        have k2 : Same (Grow H Hi Hk) (Grow H H4 (upd Hk L (.lst (vs ++ [v])))) := (grow_mono fun a o y1 y2 _ => by
          rw [upd_ne (fun z => by subst z; rw [hL] at y1; cases y1)]
          exact y2).trans (grow_later ni)
        exact Paired.snoc (Paired.mono (fun _ _ h => barsAt_mono _ _ _ _ k1 h) pr) (barsAt_mono _ _ _ _ k2 hv)
    · rintro H' ⟨vs, si, ni, hL, pr⟩
      have e : (m : Int).toNat = m := by simp
      rw [e] at pr
      refine q _ _ si ⟨L, vs, rfl, hL, ?_⟩
      rw [putBack_eq]
      exact Paired.mono (fun _ _ h => barsAt_mono _ _ _ _ (grow_in si) h) pr
end
end Ps

namespace Ps
open PySem PySem.Spec PyProof.Rows L2
section
variable {P : Program} {w : World} {K : PySem.W.Frag} {mg : Str → Option Value} {base : Heap}
/-! ### what is told to back is short -/
open Sw71Neutral in
theorem many_all {A : Type} {p : List Int → Option (A × List Int)} {q : A → Prop} (h : ∀ l x l', p l = some (x, l') → q x) : ∀ {k : Nat} {l l' : List Int} {xs : List A}, many_ p k l = some (xs, l') → ∀ x ∈ xs, q x
  | 0, _, _, _, e, x, hx => by
    rw [(many_zero e).1] at hx
    cases hx
  | k + 1, _, _, _, e, x, hx => by
    obtain ⟨y, l1, r, h1, h2, er⟩ := many_step e
    rw [er] at hx
    rcases List.mem_cons.mp hx with z | z
    · rw [z]; exact h _ _ _ h1
    · exact many_all h h2 x z
open Sw71Neutral in
theorem listIn_short {A : Type} {p : List Int → Option (A × List Int)} {l l' : List Int} {xs : List A} (h : listIn p l = some (xs, l')) : xs.length ≤ 60 := by
  obtain ⟨n, l1, _, hn, h2⟩ := listIn_some h
  rw [many_length h2]; exact hn
open Sw71Neutral in
theorem listIn_all {A : Type} {p : List Int → Option (A × List Int)} {q : A → Prop} (hq : ∀ l x l', p l = some (x, l') → q x) {l l' : List Int} {xs : List A} (h : listIn p l = some (xs, l')) : ∀ x ∈ xs, q x := by
  obtain ⟨n, l1, _, hn, h2⟩ := listIn_some h
  exact many_all hq h2
theorem piece_short {l l' : List Int} {x : Sw71.Piece} (h : Sw71Neutral.pieceIn l = some (x, l')) : (barsOf x).length ≤ 1000 := by
  rcases pieceIn_some h with ⟨n, _, ex⟩ | ⟨l1, b, _, hb, ex⟩ | ⟨k, l1, b, _, hb, ex⟩
  · rw [ex]; exact Nat.zero_le _
  · rw [ex]; exact Nat.le_trans (listIn_short hb) (by decide)
  · rw [ex]; show 1 ≤ 1000; decide
/-! ### answer_back -/
def RBack : Rel := fun l S l' S' out => ∃ (m : Nat) (row : List Int) (ps : List Sw71.Piece), l = (m : Int) :: (row.length : Int) :: (row ++ l') ∧ Sw71Neutral.listIn Sw71Neutral.pieceIn row = some (ps, []) ∧ S' = (Sw71.step S (.back m ps)).1 ∧ out = Sw71Neutral.out (Sw71.step S (.back m ps)).2
theorem step_back (S : Sw71.Score) (m : Nat) (ps : List Sw71.Piece) : Sw71.step S (.back m ps) = if m < 1 ∨ 8 < m ∨ Sw71.pieceOk S m 0 ps = false then (S, Sw71.ok (-1)) else (S, ⟨((Sw71.putBack S.bars m ps).length : Nat), (Sw71.putBack S.bars m ps).map Sw71.staffOut⟩) := rfl
theorem putBack_length (ls : List Nat) (m : Nat) (ps : List Sw71.Piece) : (Sw71.putBack ls m ps).length = m := by
  show ((List.range m).map _).length = m
  rw [List.length_map, List.length_range]
theorem ok_answer_back {CR CS CP f : Addr} {fd : FuncData} (g_MOST_STAVES : ∃ t, mg "MOST_STAVES" = some (.int 8 t)) (D : Dn K mg "answer_back" s_answer_back ["score", "reader"] f fd) (R : RdC P w K mg base CR) (Z : ScC P w K mg base CS)
    (C1 : Cal P w K mg base "read_pieces" 6 ["reader"] (sp_read_pieces K CR CP)) (C2 : Cal P w K mg base "part_as_told" 5 ["score", "staff_count", "pieces"] (sp_part_as_told CS CP)) (C3 : Cal P w K mg base "put_back" 4 ["score", "staff_count", "pieces"] (sp_put_back CS CP))
    (C4 : Cal P w K mg base "with_lists" 1 ["number", "rows"] sp_with_lists) (C5 : Cal P w K mg base "bars_numbers" 2 ["bars"] sp_bars_numbers) : Cal P w K mg base "answer_back" 7 ["score", "reader"] (AnsSp K CR CS RBack) := by
  obtain ⟨f_read_pieces, fd_read_pieces, G_read_pieces, m_read_pieces, k_read_pieces, b_read_pieces⟩ := C1.ex
  obtain ⟨f_part_as_told, fd_part_as_told, G_part_as_told, m_part_as_told, k_part_as_told, b_part_as_told⟩ := C2.ex
  obtain ⟨f_put_back, fd_put_back, G_put_back, m_put_back, k_put_back, b_put_back⟩ := C3.ex
  obtain ⟨f_with_lists, fd_with_lists, G_with_lists, m_with_lists, k_with_lists, b_with_lists⟩ := C4.ex
  obtain ⟨f_bars_numbers, fd_bars_numbers, G_bars_numbers, m_bars_numbers, k_bars_numbers, b_bars_numbers⟩ := C5.ex
  obtain ⟨f_Reader_take, fd_Reader_take, G_Reader_take, h_Reader_take, b_Reader_take⟩ := R.take.ex
  obtain ⟨f_Reader_take_row, fd_Reader_take_row, G_Reader_take_row, h_Reader_take_row, b_Reader_take_row⟩ := R.row.ex
  obtain ⟨f_Reader_init, fd_Reader_init, M_Reader, G_Reader_init, b_Reader_init⟩ := R.init
  refine D.cal (D.fn.ok sc_answer_back (fun vs H Q E h => ?_) (fun cdv A outer s H vs Q E hr h => ?_))
  · obtain ⟨e, sl, l, S, l', S', out, rfl, _⟩ := h
    rfl
  · obtain ⟨e, sl, l, S, l', S', out, rfl, W0, ⟨m, row, ps, rfl, hin, eS, eO⟩, hbig, q⟩ := h
    refine ⟨_, (pss_cons (ps_set (i := 2) sc_answer_back.nd rfl (Or.inl rfl) (pe_meth0 (pv 1) R.cl h_Reader_take G_Reader_take (hr.mono (by decide)) b_Reader_take .nil pass0))
      (pss_cons (ps_set (i := 3) sc_answer_back.nd rfl (Or.inl rfl) (pe_call G_read_pieces (hr.mono (by decide)) rfl m_read_pieces k_read_pieces b_read_pieces .nil pass0 (pa_cons (pe_make M_Reader G_Reader_init (hr.mono (by decide)) rfl R.gC b_Reader_init .nil pass0 (pa_cons (pe_meth0 (pv 1) R.cl h_Reader_take_row G_Reader_take_row (hr.mono (by decide)) b_Reader_take_row .nil pass0) pa_nil)) pa_nil)))
      (pss_cons (ps_if (PW.pt (pw_or (pt_cmpR op_lt (pv 2) pe_int (nomark _)) (pw_or (pt_cmpR op_gt (pv 2) (pe_gi rfl g_MOST_STAVES) (nomark _)) (pw_or1 (pt_not (pt_val (pe_call G_part_as_told (hr.mono (by decide)) rfl m_part_as_told k_part_as_told b_part_as_told .nil pass0 (pa_cons (pv 0) (pa_cons (pv 2) (pa_cons (pv 3) pa_nil))))))))))
        (pss_one (ps_ret (pe_lst (pa_cons (pe_un un_neg pe_int) pa_nil))))
        pss_nil)
      (pss_cons (ps_set (i := 4) sc_answer_back.nd rfl (Or.inl rfl) (pe_call G_put_back (hr.mono (by decide)) rfl m_put_back k_put_back b_put_back .nil pass0 (pa_cons (pv 0) (pa_cons (pv 2) (pa_cons (pv 3) pa_nil)))))
      (pss_one (ps_ret (pe_call G_with_lists (hr.mono (by decide)) rfl m_with_lists k_with_lists b_with_lists .nil pass0 (pa_cons (pv 2) (pa_cons (pe_lc (own := [("bars", 5)]) rfl sc_answer_back.nd (pi_list (pv 4)) (blkOk_by (own := [("bars", 5)]) (N := ["score", "reader", "staff_count", "pieces", "staves", "bars"]) (sc := defScope s_answer_back) (by decide +kernel)) (fun _ _ _ _ _ => (pg_name (i := 5) sc_answer_back.nd rfl (Or.inl rfl))) (fun _ _ _ _ _ => pts_nil) (fun _ _ _ _ _ => (pe_call G_bars_numbers (hr.mono (by decide)) rfl m_bars_numbers k_bars_numbers b_bars_numbers .nil pass0 (pa_cons (pv 5) pa_nil)))) pa_nil))))))))), ?_⟩
    obtain ⟨dx0, p0, hr0, _⟩ := id W0.rd
    refine ⟨_, rfl, e.r, dx0, _, rfl, hr0, rdF_no _ _ (by decide +kernel) (by decide +kernel), e.r, _, _, _, _, rfl, W0.rdAt, fun H1 R1 f1 => ?_⟩
    have W1 := W0.reads R1 f1
    obtain ⟨dx1, p1, hr1, _⟩ := id R1
    refine ⟨_, rfl, e.r, dx1, _, rfl, hr1, rdF_no _ _ (by decide +kernel) (by decide +kernel), e.r, _, _, row, _, rfl, W1.rdAt, fun H2 z2 R2 f2 nz2 hz2 => ?_⟩
    have W2 := W1.reads R2 f2
    have none2 : ∀ c, H2 c = none → H c = none := fun c z => by
      obtain ⟨dx9, fs9, h9⟩ := R2.ins
      exact fr_none h9 (f1.trans f2) c z
    refine fun r2 dx2 nr2 ndx2 ne2 => ?_
    refine ⟨r2, dx2, z2, row, rfl, upd_same, ((same_upd ndx2).trans (same_upd (by rw [upd_ne (fun e => ne2 e.symm)]; exact nr2))).seq (SqL.of hz2), fun HI RI fI => ⟨rfl, ?_⟩⟩
    have sHI := made nr2 ndx2 ne2 fI
    refine ⟨r2, z2, row, row, ps, [], rfl, ⟨RI, sHI.seq (SqL.of hz2)⟩, hin, fun H3 u R3 f3 hu0 => ?_⟩
    have s3 : Same H2 H3 := fun b o e => f3 _ _ (sHI b o e) (ne_of_none e nr2)
    have hu : ListAt (PieceAt CP) H3 u ps := listAt_mono pieceAt_mono _ _ _ _ (new_in HI H3) hu0
    have W3 := W2.same s3
    have f03 : FrW e sl H H3 := (frW_r (f1.trans f2)).trans (frW_same s3)
    obtain ⟨G, hG⟩ := id W3.sc
    obtain ⟨vsl, hsl⟩ := id W3.slL
    rw [step_back] at eS eO
    have bad : (m < 1 ∨ 8 < m ∨ Sw71.pieceOk S m 0 ps = false) → ∀ Hx p, Same H3 Hx → Hx p = none → Q (.ref p) (upd Hx p (.lst [V.int (-1)])) := fun b Hx p sx np => by
      rw [if_pos b] at eS eO
      subst eS eO
      have sp := same_upd (o := .lst [V.int (-1)]) np
      exact q _ p sl ((W3.same sx).same sp) (f03.trans (frW_same (sx.trans sp))) ⟨_, sp _ _ (sx _ _ hsl)⟩ (.inl rfl) (none2 p (s3.free (sx.free np))) upd_same
    refine ⟨_, rfl, _, _, rfl, rfl, _, rfl, ?_⟩
    by_cases c1 : m < 1
    · refine iteT_of (decide_eq_true (by omega)) ?_
      exact ⟨_, rfl, by show 1 ≤ sizeLine; decide, fun p np => bad (.inl c1) _ p (Same.refl H3) np⟩
    refine iteF_of (decide_eq_false (by omega)) ?_
    refine ⟨_, rfl, _, _, rfl, rfl, _, rfl, ?_⟩
    by_cases c2 : 8 < m
    · refine iteT_of (decide_eq_true (by omega)) ?_
      exact ⟨_, rfl, by show 1 ≤ sizeLine; decide, fun p np => bad (.inr (.inl c2)) _ p (Same.refl H3) np⟩
    refine iteF_of (decide_eq_false (by omega)) ?_
    refine ⟨_, rfl, _, rfl, _, rfl, G, e.s, sl, e.t, S, m, u, ps, rfl, hG, hu, listIn_all (fun _ _ _ h => piece_short h) hin, fun H4 s4 => ⟨_, rfl, ?_⟩⟩
    cases c3 : Sw71.pieceOk S m 0 ps with
    | false =>
      refine iteT_of rfl ?_
      exact ⟨_, rfl, by show 1 ≤ sizeLine; decide, fun p np => bad (.inr (.inr c3)) _ p s4 np⟩
    | true =>
      refine iteF_of rfl ?_
      rw [if_neg (by rw [c3]; intro z; rcases z with z | z | z; exact c1 z; exact c2 z; cases z)] at eS eO
      have eS3 : S = S' := eS.symm
      subst eS3
      rw [putBack_length] at eO
      refine ⟨_, rfl, _, rfl, _, rfl, G, e.s, sl, e.t, S, m, u, ps, rfl, hG.same s4, W3.good, listAt_mono pieceAt_mono _ _ _ _ s4 hu, c3, by omega, fun H5 us s5 hus => ?_⟩
      obtain ⟨ua, uxs, rfl, hua, hup⟩ := hus
      generalize hst : Sw71.putBack S.bars m ps = staves at eO hup
      have hstl : staves.length = m := by rw [← hst]; exact putBack_length _ _ _
      have hbig2 : (Sw71Neutral.out ⟨(m : Nat), staves.map Sw71.staffOut⟩).length ≤ 1000000 := eO ▸ hbig
      refine ⟨_, rfl, _, rfl, ua, rfl, ⟨_, SqL.of hua⟩, fun L nL => lc_list (K := K) (a := ua) (xs := uxs) (fun j H' => ∃ vs, Same H5 H' ∧ (∀ c, H' c = none → (upd H5 L (.lst [])) c = none) ∧ H' L = some (.lst vs) ∧ Paired (NumsAt (Grow Hp0 (upd H5 L (.lst [])) H')) vs ((staves.take j).map Sw71.staffOut))
        ⟨[], same_upd nL, fun c h => h, upd_same, .nil⟩ (fun j H' _ ⟨_, s6, _⟩ => SqL.of (s6 _ _ hua)) ?_ ?_⟩
      · have pL : (upd H5 L (.lst [])) L = some (.lst []) := upd_same
        generalize hH6 : upd H5 L (.lst []) = H6 at pL ⊢
        rintro j y Hi hj ⟨vs, si, ni, hL, pr⟩
        obtain ⟨st, hst1, hsta⟩ := paired_at hup hj
        have lj := lt_of_at hst1
        refine ⟨rfl, lc_yes ?_⟩
        refine ⟨_, rfl, y, st, rfl, barsAt_mono _ _ _ _ si hsta, ?_, fun Hk z sk nz hz => ?_⟩
        · exact Nat.le_trans (Nat.le_trans (out_row (m : Nat) (staves.map Sw71.staffOut) _ (List.mem_map.mpr ⟨st, List.mem_of_getElem? hst1, rfl⟩)) hbig2) (by decide)
        refine ⟨vs, sk _ _ hL, small1000 (by rw [pr.length, List.length_map, List.length_take]; omega), vs ++ [.ref z], fun c o w => ?_, fun c w => ?_, upd_same, ?_⟩
        · rw [upd_ne (ne_of_none w nL)]; exact sk _ _ (si _ _ w)
        · by_cases v : c = L
          · subst v; rw [upd_same] at w; cases w
          · rw [upd_ne v] at w; exact ni c (sk.free w)
        · rw [snoc_take hst1, List.map_append]
          have nzL : z ≠ L := fun w => by subst w; rw [hL] at nz; cases nz
          have k1 : Same (Grow Hp0 H6 Hi) (Grow Hp0 H6 (upd Hk L (.lst (vs ++ [.ref z])))) := grow_mono fun a o y1 y2 _ => by
            rw [upd_ne (fun z => by subst z; rw [pL] at y1; cases y1)]
            exact sk _ _ y2
          exact Paired.snoc (Paired.mono (fun _ _ h => numsAt_mono _ _ _ _ k1 h) pr) ⟨z, rfl, grow_at (ni z nz) (by rw [upd_ne nzL]; exact hz) rfl⟩
      · rintro H7 ⟨vs, si, ni, hL, pr⟩
        rw [hup.length, List.take_length] at pr
        subst eO
        refine ⟨(m : Nat), .ref L, staves.map Sw71.staffOut, rfl, ⟨L, vs, rfl, hL, Paired.mono (fun _ _ h => numsAt_mono _ _ _ _ (grow_in (same0 _)) h) pr⟩, Nat.le_trans hbig2 (by decide), fun H8 p s8 np hp => ?_⟩
        have s38 := ((s4.trans s5).trans si).trans s8
        exact q _ p sl (W3.same s38) (f03.trans (frW_same s38)) ⟨_, s38 _ _ hsl⟩ (.inl rfl) (none2 p (s3.free (((s4.trans s5).trans si).free np))) hp
end
end Ps

namespace Ps
open PySem PySem.Spec PyProof.Rows L2
section
variable {P : Program} {w : World} {K : PySem.W.Frag} {mg : Str → Option Value} {base : Heap}
/-! ### what a LinedBar has -/
def lbF (k b : V) : List (Str × V) := [("label", k), ("lines", b)]
theorem lbF_k (k b : V) : (lbF k b).lookup ("label" : Str) = some k := lk_here
theorem lbF_b (k b : V) : (lbF k b).lookup ("lines" : Str) = some b := (lk_past (by decide +kernel)).trans lk_here
theorem lbF_new (k b : V) : putF "lines" b (putF "label" k []) = lbF k b := (put_past (by decide +kernel)).trans rfl
structure TxtLb (K : PySem.W.Frag) (C : Addr) : Prop where
  cl : Cls K C
  nA : NoAttr K C "label"
  nI : NoAttr K C "lines"
def LinedAt (C : Addr) (G : Hp) (v : V) (x : Sw71.Both) : Prop := ∃ a dx bv, v = .ref a ∧ G a = some (.ins C dx (lbF (.int (x.label : Nat)) bv)) ∧ BarsAt G bv x.lines
theorem linedAt_mono {C : Addr} : Mono (LinedAt C) := fun _ _ _ _ s h => by
  obtain ⟨a, dx, bv, e, h1, h2⟩ := h
  exact ⟨a, dx, bv, e, s _ _ h1, barsAt_mono _ _ _ _ s h2⟩
def sp_lb_init (C : Addr) : Sp := fun vs H Q _ => ∃ (s dx : Addr) (k b : V), vs = [.ref s, k, b] ∧ H s = some (.ins C dx []) ∧
  ∀ H', H' s = some (.ins C dx (lbF k b)) → Fr s H H' → Q .non H'
theorem ok_lb_init {C f : Addr} {fd : FuncData} (F : Fun K "__init__" "LinedBar.__init__" s_LinedBar_init f fd) (T : TxtLb K C) : FnOk P w K mg base CX0 1 f fd ["self", "label", "lines"] (sp_lb_init C) := by
  refine F.ok sc_LinedBar_init (fun vs H Q E h => ?_) (fun cdv A outer s H vs Q E hr h => ?_)
  · obtain ⟨s0, dx, k, b, rfl, _⟩ := h
    rfl
  · obtain ⟨s0, dx, k, b, rfl, h1, q⟩ := h
    refine ⟨_, (pss_cons (ps_fld (pv 0) (pv 1) rfl)
      (pss_one (ps_fld (pv 0) (pv 2) rfl))), ?_⟩
    refine ⟨_, rfl, _, rfl, s0, C, dx, [], rfl, h1, T.cl, T.nA, (by show 0 < 1000; decide), ?_⟩
    refine ⟨_, rfl, _, rfl, s0, C, dx, _, rfl, upd_same, T.cl, T.nI, (by show 1 < 1000; decide), ?_⟩
    refine q _ ?_ (fr_upd.trans fr_upd)
    rw [upd_same, lbF_new]
/-- the class LinedBar as callers have it -/
structure LbC (P : Program) (w : World) (K : PySem.W.Frag) (mg : Str → Option Value) (base : Heap) (C : Addr) : Prop where
  txt : TxtLb K C
  init : ∃ fI fd, Mk K C fI ∧ FnOk P w K mg base CX0 1 fI fd ["self", "label", "lines"] (sp_lb_init C) ∧ Binds K fd ["self", "label", "lines"] []
  gC : mg "LinedBar" = some (.ref C)
/-! ### read_lined_bar -/
open Sw71Neutral in
theorem bothIn_some {l l' : List Int} {x : Sw71.Both} (h : bothIn l = some (x, l')) : ∃ l1, l = (x.label : Int) :: l1 ∧ listIn barIn l1 = some (x.lines, l') := by
  have h : ((natIn l).bind fun n => (listIn barIn n.2).map fun b => ((⟨n.1, b.1⟩ : Sw71.Both), b.2)) = some (x, l') := h
  cases e : natIn l with
  | none => rw [e] at h; cases h
  | some n =>
    obtain ⟨n, l1⟩ := n
    rw [e] at h
    have h : ((listIn barIn l1).map fun b => ((⟨n, b.1⟩ : Sw71.Both), b.2)) = some (x, l') := h
    cases e2 : listIn barIn l1 with
    | none => rw [e2] at h; cases h
    | some b =>
      obtain ⟨b, l2⟩ := b
      rw [e2] at h
      have h : some ((⟨n, b⟩ : Sw71.Both), l2) = some (x, l') := h
      cases h
      exact ⟨l1, (natIn_some e).1, e2⟩
def sp_read_lined_bar (K : PySem.W.Frag) (C CL : Addr) : Sp := fun vs H Q _ => ∃ r a ns l x l', vs = [.ref r] ∧ RdAt K C H r a ns l ∧ Sw71Neutral.bothIn l = some (x, l') ∧
  ∀ H' u, RdP C H' r a ns l' → Fr r H H' → LinedAt CL (NewIn H H') u x → Q u H'
theorem ok_read_lined_bar {C CL f : Addr} {fd : FuncData} (D : Dn K mg "read_lined_bar" s_read_lined_bar ["reader"] f fd) (R : RdC P w K mg base C) (T : LbC P w K mg base CL)
    (C2 : Cal P w K mg base "read_bars" 4 ["reader"] (sp_read_bars K C)) : Cal P w K mg base "read_lined_bar" 5 ["reader"] (sp_read_lined_bar K C CL) := by
  obtain ⟨f_Reader_take, fd_Reader_take, G_Reader_take, h_Reader_take, b_Reader_take⟩ := R.take.ex
  obtain ⟨f_LinedBar_init, fd_LinedBar_init, M_LinedBar, G_LinedBar_init, b_LinedBar_init⟩ := T.init
  obtain ⟨f_read_bars, fd_read_bars, G_read_bars, m_read_bars, k_read_bars, b_read_bars⟩ := C2.ex
  refine D.cal (D.fn.ok sc_read_lined_bar (fun vs H Q E h => ?_) (fun cdv A outer s H vs Q E hr h => ?_))
  · obtain ⟨r, a, ns, l, bars, l', rfl, _⟩ := h
    rfl
  · obtain ⟨r, a, ns, l, x, l', rfl, hR, hin, q⟩ := h
    refine ⟨_, (pss_cons (ps_set (i := 1) sc_read_lined_bar.nd rfl (Or.inl rfl) (pe_meth0 (pv 0) R.cl h_Reader_take G_Reader_take (hr.mono (by decide)) b_Reader_take .nil pass0))
      (pss_one (ps_ret (pe_make M_LinedBar G_LinedBar_init (hr.mono (by decide)) rfl T.gC b_LinedBar_init .nil pass0 (pa_cons (pv 1) (pa_cons (pe_call G_read_bars (hr.mono (by decide)) rfl m_read_bars k_read_bars b_read_bars .nil pass0 (pa_cons (pv 0) pa_nil)) pa_nil)))))), ?_⟩
    obtain ⟨l1, el, hb⟩ := bothIn_some hin
    obtain ⟨⟨dx0, p0, hr0, _⟩, hS⟩ := id hR
    have R0 : RdAt K C H r a ns ((x.label : Int) :: l1) := el ▸ hR
    refine ⟨_, rfl, r, dx0, _, rfl, hr0, rdF_no _ _ (by decide +kernel) (by decide +kernel), r, a, _, _, _, rfl, R0, fun H1 R1 f1 => ?_⟩
    obtain ⟨dx1, p1, hr1, _⟩ := id R1
    refine ⟨_, rfl, _, rfl, r, a, ns, l1, _, l', rfl, hR.on f1 R1, hb, fun H2 u R2 f2 hu => ?_⟩
    obtain ⟨dx2, p2, hr2, _⟩ := id R2
    refine fun p dxp np nd ne => ⟨p, dxp, _, _, rfl, upd_same, fun H5 h5 f5 => ⟨rfl, ?_⟩⟩
    have s5 := made np nd ne f5
    have f12 := f1.trans f2
    refine q _ _ (R2.at fun o e => s5 _ _ e) (f12.trans (same_fr s5 r)) ⟨p, dxp, u, rfl, new_at (fr_none hr2 f12 p np) h5, ?_⟩
    exact barsAt_mono _ _ _ _ (((new_grow _ _).trans (new_later fun c z => fr_none hr1 f1 c z)).trans (new_mono fun b o _ e => s5 _ _ e)) hu
/-! ### read_lined_bars -/
def sp_read_lined_bars (K : PySem.W.Frag) (C CL : Addr) : Sp := fun vs H Q _ => ∃ r a ns l bars l', vs = [.ref r] ∧ RdAt K C H r a ns l ∧ Sw71Neutral.listIn Sw71Neutral.bothIn l = some (bars, l') ∧
  ∀ H' u, RdP C H' r a ns l' → Fr r H H' → ListAt (LinedAt CL) (NewIn H H') u bars → Q u H'
theorem ok_read_lined_bars {C CL f : Addr} {fd : FuncData} (n_range : mg "range" = none) (D : Dn K mg "read_lined_bars" s_read_lined_bars ["reader"] f fd) (R : RdC P w K mg base C)
    (C1 : Cal P w K mg base "read_lined_bar" 5 ["reader"] (sp_read_lined_bar K C CL)) : Cal P w K mg base "read_lined_bars" 6 ["reader"] (sp_read_lined_bars K C CL) := by
  obtain ⟨f_Reader_take, fd_Reader_take, G_Reader_take, h_Reader_take, b_Reader_take⟩ := R.take.ex
  obtain ⟨f_read_lined_bar, fd_read_lined_bar, G_read_lined_bar, m_read_lined_bar, k_read_lined_bar, b_read_lined_bar⟩ := C1.ex
  refine D.cal (D.fn.ok sc_read_lined_bars (fun vs H Q E h => ?_) (fun cdv A outer s H vs Q E hr h => ?_))
  · obtain ⟨r, a, ns, l, bars, l', rfl, _⟩ := h
    rfl
  · obtain ⟨r, a, ns, l, bars, l', rfl, hR, hin, q⟩ := h
    obtain ⟨n, l1, el, hn, hm⟩ := listIn_some hin
    subst el
    refine ⟨_, (pss_one (ps_ret (pe_lc (own := [("turn", 1)]) rfl sc_read_lined_bars.nd (pi_range1 (by rfl) n_range (pa_cons (pe_meth0 (pv 0) R.cl h_Reader_take G_Reader_take (hr.mono (by decide)) b_Reader_take .nil pass0) pa_nil)) (blkOk_by (own := [("turn", 1)]) (N := ["reader", "turn"]) (sc := defScope s_read_lined_bars) (by decide +kernel)) (fun _ _ _ _ _ => (pg_name (i := 1) sc_read_lined_bars.nd rfl (Or.inl rfl))) (fun _ _ _ _ _ => pts_nil) (fun _ _ _ _ _ => (pe_call G_read_lined_bar (hr.mono (by decide)) rfl m_read_lined_bar k_read_lined_bar b_read_lined_bar .nil pass0 (pa_cons (pv 0) pa_nil)))))), ?_⟩
    obtain ⟨⟨dx2, p2, hr2, _⟩, hS⟩ := id hR
    refine ⟨_, rfl, r, dx2, _, rfl, hr2, rdF_no _ _ (by decide +kernel) (by decide +kernel), r, a, _, _, _, rfl, hR, fun H3 R3 f3 => ?_⟩
    obtain ⟨dx3, p3, hr3, _⟩ := id R3
    have hS3 := (hR.on f3 R3).2
    refine ⟨n, rfl, by omega, by omega, fun L nL => lc_range (lo := 0) (n := (n : Int).toNat) (fun i H' => ∃ (vs : List V) (done rest : List Sw71.Both) (li : List Int),
      Sw71Neutral.many_ Sw71Neutral.bothIn (n - i) li = some (rest, l') ∧ bars = done ++ rest ∧ RdP C H' r a ns li ∧ H' L = some (.lst vs) ∧ Fr2 r L (upd H3 L (.lst [])) H' ∧ Paired (LinedAt CL (NewIn (upd H3 L (.lst [])) H')) vs done ∧ done.length = i)
      ⟨[], [], bars, l1, hm, rfl, R3.at (fun o e => same_upd nL _ _ e), upd_same, fun c o e _ _ => e, .nil, rfl⟩ ?_ ?_⟩
    · have nLr : r ≠ L := ne_of_none hr3 nL
      have pL : (upd H3 L (.lst [])) L = some (.lst []) := upd_same
      have hrL : (upd H3 L (.lst [])) r = some (.ins C dx3 (rdF (.ref a) p3)) := by rw [upd_ne nLr]; exact hr3
      have n34 : ∀ c o, H3 c = some o → c ≠ L → (upd H3 L (.lst [])) c = some o := fun c o e z => by rw [upd_ne z]; exact e
      generalize hH4 : upd H3 L (.lst []) = H4 at pL hrL n34 ⊢
      rintro i H' hi ⟨vs, done, rest, li, hm', eb, R', hp', fr, pr, eLen⟩
      have hi : i < n := by simpa using hi
      obtain ⟨k, hk⟩ : ∃ k, n - i = k + 1 := ⟨n - i - 1, by omega⟩
      rw [hk] at hm'
      obtain ⟨x, l2, rest', hx, hm2, er⟩ := many_step hm'
      obtain ⟨dxi, pi, hri, _⟩ := id R'
      have hS' : SqL K H' a (ns.map V.int) := sqL_fr2 hS3 hr3 nL fun c o e n1 n2 => fr _ _ (n34 _ _ e n2) n1 n2
      refine ⟨rfl, ?_⟩
      refine lc_yes ?_
      refine ⟨_, rfl, r, a, _, li, x, l2, rfl, ⟨R', hS'⟩, hx, fun HA u RA fA hu => ?_⟩
      obtain ⟨dxA, pA, hrA, _⟩ := id RA
      have hLA : HA L = some (.lst vs) := fA _ _ hp' nLr.symm
      refine ⟨vs, hLA, line_big (by rw [pr.length, eLen]; omega), vs ++ [u], done ++ [x], rest', l2, ?_, ?_, RA.at (fun o e => by rw [upd_ne nLr]; exact e), upd_same, fr2_frp (fr2_fr fr fA) fr_upd, ?_, ?_⟩
      · rw [show n - (i + 1) = k by omega]; exact hm2
      · rw [eb, er, List.append_assoc]; rfl
      · have nz : ∀ c, H' c = none → H4 c = none := fr2_none fr hri hp'
        have mono1 : Same (NewIn H4 H') (NewIn H4 (upd HA L (.lst (vs ++ [u])))) := new_mono fun c o e1 e2 => by
          have c1 : c ≠ r := fun z => by subst z; rw [hrL] at e1; cases e1
          have c2 : c ≠ L := fun z => by subst z; rw [pL] at e1; cases e1
          rw [upd_ne c2]
          exact fA _ _ e2 c1
        have mono2 : Same (NewIn H' HA) (NewIn H4 (upd HA L (.lst (vs ++ [u])))) := (new_mono fun c o e1 e2 => by
          have c2 : c ≠ L := fun z => by subst z; rw [hp'] at e1; cases e1
          rw [upd_ne c2]
          exact e2).trans (new_later nz)
        exact Paired.snoc (Paired.mono (fun _ _ h => linedAt_mono _ _ _ _ mono1 h) pr) (linedAt_mono _ _ _ _ mono2 hu)
      · rw [List.length_append, eLen]; rfl
    · rintro H' ⟨vs, done, rest, li, hm', eb, R', hp', fr, pr, eLen⟩
      rw [show n - (n : Int).toNat = 0 by simp] at hm'
      obtain ⟨e1, e2⟩ := many_zero hm'
      subst e1 e2
      rw [List.append_nil] at eb
      subst eb
      have nLH : H L = none := fr_none hr3 f3 L nL
      have fL : Fr r H H' := fun b o e c => fr _ _ (by rw [upd_ne (ne_of_none e nLH)]; exact f3 _ _ e c) c (ne_of_none e nLH)
      refine q _ _ R' fL ⟨L, vs, rfl, new_at nLH hp', ?_⟩
      refine Paired.mono (fun _ _ h => linedAt_mono _ _ _ _ (new_later fun c e => ?_) h) pr
      by_cases c1 : c = L
      · subst c1; exact nLH
      · rw [upd_ne c1] at e
        exact fr_none hr3 f3 c e
/-! ### lined_bar_numbers -/
theorem bothOut_eq (x : Sw71.Both) : Sw71.bothOut x = x.label :: x.lines.length :: Sw71.staffOut x.lines := rfl
def sp_lined_bar_numbers (CL : Addr) : Sp := fun vs H Q _ => ∃ v x, vs = [v] ∧ LinedAt CL H v x ∧ (Sw71.bothOut x).length ≤ 1000000 ∧
  ∀ H' p, Same H H' → H p = none → H' p = some (.lst (nV (Sw71.bothOut x))) → Q (.ref p) H'
theorem ok_lined_bar_numbers {CL f : Addr} {fd : FuncData} (n_len : mg "len" = none) (D : Dn K mg "lined_bar_numbers" s_lined_bar_numbers ["lined"] f fd) (T : TxtLb K CL) (C1 : Cal P w K mg base "bars_numbers" 2 ["bars"] sp_bars_numbers) :
    Cal P w K mg base "lined_bar_numbers" 3 ["lined"] (sp_lined_bar_numbers CL) := by
  obtain ⟨f_bars_numbers, fd_bars_numbers, G_bars_numbers, m_bars_numbers, k_bars_numbers, b_bars_numbers⟩ := C1.ex
  refine D.cal (D.fn.ok sc_lined_bar_numbers (fun vs H Q E h => ?_) (fun cdv A outer s H vs Q E hr h => ?_))
  · obtain ⟨v, x, rfl, _⟩ := h
    rfl
  · obtain ⟨v, x, rfl, ⟨a, dx, bv, rfl, ha, hbv⟩, hbig, q⟩ := h
    obtain ⟨z, bvs, rfl, hz, hpz⟩ := id hbv
    refine ⟨_, (pss_one (ps_ret (pe_op op_cat (pe_lst (pa_cons (pe_fld (pv 0) rfl) (pa_cons (pe_callB call_len_seq (by rfl) n_len PySem.boot_len (pa_cons (pe_fld (pv 0) rfl) pa_nil)) pa_nil))) (pe_call G_bars_numbers (hr.mono (by decide)) rfl m_bars_numbers k_bars_numbers b_bars_numbers .nil pass0 (pa_cons (pe_fld (pv 0) rfl) pa_nil))))), ?_⟩
    rw [bothOut_eq, List.length_cons, List.length_cons] at hbig
    refine ⟨_, rfl, a, CL, dx, _, _, rfl, ha, T.cl, T.nA, lbF_k _ _, _, rfl, a, CL, dx, _, _, rfl, ha, T.cl, T.nI, lbF_b _ _, z, _, rfl, .inl (SqL.of hz), by show 2 ≤ sizeLine; decide, fun p1 np1 => ?_⟩
    have s1 := same_upd (o := .lst [V.int (x.label : Nat), V.int (bvs.length : Nat)]) np1
    refine ⟨_, rfl, a, CL, dx, _, _, rfl, s1 _ _ ha, T.cl, T.nI, lbF_b _ _, .ref z, x.lines, rfl, barsAt_mono _ _ _ _ s1 hbv, by omega, fun H3 y s3 ny hy => ?_⟩
    refine ⟨p1, y, _, _, rfl, rfl, s3 _ _ upd_same, hy, Nat.le_of_lt (line_big (by rw [nV_length]; show 2 + _ ≤ _; omega)), fun p np => ?_⟩
    refine q _ p ((s1.trans s3).trans (same_upd np)) (s1.free (s3.free np)) ?_
    rw [upd_same, bothOut_eq, hpz.length]; rfl
end
end Ps

namespace Ps
open PySem PySem.Spec PyProof.Rows L2
section
variable {P : Program} {w : World} {K : PySem.W.Frag} {mg : Str → Option Value} {base : Heap}
/-! ### items_chord -/
def chordK (ks ls : List Nat) : Bool := (ks.isEmpty && ls.isEmpty) || (match ks, ls with
  | [a], [b] => decide (b < a)
  | _, _ => false)
theorem chord_eq (x y : Sw71.Item) : Sw71.chord x y = (x.long == y.long && chordK x.keys y.keys) := rfl
def sp_items_chord : Sp := fun vs H Q _ => ∃ u v x y, vs = [u, v] ∧ ItemAt H u x ∧ ItemAt H v y ∧ Q (.bl (Sw71.chord x y)) H
theorem ok_items_chord {f : Addr} {fd : FuncData} (n_len : mg "len" = none) (D : Dn K mg "items_chord" s_items_chord ["first", "second"] f fd) : Cal P w K mg base "items_chord" 1 ["first", "second"] sp_items_chord := by
  refine D.cal (D.fn.ok sc_items_chord (fun vs H Q E h => ?_) (fun cdv A outer s H vs Q E hr h => ?_))
  · obtain ⟨u, v, x, y, rfl, _⟩ := h
    rfl
  · obtain ⟨u, v, x, y, rfl, ⟨t1, k1, rfl, h1, ⟨l1, rfl, g1⟩⟩, ⟨t2, k2, rfl, h2, ⟨l2, rfl, g2⟩⟩, q⟩ := h
    refine ⟨_, (pss_cons (ps_if (pt_cmpR op_ne (pe_ix ix_tup (pv 0) pe_int (fun _ _ => rfl)) (pe_ix ix_tup (pv 1) pe_int (fun _ _ => rfl)) (nomark _))
        (pss_one (ps_ret pe_bl))
        pss_nil)
      (pss_cons (ps_if (PW.pt (pw_and (pt_not (pt_truth (pe_ix ix_tup (pv 0) pe_int (fun _ _ => rfl)) (by intro _; rfl))) (pw_and1 (pt_not (pt_truth (pe_ix ix_tup (pv 1) pe_int (fun _ _ => rfl)) (by intro _; rfl))))))
        (pss_one (ps_ret pe_bl))
        pss_nil)
      (pss_one (ps_ret (pe_and (pe_cmpR op_eq (pe_callB call_len_seq (by rfl) n_len PySem.boot_len (pa_cons (pe_ix ix_tup (pv 0) pe_int (fun _ _ => rfl)) pa_nil)) pe_int (nomark _)) (pe_and (pe_cmpR op_eq (pe_callB call_len_seq (by rfl) n_len PySem.boot_len (pa_cons (pe_ix ix_tup (pv 1) pe_int (fun _ _ => rfl)) pa_nil)) pe_int (nomark _)) (pe_one (pe_cmpR op_gt (pe_ix ix_list (pe_ix ix_tup (pv 0) pe_int (fun _ _ => rfl)) pe_int (fun _ _ => rfl)) (pe_ix ix_list (pe_ix ix_tup (pv 1) pe_int (fun _ _ => rfl)) pe_int (fun _ _ => rfl)) (nomark _))))))))), ?_⟩
    rw [chord_eq] at q
    refine ⟨_, rfl, t1, _, _, _, rfl, rfl, SqT.of h1, at_of (j := 0) rfl rfl, _, rfl, t2, _, _, _, rfl, rfl, SqT.of h2, at_of (j := 0) rfl rfl, rfl, _, rfl, ?_⟩
    by_cases c : x.long = y.long
    case neg =>
      refine iteT_of (by
        show (!decide (V.int (x.long : Int) = V.int (y.long : Int))) = true
        rw [decide_eq_false (fun z => c (by injection z with z; exact Int.ofNat.inj z))]; rfl) ?_
      have e : (x.long == y.long) = false := beq_eq_false_iff_ne.mpr c
      rw [e, Bool.false_and] at q
      exact q
    refine iteF_of (by
      show (!decide (V.int (x.long : Int) = V.int (y.long : Int))) = false
      rw [decide_eq_true (by rw [c])]; rfl) ?_
    rw [beq_iff_eq.mpr c, Bool.true_and] at q
    generalize x.keys = ks at q g1
    generalize y.keys = ls at q g2
    refine ⟨_, rfl, t1, _, _, _, rfl, rfl, SqT.of h1, at_of (j := 1) rfl rfl, _, .inl ⟨_, SqL.of g1, rfl⟩, ?_⟩
    cases ks with
    | nil =>
      refine iteT_of rfl ?_
      refine ⟨_, rfl, t2, _, _, _, rfl, rfl, SqT.of h2, at_of (j := 1) rfl rfl, _, .inl ⟨_, SqL.of g2, rfl⟩, ?_⟩
      cases ls with
      | nil =>
        refine iteT_of rfl ?_
        exact q
      | cons b r =>
        refine iteF_of rfl ?_
        refine ⟨_, rfl, t1, _, _, _, rfl, rfl, SqT.of h1, at_of (j := 1) rfl rfl, l1, _, rfl, .inl (SqL.of g1), rfl, _, rfl, iteF_of rfl ?_⟩
        exact q
    | cons a r =>
      refine iteF_of rfl (iteF ?_)
      refine ⟨_, rfl, t1, _, _, _, rfl, rfl, SqT.of h1, at_of (j := 1) rfl rfl, l1, _, rfl, .inl (SqL.of g1), rfl, _, rfl, ?_⟩
      cases r with
      | cons a2 r =>
        refine iteF_of (decide_eq_false (fun z => by
          injection z with z
          rw [nV_length, List.length_cons, List.length_cons] at z
          omega)) ?_
        exact q
      | nil =>
        refine iteT_of rfl ?_
        refine ⟨_, rfl, t2, _, _, _, rfl, rfl, SqT.of h2, at_of (j := 1) rfl rfl, l2, _, rfl, .inl (SqL.of g2), rfl, _, rfl, ?_⟩
        cases ls with
        | nil =>
          refine iteF_of rfl ?_
          exact q
        | cons b r =>
          cases r with
          | cons b2 r =>
            refine iteF_of (decide_eq_false (fun z => by
              injection z with z
              rw [nV_length, List.length_cons, List.length_cons] at z
              omega)) ?_
            exact q
          | nil =>
            refine iteT_of rfl ?_
            refine ⟨_, rfl, t1, _, _, _, rfl, rfl, SqT.of h1, at_of (j := 1) rfl rfl, l1, _, _, _, rfl, rfl, SqL.of g1, at_of (j := 0) rfl rfl, _, rfl, t2, _, _, _, rfl, rfl, SqT.of h2, at_of (j := 1) rfl rfl, l2, _, _, _, rfl, rfl, SqL.of g2, at_of (j := 0) rfl rfl, _, _, rfl, rfl, ?_⟩
            have e : chordK [a] [b] = decide ((b : Int) < (a : Int)) := by
              show (false || decide (b < a)) = _
              rw [Bool.false_or]
              by_cases c : b < a
              · rw [decide_eq_true c, decide_eq_true (by omega)]
              · rw [decide_eq_false c, decide_eq_false (by omega)]
            rw [e] at q
            exact q
/-! ### bars_chord -/
def barsChord (a b : Sw71.Bar) : Bool := decide (a.length = b.length) && (a.zip b).all fun x => Sw71.chord x.1 x.2
def sp_bars_chord : Sp := fun vs H Q _ => ∃ u v a b, vs = [u, v] ∧ BarAt H u a ∧ BarAt H v b ∧ a.length ≤ 1000 ∧ ∀ H', Same H H' → Q (.bl (barsChord a b)) H'
theorem ok_bars_chord {f : Addr} {fd : FuncData} (n_len : mg "len" = none) (n_all : mg "all" = none) (n_zip : mg "zip" = none) (D : Dn K mg "bars_chord" s_bars_chord ["first", "second"] f fd) (C1 : Cal P w K mg base "items_chord" 1 ["first", "second"] sp_items_chord) :
    Cal P w K mg base "bars_chord" 2 ["first", "second"] sp_bars_chord := by
  obtain ⟨f_items_chord, fd_items_chord, G_items_chord, m_items_chord, k_items_chord, b_items_chord⟩ := C1.ex
  refine D.cal (D.fn.ok sc_bars_chord (fun vs H Q E h => ?_) (fun cdv A outer s H vs Q E hr h => ?_))
  · obtain ⟨u, v, a, b, rfl, _⟩ := h
    rfl
  · obtain ⟨u, v, a, b, rfl, ⟨x, xs, rfl, hx, hp⟩, ⟨y, ys, rfl, hy, hp2⟩, hlen, q⟩ := h
    refine ⟨_, (pss_cons (ps_if (pt_cmpR op_ne (pe_callB call_len_seq (by rfl) n_len PySem.boot_len (pa_cons (pv 0) pa_nil)) (pe_callB call_len_seq (by rfl) n_len PySem.boot_len (pa_cons (pv 1) pa_nil)) (nomark _))
        (pss_one (ps_ret pe_bl))
        pss_nil)
      (pss_one (ps_ret (pe_callB (cr_all rfl) (by rfl) n_all (by decide +kernel) (pa_cons (pe_lc (own := [("upper", 2), ("lower", 3)]) (g := gTup K 2 (gCons (gName 2) (gCons (gName 3) gNil))) rfl sc_bars_chord.nd (pi_zip (by rfl) n_zip (pa_cons (pv 0) (pa_cons (pv 1) pa_nil))) (blkOk_by (own := [("upper", 2), ("lower", 3)]) (N := ["first", "second", "upper", "lower"]) (sc := defScope s_bars_chord) (by decide +kernel)) (fun _ _ _ _ _ => (pg_tup rfl (pgs_cons (pg_name (i := 2) sc_bars_chord.nd rfl (Or.inl rfl)) (pgs_cons (pg_name (i := 3) sc_bars_chord.nd rfl (Or.inl rfl)) pgs_nil)))) (fun _ _ _ _ _ => pts_nil) (fun _ _ _ _ _ => (pe_call G_items_chord (hr.mono (by decide)) rfl m_items_chord k_items_chord b_items_chord .nil pass0 (pa_cons (pv 2) (pa_cons (pv 3) pa_nil))))) pa_nil))))), ?_⟩
    refine ⟨_, rfl, x, _, rfl, .inl (SqL.of hx), _, rfl, y, _, rfl, .inl (SqL.of hy), rfl, _, rfl, ?_⟩
    rw [hp.length, hp2.length]
    by_cases c : a.length = b.length
    · refine iteF_of (by rw [c, decide_eq_true rfl]; rfl) ?_
      refine ⟨_, rfl, _, rfl, x, y, _, _, rfl, SqL.of hx, SqL.of hy, fun L nL => lc_it (walk_zip (K := K) (a := x) (b := y) (xs := xs) (ys := ys) (n := a.length) (by rw [hp.length, hp2.length, c]; omega)) (fun i H' => Same H H' ∧ H' L = some (.lst ((((a.zip b).take i).map fun x => Sw71.chord x.1 x.2).map V.bl)))
        ⟨same_upd nL, upd_same⟩ (fun i H' _ ⟨s, _⟩ => ⟨SqL.of (s _ _ hx), SqL.of (s _ _ hy)⟩) ?_ ?_⟩
      · rintro i z H1 H2 hi ⟨s, hL⟩ ⟨t, vx, vy, rfl, nt, rfl, e1, e2⟩
        obtain ⟨ix, hix, hia⟩ := paired_at hp e1
        obtain ⟨iy, hiy, hib⟩ := paired_at hp2 e2
        have st := same_upd (o := .tup [vx, vy]) nt
        have zs := snoc_take (zip_at hix hiy)
        refine ⟨t, _, rfl, SqT.of upd_same, rfl, _, _, rfl, _, _, rfl, rfl, rfl, ?_⟩
        refine lc_yes ?_
        refine ⟨_, rfl, _, rfl, vx, vy, ix, iy, rfl, itemAt_mono _ _ _ _ (s.trans st) hia, itemAt_mono _ _ _ _ (s.trans st) hib, _, st _ _ hL, small1000 (by rw [List.length_map, List.length_map, List.length_take]; omega), fun c o e => ?_, ?_⟩
        · rw [upd_ne (ne_of_none e nL)]
          exact st _ _ (s _ _ e)
        · rw [upd_same, zs, List.map_append, List.map_append]; rfl
      · rintro H1 ⟨s, hL⟩
        refine ⟨L, _, rfl, SqL.of hL, ?_⟩
        have e : ((((a.zip b).take a.length).map fun x => Sw71.chord x.1 x.2).all id) = barsChord a b := by
          unfold barsChord
          rw [decide_eq_true c, List.take_of_length_le (by rw [List.length_zip]; omega), List.all_map]; rfl
        rw [e]
        exact q _ s
    · refine iteT_of (by
        show (!decide (V.int (a.length : Int) = V.int (b.length : Int))) = true
        rw [decide_eq_false (fun z => c (by injection z with z; exact Int.ofNat.inj z))]; rfl) ?_
      have e : barsChord a b = false := by
        unfold barsChord
        rw [decide_eq_false c, Bool.false_and]
      rw [e] at q
      exact q _ (Same.refl H)
/-! ### a bar as data -/
def keyData (ks : List Nat) : PyData := .list ((ks.map fun (n : Nat) => (n : Int)).map PyData.int)
def itemData (x : Sw71.Item) : PyData := .tuple [.int (x.long : Nat), keyData x.keys]
def barData (b : Sw71.Bar) : PyData := .list (b.map itemData)
theorem ints_lay : ∀ ns : List Int, PyData.canLayAll0 (ns.map PyData.int) = true
  | [] => by simp [PyData.canLayAll0]
  | _ :: r => by simp [PyData.canLayAll0, PyData.canLay0, ints_lay r]
theorem ints_depth : ∀ ns : List Int, PyData.depthAll (ns.map PyData.int) ≤ 0
  | [] => by simp [PyData.depthAll]
  | _ :: r => by
    have h := ints_depth r
    simp only [List.map_cons, PyData.depthAll, PyData.depth]
    omega
theorem items_lay : ∀ b : Sw71.Bar, PyData.canLayAll0 (b.map itemData) = true
  | [] => by simp [PyData.canLayAll0]
  | x :: r => by
    simp only [List.map_cons, PyData.canLayAll0, PyData.canLay0, itemData, keyData, ints_lay, items_lay r]
    rfl
theorem items_depth : ∀ b : Sw71.Bar, PyData.depthAll (b.map itemData) ≤ 2
  | [] => by simp [PyData.depthAll]
  | x :: r => by
    have h := items_depth r
    have h2 := ints_depth (x.keys.map fun (n : Nat) => (n : Int))
    simp only [List.map_cons, PyData.depthAll, PyData.depth, itemData, keyData]
    omega
theorem bar_shaped (b : Sw71.Bar) : SeqAt.shaped (barData b) = true := by
  have h := items_depth b
  have h2 : PyData.depth (barData b) ≤ 64 := by
    unfold barData
    simp only [PyData.depth]
    omega
  show (PyData.canLay0 (barData b) && decide (PyData.depth (barData b) ≤ 64)) = true
  rw [decide_eq_true h2, Bool.and_true]
  unfold barData
  simp only [PyData.canLay0]
  exact items_lay b
theorem ints_eqv : ∀ ns ms : List Int, PyData.eqvAll (ns.map PyData.int) (ms.map PyData.int) = decide (ns = ms)
  | [], [] => by simp [PyData.eqvAll]
  | [], _ :: _ => by simp [PyData.eqvAll]
  | _ :: _, [] => by simp [PyData.eqvAll]
  | i :: r, j :: t => by
    have e : PyData.eqvAll ((i :: r).map PyData.int) ((j :: t).map PyData.int) = ((i == j) && PyData.eqvAll (r.map PyData.int) (t.map PyData.int)) := by simp only [List.map_cons, PyData.eqvAll, PyData.eqv]
    rw [e, ints_eqv r t, Bool.eq_iff_iff, Bool.and_eq_true, decide_eq_true_iff, decide_eq_true_iff, beq_iff_eq, List.cons.injEq]
theorem casts_eq {ks ls : List Nat} (h : (ks.map fun (n : Nat) => (n : Int)) = ls.map fun (n : Nat) => (n : Int)) : ks = ls := by
  have e := congrArg (List.map Int.toNat) h
  rw [List.map_map, List.map_map] at e
  have i : (Int.toNat ∘ fun (n : Nat) => (n : Int)) = id := by
    funext n
    show ((n : Int)).toNat = n
    simp
  rw [i, List.map_id, List.map_id] at e
  exact e
theorem key_eqv (ks ls : List Nat) : PyData.eqv (keyData ks) (keyData ls) = decide (ks = ls) := by
  have e : PyData.eqv (keyData ks) (keyData ls) = PyData.eqvAll ((ks.map fun (n : Nat) => (n : Int)).map PyData.int) ((ls.map fun (n : Nat) => (n : Int)).map PyData.int) := by simp only [keyData, PyData.eqv]
  rw [e, ints_eqv, Bool.eq_iff_iff, decide_eq_true_iff, decide_eq_true_iff]
  exact ⟨casts_eq, fun h => by rw [h]⟩
theorem item_eqv (x y : Sw71.Item) : PyData.eqv (itemData x) (itemData y) = decide (x = y) := by
  have e : PyData.eqv (itemData x) (itemData y) = (((x.long : Int) == (y.long : Int)) && (PyData.eqv (keyData x.keys) (keyData y.keys) && true)) := by simp only [itemData, PyData.eqv, PyData.eqvAll]
  rw [e, key_eqv, Bool.and_true, Bool.eq_iff_iff, Bool.and_eq_true, decide_eq_true_iff, decide_eq_true_iff, beq_iff_eq]
  constructor
  · rintro ⟨h1, h2⟩
    obtain ⟨n, ks⟩ := x
    obtain ⟨m, ls⟩ := y
    have h1 : (n : Int) = (m : Int) := h1
    have h2 : ks = ls := h2
    rw [Int.ofNat.inj h1, h2]
  · intro h
    rw [h]; exact ⟨rfl, rfl⟩
theorem items_eqv : ∀ a b : Sw71.Bar, PyData.eqvAll (a.map itemData) (b.map itemData) = decide (a = b)
  | [], [] => by simp [PyData.eqvAll]
  | [], _ :: _ => by simp [PyData.eqvAll]
  | _ :: _, [] => by simp [PyData.eqvAll]
  | x :: r, y :: t => by
    have e : PyData.eqvAll ((x :: r).map itemData) ((y :: t).map itemData) = (PyData.eqv (itemData x) (itemData y) && PyData.eqvAll (r.map itemData) (t.map itemData)) := by simp only [List.map_cons, PyData.eqvAll]
    rw [e, item_eqv, items_eqv r t, Bool.eq_iff_iff, Bool.and_eq_true, decide_eq_true_iff, decide_eq_true_iff, decide_eq_true_iff, List.cons.injEq]
theorem bar_eqv (a b : Sw71.Bar) : PyData.eqv (barData a) (barData b) = decide (a = b) := by
  have e : PyData.eqv (barData a) (barData b) = PyData.eqvAll (a.map itemData) (b.map itemData) := by simp only [barData, PyData.eqv]
  rw [e, items_eqv]
theorem ints_dp (K : PySem.W.Frag) (H : Hp) : ∀ ks : List Nat, DpAll K H (nV ks) ((ks.map fun (n : Nat) => (n : Int)).map PyData.int)
  | [] => .nil
  | k :: ks => .cons (.int k) (ints_dp K H ks)
theorem items_dp {K : PySem.W.Frag} {H : Hp} : ∀ {xs : List V} {b : Sw71.Bar}, Paired (ItemAt H) xs b → DpAll K H xs (b.map itemData)
  | _, _, .nil => .nil
  | _, _, .cons ⟨t, k, e, ht, l, ek, hl⟩ r => by
    subst e ek
    exact .cons (.tup (SqT.of ht) (.cons (.int _) (.cons (.lst (SqL.of hl) (ints_dp K H _)) .nil))) (items_dp r)
theorem bar_dp {K : PySem.W.Frag} {H : Hp} {v : V} {b : Sw71.Bar} (h : BarAt H v b) : Dp K H v (barData b) := by
  obtain ⟨a, xs, rfl, ha, hp⟩ := h
  exact .lst (SqL.of ha) (items_dp hp)
/-! ### mode_of -/
structure TxtM (mg : Str → Option Value) : Prop where
  g_NEITHER : ∃ t, mg "NEITHER" = some (.int 0 t)
  g_FIRST : ∃ t, mg "FIRST" = some (.int 1 t)
  g_SECOND : ∃ t, mg "SECOND" = some (.int 2 t)
  g_SAME : ∃ t, mg "SAME" = some (.int 3 t)
  g_CHORDS : ∃ t, mg "CHORDS" = some (.int 4 t)
  g_APART : ∃ t, mg "APART" = some (.int 5 t)
  g_NO_LABEL : ∃ t, mg "NO_LABEL" = some (.int 0 t)
  g_MOST_LINES : ∃ t, mg "MOST_LINES" = some (.int 2 t)
theorem mode_if (a b : Sw71.Bar) : Sw71.mode a b = if Sw71.rests a = true ∧ Sw71.rests b = true then 0 else if Sw71.rests b = true then 1 else if Sw71.rests a = true then 2 else if a = b then 3 else if barsChord a b = true then 4 else 5 := by
  unfold Sw71.mode barsChord
  by_cases c : a.length = b.length ∧ (a.zip b).all (fun x => Sw71.chord x.1 x.2) = true
  · rw [if_pos c, c.2, decide_eq_true c.1, if_pos (show (true && true) = true from rfl)]
  · rw [if_neg c]
    have e : ¬ (decide (a.length = b.length) && (a.zip b).all fun x => Sw71.chord x.1 x.2) = true := fun z => c (by
      rw [Bool.and_eq_true] at z
      exact ⟨of_decide_eq_true z.1, z.2⟩)
    rw [if_neg e]
def sp_mode_of : Sp := fun vs H Q _ => ∃ u v a b, vs = [u, v] ∧ BarAt H u a ∧ BarAt H v b ∧ a.length ≤ 1000 ∧ ∀ H', Same H H' → Q (.int (Sw71.mode a b : Nat)) H'
theorem ok_mode_of {f : Addr} {fd : FuncData} (T : TxtM mg) (D : Dn K mg "mode_of" s_mode_of ["first", "second"] f fd) (C1 : Cal P w K mg base "bar_rests" 1 ["bar"] sp_bar_rests) (C2 : Cal P w K mg base "bars_chord" 2 ["first", "second"] sp_bars_chord) :
    Cal P w K mg base "mode_of" 3 ["first", "second"] sp_mode_of := by
  obtain ⟨f_bar_rests, fd_bar_rests, G_bar_rests, m_bar_rests, k_bar_rests, b_bar_rests⟩ := C1.ex
  obtain ⟨f_bars_chord, fd_bars_chord, G_bars_chord, m_bars_chord, k_bars_chord, b_bars_chord⟩ := C2.ex
  refine D.cal (D.fn.ok sc_mode_of (fun vs H Q E h => ?_) (fun cdv A outer s H vs Q E hr h => ?_))
  · obtain ⟨u, v, a, b, rfl, _⟩ := h
    rfl
  · obtain ⟨u, v, a, b, rfl, ha, hb, hlen, q⟩ := h
    refine ⟨_, (pss_cons (ps_if (PW.pt (pw_and (pt_val (pe_call G_bar_rests (hr.mono (by decide)) rfl m_bar_rests k_bar_rests b_bar_rests .nil pass0 (pa_cons (pv 0) pa_nil))) (pw_and1 (pt_val (pe_call G_bar_rests (hr.mono (by decide)) rfl m_bar_rests k_bar_rests b_bar_rests .nil pass0 (pa_cons (pv 1) pa_nil))))))
        (pss_one (ps_ret (pe_gi rfl T.g_NEITHER)))
        pss_nil)
      (pss_cons (ps_if (pt_val (pe_call G_bar_rests (hr.mono (by decide)) rfl m_bar_rests k_bar_rests b_bar_rests .nil pass0 (pa_cons (pv 1) pa_nil)))
        (pss_one (ps_ret (pe_gi rfl T.g_FIRST)))
        pss_nil)
      (pss_cons (ps_if (pt_val (pe_call G_bar_rests (hr.mono (by decide)) rfl m_bar_rests k_bar_rests b_bar_rests .nil pass0 (pa_cons (pv 0) pa_nil)))
        (pss_one (ps_ret (pe_gi rfl T.g_SECOND)))
        pss_nil)
      (pss_cons (ps_if (pt_cmpR (op_eqD hr.units) (pv 0) (pv 1) (nomark _))
        (pss_one (ps_ret (pe_gi rfl T.g_SAME)))
        pss_nil)
      (pss_cons (ps_if (pt_val (pe_call G_bars_chord (hr.mono (by decide)) rfl m_bars_chord k_bars_chord b_bars_chord .nil pass0 (pa_cons (pv 0) (pa_cons (pv 1) pa_nil))))
        (pss_one (ps_ret (pe_gi rfl T.g_CHORDS)))
        pss_nil)
      (pss_one (ps_ret (pe_gi rfl T.g_APART)))))))), ?_⟩
    rw [mode_if] at q
    refine ⟨_, rfl, u, a, rfl, ha, _, rfl, ?_⟩
    cases ca : Sw71.rests a with
    | true =>
      refine iteT_of rfl ?_
      refine ⟨_, rfl, v, b, rfl, hb, _, rfl, ?_⟩
      cases cb : Sw71.rests b with
      | true =>
        refine iteT_of rfl ?_
        rw [if_pos ⟨ca, cb⟩] at q
        exact q _ (Same.refl H)
      | false =>
        refine iteF_of rfl ?_
        refine ⟨_, rfl, v, b, rfl, hb, _, rfl, iteF_of cb ?_⟩
        refine ⟨_, rfl, u, a, rfl, ha, _, rfl, iteT_of ca ?_⟩
        rw [if_neg (fun z => by rw [cb] at z; cases z.2), if_neg (by rw [cb]; intro z; cases z), if_pos ca] at q
        exact q _ (Same.refl H)
    | false =>
      refine iteF_of rfl (iteF ?_)
      refine ⟨_, rfl, v, b, rfl, hb, _, rfl, ?_⟩
      rw [if_neg (fun z => by rw [ca] at z; cases z.1)] at q
      cases cb : Sw71.rests b with
      | true =>
        refine iteT_of rfl ?_
        rw [if_pos cb] at q
        exact q _ (Same.refl H)
      | false =>
        refine iteF_of rfl ?_
        refine ⟨_, rfl, u, a, rfl, ha, _, rfl, iteF_of ca ?_⟩
        rw [if_neg (by rw [cb]; intro z; cases z), if_neg (by rw [ca]; intro z; cases z)] at q
        refine ⟨_, rfl, _, rfl, barData a, barData b, bar_dp ha, bar_dp hb, bar_shaped a, bar_shaped b, _, rfl, ?_⟩
        rw [bar_eqv]
        by_cases ce : a = b
        · refine iteT_of (decide_eq_true ce) ?_
          rw [if_pos ce] at q
          exact q _ (Same.refl H)
        · refine iteF_of (decide_eq_false ce) ?_
          rw [if_neg ce] at q
          refine ⟨_, rfl, _, rfl, u, v, a, b, rfl, ha, hb, hlen, fun H1 s1 => ⟨_, rfl, ?_⟩⟩
          cases cc : barsChord a b with
          | true =>
            refine iteT_of rfl ?_
            rw [if_pos cc] at q
            exact q _ s1
          | false =>
            refine iteF_of rfl ?_
            rw [if_neg (by rw [cc]; intro z; cases z)] at q
            exact q _ s1
end
end Ps

namespace Ps
open PySem PySem.Spec PyProof.Rows L2
section
variable {P : Program} {w : World} {K : PySem.W.Frag} {mg : Str → Option Value} {base : Heap}
/-! ### chords -/
def chordsOf (a b : Sw71.Bar) : Sw71.Bar := (a.zip b).map fun x => ⟨x.1.long, x.2.keys ++ x.1.keys⟩
def sp_chords : Sp := fun vs H Q _ => ∃ u v a b, vs = [u, v] ∧ BarAt H u a ∧ BarAt H v b ∧ a.length = b.length ∧ a.length ≤ 1000 ∧ (∀ x ∈ a.zip b, x.2.keys.length + x.1.keys.length ≤ 1000) ∧
  ∀ H' w, Same H H' → BarAt (Grow Hp0 H H') w (chordsOf a b) → Q w H'
theorem ok_chords {f : Addr} {fd : FuncData} (n_zip : mg "zip" = none) (D : Dn K mg "chords" s_chords ["first", "second"] f fd) : Cal P w K mg base "chords" 1 ["first", "second"] sp_chords := by
  refine D.cal (D.fn.ok sc_chords (fun vs H Q E h => ?_) (fun cdv A outer s0 H vs Q E hr h => ?_))
  · obtain ⟨u, v, a, b, rfl, _⟩ := h
    rfl
  · obtain ⟨u, v, a, b, rfl, ⟨x, xs, rfl, hx, hp⟩, ⟨y, ys, rfl, hy, hp2⟩, hab, hlen, hkeys, q⟩ := h
    refine ⟨_, (pss_one (ps_ret (pe_lc (own := [("upper", 2), ("lower", 3)]) (g := gTup K 2 (gCons (gName 2) (gCons (gName 3) gNil))) (te := tTup (tCons (tOp (rIxT K) (tVar 2) (tC (.int 0))) (tCons (tOp rCat (tOp (rIxT K) (tVar 3) (tC (.int 1))) (tOp (rIxT K) (tVar 2) (tC (.int 1)))) tNil))) rfl sc_chords.nd (pi_zip (by rfl) n_zip (pa_cons (pv 0) (pa_cons (pv 1) pa_nil))) (blkOk_by (own := [("upper", 2), ("lower", 3)]) (N := ["first", "second", "upper", "lower"]) (sc := defScope s_chords) (by decide +kernel)) (fun _ _ _ _ _ => (pg_tup rfl (pgs_cons (pg_name (i := 2) sc_chords.nd rfl (Or.inl rfl)) (pgs_cons (pg_name (i := 3) sc_chords.nd rfl (Or.inl rfl)) pgs_nil)))) (fun _ _ _ _ _ => pts_nil) (fun _ _ _ _ _ => (pe_tup (pa_cons (pe_ix ix_tup (pv 2) pe_int (fun _ _ => rfl)) (pa_cons (pe_op op_cat (pe_ix ix_tup (pv 3) pe_int (fun _ _ => rfl)) (pe_ix ix_tup (pv 2) pe_int (fun _ _ => rfl))) pa_nil))))))), ?_⟩
    refine ⟨_, rfl, _, rfl, x, y, _, _, rfl, SqL.of hx, SqL.of hy, fun L nL => lc_it (walk_zip (K := K) (a := x) (b := y) (xs := xs) (ys := ys) (n := a.length) (by rw [hp.length, hp2.length, hab]; omega)) (fun i H' => ∃ vs, Same H H' ∧ (∀ c, H' c = none → (upd H L (.lst [])) c = none) ∧ H' L = some (.lst vs) ∧ Paired (ItemAt (Grow Hp0 (upd H L (.lst [])) H')) vs (((a.zip b).take i).map fun x => ⟨x.1.long, x.2.keys ++ x.1.keys⟩))
      ⟨[], same_upd nL, fun c h => h, upd_same, .nil⟩ (fun i H' _ ⟨_, s, _⟩ => ⟨SqL.of (s _ _ hx), SqL.of (s _ _ hy)⟩) ?_ ?_⟩
    · have pL : (upd H L (.lst [])) L = some (.lst []) := upd_same
      generalize hH4 : upd H L (.lst []) = H4 at pL ⊢
      rintro i z H1 H2 hi ⟨vs, s, ni, hL, pr⟩ ⟨t, vx, vy, rfl, nt, rfl, e1, e2⟩
      obtain ⟨ix, hix, t1, k1, rfl, h1, l1, rfl, g1⟩ := paired_at hp e1
      obtain ⟨iy, hiy, t2, k2, rfl, h2, l2, rfl, g2⟩ := paired_at hp2 e2
      have st := same_upd (o := .tup [V.ref t1, V.ref t2]) nt
      have s2 := s.trans st
      have hz := zip_at hix hiy
      have zs := snoc_take hz
      have hk := hkeys _ (List.mem_of_getElem? hz)
      have hk : iy.keys.length + ix.keys.length ≤ 1000 := hk
      refine ⟨t, _, rfl, SqT.of upd_same, rfl, _, _, rfl, _, _, rfl, rfl, rfl, ?_⟩
      refine lc_yes ?_
      refine ⟨_, rfl, t1, _, _, _, rfl, rfl, SqT.of (s2 _ _ h1), at_of (j := 0) rfl rfl, _, rfl, t2, _, _, _, rfl, rfl, SqT.of (s2 _ _ h2), at_of (j := 1) rfl rfl, _, rfl, t1, _, _, _, rfl, rfl, SqT.of (s2 _ _ h1), at_of (j := 1) rfl rfl, l2, l1, _, _, rfl, rfl, s2 _ _ g2, s2 _ _ g1, Nat.le_of_lt (small1000 (by rw [nV_length, nV_length]; exact hk)), fun c nc => ?_⟩
      have sc := same_upd (o := .lst (nV iy.keys ++ nV ix.keys)) nc
      refine ⟨by show 2 ≤ sizeLine; decide, fun d nd => ?_⟩
      have sd := same_upd (o := .tup [V.int (ix.long : Nat), V.ref c]) nd
      have s1d := (st.trans sc).trans sd
      refine ⟨vs, s1d _ _ hL, small1000 (by rw [pr.length, List.length_map, List.length_take, List.length_zip]; omega), vs ++ [.ref d], fun a o w => ?_, fun a w => ?_, upd_same, ?_⟩
      · rw [upd_ne (ne_of_none w nL)]; exact s1d _ _ (s _ _ w)
      · by_cases v : a = L
        · subst v; rw [upd_same] at w; cases w
        · rw [upd_ne v] at w; exact ni a (s1d.free w)
      · rw [zs, List.map_append]
        have k1 : ∀ Hx, Same H1 Hx → Same (Grow Hp0 H4 H1) (Grow Hp0 H4 (upd Hx L (.lst (vs ++ [.ref d])))) := fun Hx sx => grow_mono fun a o y1 y2 _ => by
          rw [upd_ne (fun z => by subst z; rw [pL] at y1; cases y1)]
          exact sx _ _ y2
        have cL : c ≠ L := fun w => by subst w; rw [st _ _ hL] at nc; cases nc
        have dL : d ≠ L := fun w => by subst w; rw [sc _ _ (st _ _ hL)] at nd; cases nd
        have n1 : ∀ a, H1 a = none → H4 a = none := ni
        refine Paired.snoc (Paired.mono (fun _ _ h => itemAt_mono _ _ _ _ (k1 _ s1d) h) pr) ⟨d, .ref c, rfl, grow_at (n1 d (st.free (sc.free nd))) (by rw [upd_ne dL, upd_same]) rfl, c, rfl, grow_at (n1 c (st.free nc)) ?_ rfl⟩
        rw [upd_ne cL, sd _ _ upd_same, nV_append]
    · rintro H1 ⟨vs, s, ni, hL, pr⟩
      rw [List.take_of_length_le (by rw [List.length_zip]; omega)] at pr
      refine q _ _ s ⟨L, vs, rfl, grow_at nL hL rfl, Paired.mono (fun _ _ h => itemAt_mono _ _ _ _ (grow_later fun c w => (same_upd nL).free w) h) pr⟩
/-! ### lines_of -/
def linesM (a b : Sw71.Bar) : Nat → List Sw71.Bar
  | 0 => []
  | 1 => [a]
  | 2 => [b]
  | 3 => [a]
  | 4 => [chordsOf a b]
  | _ => [a, b]
theorem linesOf_eq (a b : Sw71.Bar) : Sw71.linesOf a b = linesM a b (Sw71.mode a b) := rfl
theorem mode_four {a b : Sw71.Bar} (h : Sw71.mode a b = 4) : barsChord a b = true := by
  rw [mode_if] at h
  by_cases c1 : Sw71.rests a = true ∧ Sw71.rests b = true
  · rw [if_pos c1] at h; cases h
  rw [if_neg c1] at h
  by_cases c2 : Sw71.rests b = true
  · rw [if_pos c2] at h; cases h
  rw [if_neg c2] at h
  by_cases c3 : Sw71.rests a = true
  · rw [if_pos c3] at h; cases h
  rw [if_neg c3] at h
  by_cases c4 : a = b
  · rw [if_pos c4] at h; cases h
  rw [if_neg c4] at h
  cases c : barsChord a b with
  | true => rfl
  | false => rw [c, if_neg (by intro z; cases z)] at h; cases h
theorem chordK_short {ks ls : List Nat} (h : chordK ks ls = true) : ls.length + ks.length ≤ 2 := by
  match ks, ls, h with
  | [], [], _ => exact Nat.zero_le _
  | [_], [_], _ => exact Nat.le_refl _
  | [], _ :: _, h => cases h
  | [_], [], h => cases h
  | [_], _ :: _ :: _, h => cases h
  | _ :: _ :: _, _, h => cases h
theorem chord_len {a b : Sw71.Bar} (h : barsChord a b = true) : a.length = b.length ∧ ∀ x ∈ a.zip b, x.2.keys.length + x.1.keys.length ≤ 1000 := by
  unfold barsChord at h
  rw [Bool.and_eq_true] at h
  refine ⟨of_decide_eq_true h.1, fun x hx => ?_⟩
  have c := List.all_eq_true.mp h.2 x hx
  rw [chord_eq, Bool.and_eq_true] at c
  exact Nat.le_trans (chordK_short c.2) (by decide)
def sp_lines_of : Sp := fun vs H Q _ => ∃ u v a b G, vs = [.int (Sw71.mode a b : Nat), u, v] ∧ Same G H ∧ BarAt G u a ∧ BarAt G v b ∧ a.length ≤ 1000 ∧
  ∀ H' w, Same H H' → BarsAt (Grow G H H') w (Sw71.linesOf a b) → Q w H'
theorem ok_lines_of {f : Addr} {fd : FuncData} (T : TxtM mg) (D : Dn K mg "lines_of" s_lines_of ["mode", "first", "second"] f fd) (C1 : Cal P w K mg base "chords" 1 ["first", "second"] sp_chords) :
    Cal P w K mg base "lines_of" 2 ["mode", "first", "second"] sp_lines_of := by
  obtain ⟨f_chords, fd_chords, G_chords, m_chords, k_chords, b_chords⟩ := C1.ex
  refine D.cal (D.fn.ok sc_lines_of (fun vs H Q E h => ?_) (fun cdv A outer s0 H vs Q E hr h => ?_))
  · obtain ⟨u, v, a, b, G, rfl, _⟩ := h
    rfl
  · obtain ⟨u, v, a, b, G, rfl, sG, ha, hb, hlen, q⟩ := h
    refine ⟨_, (pss_cons (ps_if (pt_cmpR op_eq (pv 0) (pe_gi rfl T.g_NEITHER) (nomark _))
        (pss_one (ps_ret (pe_lst pa_nil)))
        pss_nil)
      (pss_cons (ps_if (PW.pt (pw_or (pt_cmpR op_eq (pv 0) (pe_gi rfl T.g_FIRST) (nomark _)) (pw_or1 (pt_cmpR op_eq (pv 0) (pe_gi rfl T.g_SAME) (nomark _)))))
        (pss_one (ps_ret (pe_lst (pa_cons (pv 1) pa_nil))))
        pss_nil)
      (pss_cons (ps_if (pt_cmpR op_eq (pv 0) (pe_gi rfl T.g_SECOND) (nomark _))
        (pss_one (ps_ret (pe_lst (pa_cons (pv 2) pa_nil))))
        pss_nil)
      (pss_cons (ps_if (pt_cmpR op_eq (pv 0) (pe_gi rfl T.g_CHORDS) (nomark _))
        (pss_one (ps_ret (pe_lst (pa_cons (pe_call G_chords (hr.mono (by decide)) rfl m_chords k_chords b_chords .nil pass0 (pa_cons (pv 1) (pa_cons (pv 2) pa_nil))) pa_nil))))
        pss_nil)
      (pss_one (ps_ret (pe_lst (pa_cons (pv 1) (pa_cons (pv 2) pa_nil))))))))), ?_⟩
    rw [linesOf_eq] at q
    have h4 := mode_four (a := a) (b := b)
    generalize Sw71.mode a b = m at q h4
    have hG : ∀ (Hx : Hp) (p : Addr) (us : List V) (l : List Sw71.Bar), Same H Hx → Hx p = none → Paired (BarAt (Grow G H Hx)) us l → BarsAt (Grow G H (upd Hx p (.lst us))) (.ref p) l := fun Hx p us l sx np pr =>
      ⟨p, us, rfl, grow_new sG (sx.free np) upd_same rfl, Paired.mono (fun _ _ h => barAt_mono _ _ _ _ (grow_mono fun a o _ y2 _ => same_upd np _ _ y2) h) pr⟩
    have gG : ∀ Hx, Same G (Grow G H Hx) := fun Hx => same_grow _ _ _
    match m, q, h4 with
    | 0, q, _ =>
      refine ⟨_, rfl, rfl, _, rfl, iteT_of rfl ?_⟩
      exact ⟨Nat.zero_le _, fun p np => q _ _ (same_upd np) (hG _ p [] [] (Same.refl H) np .nil)⟩
    | 1, q, _ =>
      refine ⟨_, rfl, rfl, _, rfl, iteF_of rfl ?_⟩
      refine ⟨_, rfl, rfl, _, rfl, iteT_of rfl ?_⟩
      exact ⟨_, rfl, by show 1 ≤ sizeLine; decide, fun p np => q _ _ (same_upd np) (hG _ p [u] [a] (Same.refl H) np (.cons (barAt_mono _ _ _ _ (gG _) ha) .nil))⟩
    | 2, q, _ =>
      refine ⟨_, rfl, rfl, _, rfl, iteF_of rfl ?_⟩
      refine ⟨_, rfl, rfl, _, rfl, iteF_of rfl ?_⟩
      refine ⟨_, rfl, rfl, _, rfl, iteF_of rfl ?_⟩
      refine ⟨_, rfl, rfl, _, rfl, iteT_of rfl ?_⟩
      exact ⟨_, rfl, by show 1 ≤ sizeLine; decide, fun p np => q _ _ (same_upd np) (hG _ p [v] [b] (Same.refl H) np (.cons (barAt_mono _ _ _ _ (gG _) hb) .nil))⟩
    | 3, q, _ =>
      refine ⟨_, rfl, rfl, _, rfl, iteF_of rfl ?_⟩
      refine ⟨_, rfl, rfl, _, rfl, iteF_of rfl ?_⟩
      refine ⟨_, rfl, rfl, _, rfl, iteT_of rfl ?_⟩
      exact ⟨_, rfl, by show 1 ≤ sizeLine; decide, fun p np => q _ _ (same_upd np) (hG _ p [u] [a] (Same.refl H) np (.cons (barAt_mono _ _ _ _ (gG _) ha) .nil))⟩
    | 4, q, h4 =>
      refine ⟨_, rfl, rfl, _, rfl, iteF_of rfl ?_⟩
      refine ⟨_, rfl, rfl, _, rfl, iteF_of rfl ?_⟩
      refine ⟨_, rfl, rfl, _, rfl, iteF_of rfl ?_⟩
      refine ⟨_, rfl, rfl, _, rfl, iteF_of rfl ?_⟩
      refine ⟨_, rfl, rfl, _, rfl, iteT_of rfl ?_⟩
      obtain ⟨e1, e2⟩ := chord_len (h4 rfl)
      refine ⟨_, rfl, _, rfl, u, v, a, b, rfl, barAt_mono _ _ _ _ sG ha, barAt_mono _ _ _ _ sG hb, e1, hlen, e2, fun H1 w1 s1 hw => ?_⟩
      exact ⟨by show 1 ≤ sizeLine; decide, fun p np => q _ _ (s1.trans (same_upd np)) (hG _ p [w1] [chordsOf a b] s1 np (.cons (barAt_mono _ _ _ _ (grow_zero sG) hw) .nil))⟩
    | n + 5, q, _ =>
      have no : ∀ k : Nat, k < 5 → decide (V.int ((n + 5 : Nat) : Int) = V.int (k : Int)) = false := fun k hk => decide_eq_false fun z => by
        injection z with z
        omega
      refine ⟨_, rfl, rfl, _, rfl, iteF_of (no 0 (by decide)) ?_⟩
      refine ⟨_, rfl, rfl, _, rfl, iteF_of (no 1 (by decide)) ?_⟩
      refine ⟨_, rfl, rfl, _, rfl, iteF_of (no 3 (by decide)) ?_⟩
      refine ⟨_, rfl, rfl, _, rfl, iteF_of (no 2 (by decide)) ?_⟩
      refine ⟨_, rfl, rfl, _, rfl, iteF_of (no 4 (by decide)) ?_⟩
      exact ⟨_, rfl, _, rfl, by show 2 ≤ sizeLine; decide, fun p np => q _ _ (same_upd np) (hG _ p [u, v] [a, b] (Same.refl H) np (.cons (barAt_mono _ _ _ _ (gG _) ha) (.cons (barAt_mono _ _ _ _ (gG _) hb) .nil)))⟩
/-! ### label_of -/
def labelOf (m f : Nat) : Nat := if m = 0 ∨ m = 5 ∨ m = f then 0 else m
def sp_label_of : Sp := fun vs H Q _ => ∃ m f : Nat, vs = [.int (m : Nat), .int (f : Nat)] ∧ Q (.int (labelOf m f : Nat)) H
theorem int_dec (m n : Nat) : decide (V.int (m : Int) = V.int (n : Int)) = decide (m = n) := by
  by_cases c : m = n
  · rw [decide_eq_true c]; exact decide_eq_true (by rw [c])
  · rw [decide_eq_false c]; exact decide_eq_false (fun z => c (by injection z with z; exact Int.ofNat.inj z))
theorem ok_label_of {f : Addr} {fd : FuncData} (T : TxtM mg) (D : Dn K mg "label_of" s_label_of ["mode", "in_force"] f fd) : Cal P w K mg base "label_of" 1 ["mode", "in_force"] sp_label_of := by
  refine D.cal (D.fn.ok sc_label_of (fun vs H Q E h => ?_) (fun cdv A outer s0 H vs Q E hr h => ?_))
  · obtain ⟨m, g, rfl, _⟩ := h
    rfl
  · obtain ⟨m, g, rfl, q⟩ := h
    refine ⟨_, (pss_cons (ps_if (PW.pt (pw_or (pt_cmpR op_eq (pv 0) (pe_gi rfl T.g_NEITHER) (nomark _)) (pw_or (pt_cmpR op_eq (pv 0) (pe_gi rfl T.g_APART) (nomark _)) (pw_or1 (pt_cmpR op_eq (pv 0) (pv 1) (nomark _))))))
        (pss_one (ps_ret (pe_gi rfl T.g_NO_LABEL)))
        pss_nil)
      (pss_one (ps_ret (pv 0)))), ?_⟩
    refine ⟨_, rfl, rfl, _, rfl, ?_⟩
    by_cases c0 : m = 0
    · refine iteT_of ((int_dec m 0).trans (decide_eq_true c0)) ?_
      rw [show labelOf m g = 0 from if_pos (.inl c0)] at q
      exact q
    refine iteF_of ((int_dec m 0).trans (decide_eq_false c0)) ?_
    refine ⟨_, rfl, rfl, _, rfl, ?_⟩
    by_cases c5 : m = 5
    · refine iteT_of ((int_dec m 5).trans (decide_eq_true c5)) ?_
      rw [show labelOf m g = 0 from if_pos (.inr (.inl c5))] at q
      exact q
    refine iteF_of ((int_dec m 5).trans (decide_eq_false c5)) ?_
    refine ⟨_, rfl, _, rfl, rfl, _, rfl, ?_⟩
    by_cases cg : m = g
    · refine iteT_of ((int_dec m g).trans (decide_eq_true cg)) ?_
      rw [show labelOf m g = 0 from if_pos (.inr (.inr cg))] at q
      exact q
    · refine iteF_of ((int_dec m g).trans (decide_eq_false cg)) ?_
      rw [show labelOf m g = m from if_neg (fun z => by rcases z with z | z | z; exact c0 z; exact c5 z; exact cg z)] at q
      exact ⟨_, rfl, q⟩
end
end Ps

namespace Ps
open PySem PySem.Spec PyProof.Rows L2
section
variable {P : Program} {w : World} {K : PySem.W.Frag} {mg : Str → Option Value} {base : Heap}
/-! ### all that is new beside a part -/
def GrowA (G H H' : Hp) : Hp := fun a => match G a with
  | some o => some o
  | none => NewIn H H' a
theorem growA_old {G H H' : Hp} {a : Addr} {o : HO} (h : G a = some o) : GrowA G H H' a = some o := by unfold GrowA; rw [h]
theorem growA_new {G H H' : Hp} {a : Addr} {o : HO} (g : G a = none) (h : H a = none) (h' : H' a = some o) : GrowA G H H' a = some o := by
  unfold GrowA; rw [g]; exact new_at h h'
theorem growA_inv {G H H' : Hp} {a : Addr} {o : HO} (h : GrowA G H H' a = some o) : G a = some o ∨ (G a = none ∧ H a = none ∧ H' a = some o) := by
  unfold GrowA at h
  cases e : G a with
  | some x => rw [e] at h; exact .inl h
  | none => rw [e] at h; exact .inr ⟨rfl, (new_inv h).1, (new_inv h).2⟩
theorem growA_mono {G H H' H'' : Hp} (s : ∀ b o, H b = none → H' b = some o → H'' b = some o) : Same (GrowA G H H') (GrowA G H H'') := fun a o h => by
  rcases growA_inv h with h | ⟨g, h1, h2⟩
  · exact growA_old h
  · exact growA_new g h1 (s a o h1 h2)
theorem growA_later {G H H1 H' : Hp} (s : ∀ b, H1 b = none → H b = none) : Same (GrowA G H1 H') (GrowA G H H') := fun a o h => by
  rcases growA_inv h with h | ⟨g, h1, h2⟩
  · exact growA_old h
  · exact growA_new g (s a h1) h2
theorem growA_in {G H H' : Hp} (s : Same G H') : Same (GrowA G H H') H' := fun a o h => by
  rcases growA_inv h with h | ⟨_, _, h⟩
  · exact s a o h
  · exact h
theorem grow_growA (G H H' : Hp) : Same (Grow G H H') (GrowA G H H') := fun a o h => by
  rcases grow_inv h with h | ⟨g, h1, h2, _⟩
  · exact growA_old h
  · exact growA_new g h1 h2
/-! ### put_on_one -/
def forceOf (lab f : Nat) : Nat := if lab = 0 then f else lab
theorem together_step (f : Nat) (x : Sw71.Bar × Sw71.Bar) (l : List (Sw71.Bar × Sw71.Bar)) : Sw71.together f (x :: l) = ⟨labelOf (Sw71.mode x.1 x.2) f, Sw71.linesOf x.1 x.2⟩ :: Sw71.together (forceOf (labelOf (Sw71.mode x.1 x.2) f) f) l := by
  show (if Sw71.mode x.1 x.2 = 0 ∨ Sw71.mode x.1 x.2 = 5 then (⟨0, Sw71.linesOf x.1 x.2⟩ : Sw71.Both) :: Sw71.together f l else (⟨if Sw71.mode x.1 x.2 = f then 0 else Sw71.mode x.1 x.2, Sw71.linesOf x.1 x.2⟩ : Sw71.Both) :: Sw71.together (Sw71.mode x.1 x.2) l) = _
  unfold labelOf forceOf
  generalize Sw71.mode x.1 x.2 = m
  by_cases c : m = 0 ∨ m = 5
  · rw [if_pos c, if_pos (show m = 0 ∨ m = 5 ∨ m = f by rcases c with c | c; exact .inl c; exact .inr (.inl c)), if_pos rfl]
  · rw [if_neg c]
    by_cases d : m = f
    · rw [if_pos d, if_pos (show m = 0 ∨ m = 5 ∨ m = f from .inr (.inr d)), if_pos rfl, d]
    · have n0 : ¬ m = 0 := fun z => c (.inl z)
      have n5 : ¬ m = 5 := fun z => c (.inr z)
      rw [if_neg d, if_neg (show ¬ (m = 0 ∨ m = 5 ∨ m = f) by omega), if_neg n0]
def sp_put_on_one (CL : Addr) : Sp := fun vs H Q _ => ∃ u v la lb G, vs = [u, v] ∧ Same G H ∧ BarsAt G u la ∧ BarsAt G v lb ∧ la.length = lb.length ∧ la.length ≤ 1000 ∧ (∀ b ∈ la, b.length ≤ 1000) ∧
  ∀ H' w, Same H H' → ListAt (LinedAt CL) H' w (Sw71.together 0 (la.zip lb)) → Q w H'
theorem ok_put_on_one {CL f : Addr} {fd : FuncData} (T : TxtM mg) (n_zip : mg "zip" = none) (D : Dn K mg "put_on_one" s_put_on_one ["first", "second"] f fd) (B : LbC P w K mg base CL)
    (C1 : Cal P w K mg base "mode_of" 3 ["first", "second"] sp_mode_of) (C2 : Cal P w K mg base "label_of" 1 ["mode", "in_force"] sp_label_of) (C3 : Cal P w K mg base "lines_of" 2 ["mode", "first", "second"] sp_lines_of) :
    Cal P w K mg base "put_on_one" 4 ["first", "second"] (sp_put_on_one CL) := by
  obtain ⟨f_mode_of, fd_mode_of, G_mode_of, m_mode_of, k_mode_of, b_mode_of⟩ := C1.ex
  obtain ⟨f_label_of, fd_label_of, G_label_of, m_label_of, k_label_of, b_label_of⟩ := C2.ex
  obtain ⟨f_lines_of, fd_lines_of, G_lines_of, m_lines_of, k_lines_of, b_lines_of⟩ := C3.ex
  obtain ⟨f_LinedBar_init, fd_LinedBar_init, M_LinedBar, G_LinedBar_init, b_LinedBar_init⟩ := B.init
  refine D.cal (D.fn.ok sc_put_on_one (fun vs H Q E h => ?_) (fun cdv A outer s0 H vs Q E hr h => ?_))
  · obtain ⟨u, v, la, lb, G, rfl, _⟩ := h
    rfl
  · obtain ⟨u, v, la, lb, G, rfl, sG, ⟨x, xs, rfl, hx, hp1⟩, ⟨y, ys, rfl, hy, hp2⟩, hab, hlen, htiny, q⟩ := h
    refine ⟨_, (pss_cons (ps_set (i := 2) sc_put_on_one.nd rfl (Or.inl rfl) (pe_lst pa_nil))
      (pss_cons (ps_set (i := 3) sc_put_on_one.nd rfl (Or.inl rfl) (pe_gi rfl T.g_NO_LABEL))
      (pss_cons (ps_for PassesOwn.never rfl (pi_zip (by rfl) n_zip (pa_cons (pv 0) (pa_cons (pv 1) pa_nil))) (pg_tup rfl (pgs_cons (pg_name (i := 4) sc_put_on_one.nd rfl (Or.inl rfl)) (pgs_cons (pg_name (i := 5) sc_put_on_one.nd rfl (Or.inl rfl)) pgs_nil)))
        (pss_cons (ps_set (i := 6) sc_put_on_one.nd rfl (Or.inl rfl) (pe_call G_mode_of (hr.mono (by decide)) rfl m_mode_of k_mode_of b_mode_of .nil pass0 (pa_cons (pv 4) (pa_cons (pv 5) pa_nil))))
        (pss_cons (ps_set (i := 7) sc_put_on_one.nd rfl (Or.inl rfl) (pe_call G_label_of (hr.mono (by decide)) rfl m_label_of k_label_of b_label_of .nil pass0 (pa_cons (pv 6) (pa_cons (pv 3) pa_nil))))
        (pss_cons (ps_set (i := 3) sc_put_on_one.nd rfl (Or.inl rfl) (pe_orT (pv 7) (pe_one (pv 3))))
        (pss_one (ps_expr (pe_bm PySem.F.plainAttrs_list PySem.F.slot_list_append PySem.F.type_list_append mt_append (pv 2) (pa_cons (pe_make M_LinedBar G_LinedBar_init (hr.mono (by decide)) rfl B.gC b_LinedBar_init .nil pass0 (pa_cons (pv 7) (pa_cons (pe_call G_lines_of (hr.mono (by decide)) rfl m_lines_of k_lines_of b_lines_of .nil pass0 (pa_cons (pv 6) (pa_cons (pv 4) (pa_cons (pv 5) pa_nil)))) pa_nil))) pa_nil))))))))
      (pss_one (ps_ret (pv 2)))))), ?_⟩
    refine ⟨Nat.zero_le _, fun p np => ?_⟩
    have s1 := same_upd (o := .lst []) np
    have p1 : (upd H p (.lst [])) p = some (.lst []) := upd_same
    have n1 : ∀ c, (upd H p (.lst [])) c = none → H c = none := fun c => s1.free
    generalize hH1 : upd H p (.lst []) = H1 at s1 p1 n1 ⊢
    refine ⟨_, rfl, _, rfl, x, y, _, _, rfl, SqL.of (s1 _ _ (sG _ _ hx)), SqL.of (s1 _ _ (sG _ _ hy)), for_it (walk_zip (K := K) (a := x) (b := y) (xs := xs) (ys := ys) (n := la.length) (by rw [hp1.length, hp2.length, hab]; omega)) (fun j σ H' => ∃ (g : Nat) (v4 v5 v6 v7 : Option V) (vs : List V) (done : List Sw71.Both), σ = [some (.ref x), some (.ref y), some (.ref p), some (.int (g : Nat)), v4, v5, v6, v7] ∧ Same H H' ∧ (∀ c, H' c = none → H1 c = none) ∧ H' p = some (.lst vs) ∧ Paired (LinedAt CL (GrowA G H1 H')) vs done ∧
        Sw71.together 0 (la.zip lb) = done ++ Sw71.together g ((la.zip lb).drop j) ∧ done.length = j)
      ⟨0, none, none, none, none, [], [], rfl, s1, fun c h => h, p1, .nil, rfl, rfl⟩ (fun j σ H' _ ⟨_, _, _, _, _, _, _, _, s2, _⟩ => ⟨SqL.of (s2 _ _ (sG _ _ hx)), SqL.of (s2 _ _ (sG _ _ hy))⟩) ?_ ?_⟩
    · rintro j z σ Hi H2 hj ⟨g, v4, v5, v6, v7, vs, done, rfl, si, ni, hp, pr, hd, dl⟩ ⟨t, vx, vy, rfl, nt, rfl, e1, e2⟩
      obtain ⟨a, ha, haa⟩ := paired_at hp1 e1
      obtain ⟨b, hb, hbb⟩ := paired_at hp2 e2
      have st := same_upd (o := .tup [vx, vy]) nt
      have s2 := si.trans st
      have hta := htiny a (List.mem_of_getElem? ha)
      rw [drop_at (zip_at ha hb), together_step] at hd
      have hd : Sw71.together 0 (la.zip lb) = done ++ ((⟨labelOf (Sw71.mode a b) g, Sw71.linesOf a b⟩ : Sw71.Both) :: Sw71.together (forceOf (labelOf (Sw71.mode a b) g) g) ((la.zip lb).drop (j + 1))) := hd
      refine ⟨t, _, rfl, SqT.of upd_same, rfl, _, _, rfl, _, _, rfl, rfl, ?_⟩
      refine ⟨_, rfl, _, rfl, vx, vy, a, b, rfl, barAt_mono _ _ _ _ (sG.trans s2) haa, barAt_mono _ _ _ _ (sG.trans s2) hbb, hta, fun H3 s3 => ?_⟩
      refine ⟨_, rfl, _, rfl, Sw71.mode a b, g, rfl, ?_⟩
      have s23 := s2.trans s3
      have sti := st.trans s3
      have hp3 : H3 p = some (.lst vs) := sti _ _ hp
      have big : vs.length < sizeLine := small1000 (by rw [pr.length, dl]; omega)
      -- what both ways end with
      have fin : ∀ (H4 H5 : Hp) (wv : V) (r dr : Addr), Same H3 H4 → BarsAt (Grow G H3 H4) wv (Sw71.linesOf a b) → H4 r = none → H4 dr = none → ¬ dr = r → H5 r = some (.ins CL dr (lbF (.int (labelOf (Sw71.mode a b) g : Nat)) wv)) → Fr r (upd (upd H4 dr (.own r)) r (.ins CL dr [])) H5 →
          H5 p = some (.lst vs) ∧ Same H (upd H5 p (.lst (vs ++ [.ref r]))) ∧ (∀ c, (upd H5 p (.lst (vs ++ [.ref r]))) c = none → H1 c = none) ∧ Paired (LinedAt CL (GrowA G H1 (upd H5 p (.lst (vs ++ [.ref r]))))) (vs ++ [.ref r]) (done ++ [⟨labelOf (Sw71.mode a b) g, Sw71.linesOf a b⟩]) := fun H4 H5 wv r dr s4 hw nr nd ne h5 f5 => by
        have s5 := made nr nd ne f5
        have si5 := (sti.trans s4).trans s5
        have nrp : r ≠ p := fun z => by subst z; rw [s4 _ _ hp3] at nr; cases nr
        refine ⟨si5 _ _ hp, fun c o z => ?_, fun c z => ?_, ?_⟩
        · rw [upd_ne (ne_of_none z np)]; exact si5 _ _ (si _ _ z)
        · by_cases w : c = p
          · subst w; rw [upd_same] at z; cases z
          · rw [upd_ne w] at z; exact ni c (si5.free z)
        · have k1 : Same (GrowA G H1 Hi) (GrowA G H1 (upd H5 p (.lst (vs ++ [.ref r])))) := growA_mono fun c o y1 y2 => by
            rw [upd_ne (fun z => by subst z; rw [p1] at y1; cases y1)]
            exact si5 _ _ y2
          have k2 : Same (Grow G H3 H4) (GrowA G H1 (upd H5 p (.lst (vs ++ [.ref r])))) := (grow_growA _ _ _).trans ((growA_mono fun c o y1 y2 => by
            rw [upd_ne (fun z => by subst z; rw [hp3] at y1; cases y1)]
            exact s5 _ _ y2).trans (growA_later fun c w => ni c (sti.free w)))
          have nr1 : H1 r = none := ni r (sti.free (s4.free nr))
          exact Paired.snoc (Paired.mono (fun _ _ h => linedAt_mono _ _ _ _ k1 h) pr) ⟨r, dr, wv, rfl, growA_new (sG.free (n1 r nr1)) nr1 (by rw [upd_ne nrp]; exact h5), barsAt_mono _ _ _ _ k2 hw⟩
      have tail : ∀ g' : Nat, g' = forceOf (labelOf (Sw71.mode a b) g) g → Sw71.together 0 (la.zip lb) = (done ++ [⟨labelOf (Sw71.mode a b) g, Sw71.linesOf a b⟩]) ++ Sw71.together g' ((la.zip lb).drop (j + 1)) := fun g' e => by
        rw [e, hd, List.append_assoc]; rfl
      have dl' : (done ++ [(⟨labelOf (Sw71.mode a b) g, Sw71.linesOf a b⟩ : Sw71.Both)]).length = j + 1 := by rw [List.length_append, dl]; rfl
      by_cases c0 : labelOf (Sw71.mode a b) g = 0
      · refine ⟨_, rfl, _, rfl, iteF_of (by rw [c0]; rfl) ?_⟩
        refine ⟨_, rfl, _, rfl, .inl ⟨rfl, _, SqL.of hp3⟩, _, rfl, _, rfl, _, rfl, _, rfl, vx, vy, a, b, G, rfl, sG.trans s23, haa, hbb, hta, fun H4 wv s4 hw => ?_⟩
        refine fun r dr nr nd ne => ⟨r, dr, _, _, rfl, upd_same, fun H5 h5 f5 => ⟨rfl, ?_⟩⟩
        obtain ⟨q1, q2, q3, q4⟩ := fin H4 H5 wv r dr s4 hw nr nd ne h5 f5
        exact ⟨p, vs, _, rfl, rfl, q1, big, g, _, _, _, _, _, _, rfl, q2, q3, upd_same, q4, tail g (by unfold forceOf; rw [if_pos c0]), dl'⟩
      · refine ⟨_, rfl, _, rfl, iteT_of (bne_iff_ne.mpr (fun z => c0 (Int.ofNat.inj z))) ?_⟩
        refine ⟨_, rfl, .inl ⟨rfl, _, SqL.of hp3⟩, _, rfl, _, rfl, _, rfl, _, rfl, vx, vy, a, b, G, rfl, sG.trans s23, haa, hbb, hta, fun H4 wv s4 hw => ?_⟩
        refine fun r dr nr nd ne => ⟨r, dr, _, _, rfl, upd_same, fun H5 h5 f5 => ⟨rfl, ?_⟩⟩
        obtain ⟨q1, q2, q3, q4⟩ := fin H4 H5 wv r dr s4 hw nr nd ne h5 f5
        exact ⟨p, vs, _, rfl, rfl, q1, big, labelOf (Sw71.mode a b) g, _, _, _, _, _, _, rfl, q2, q3, upd_same, q4, tail _ (by unfold forceOf; rw [if_neg c0]), dl'⟩
    · rintro σ H' ⟨g, v4, v5, v6, v7, vs, done, rfl, si, ni, hp, pr, hd, dl⟩
      rw [List.drop_eq_nil_of_le (by rw [List.length_zip]; omega)] at hd
      have hd : Sw71.together 0 (la.zip lb) = done := hd.trans (List.append_nil _)
      refine ⟨_, rfl, q _ _ si ⟨p, vs, rfl, hp, ?_⟩⟩
      rw [hd]
      exact Paired.mono (fun _ _ h => linedAt_mono _ _ _ _ (growA_in (sG.trans si)) h) pr
end
end Ps

namespace Ps
open PySem PySem.Spec PyProof.Rows L2
section
variable {P : Program} {w : World} {K : PySem.W.Frag} {mg : Str → Option Value} {base : Heap}
/-! ### answer_two -/
def RTwo : Rel := fun l S l' S' out => ∃ a b : Nat, l = (a : Int) :: (b : Int) :: l' ∧ S' = (Sw71.step S (.two a b)).1 ∧ out = Sw71Neutral.out (Sw71.step S (.two a b)).2
def twoOf (S : Sw71.Score) (a b : Nat) : List Sw71.Both := Sw71.together 0 (((S.staves[a]?).getD []).zip ((S.staves[b]?).getD []))
theorem step_two (S : Sw71.Score) (a b : Nat) : Sw71.step S (.two a b) = if S.staves.length ≤ a ∨ S.staves.length ≤ b then (S, Sw71.ok (-2)) else (S, ⟨((twoOf S a b).length : Nat), (twoOf S a b).map Sw71.bothOut⟩) := rfl
theorem ok_answer_two {CR CS CL f : Addr} {fd : FuncData} (n_len : mg "len" = none) (D : Dn K mg "answer_two" s_answer_two ["score", "reader"] f fd) (R : RdC P w K mg base CR) (Z : ScC P w K mg base CS)
    (C1 : Cal P w K mg base "put_on_one" 4 ["first", "second"] (sp_put_on_one CL)) (C2 : Cal P w K mg base "with_lists" 1 ["number", "rows"] sp_with_lists) (C3 : Cal P w K mg base "lined_bar_numbers" 3 ["lined"] (sp_lined_bar_numbers CL)) :
    Cal P w K mg base "answer_two" 5 ["score", "reader"] (AnsSp K CR CS RTwo) := by
  obtain ⟨f_put_on_one, fd_put_on_one, G_put_on_one, m_put_on_one, k_put_on_one, b_put_on_one⟩ := C1.ex
  obtain ⟨f_with_lists, fd_with_lists, G_with_lists, m_with_lists, k_with_lists, b_with_lists⟩ := C2.ex
  obtain ⟨f_lined_bar_numbers, fd_lined_bar_numbers, G_lined_bar_numbers, m_lined_bar_numbers, k_lined_bar_numbers, b_lined_bar_numbers⟩ := C3.ex
  obtain ⟨f_Reader_take, fd_Reader_take, G_Reader_take, h_Reader_take, b_Reader_take⟩ := R.take.ex
  obtain ⟨f_Score_has_staff, fd_Score_has_staff, G_Score_has_staff, h_Score_has_staff, b_Score_has_staff⟩ := Z.has.ex
  refine D.cal (D.fn.ok sc_answer_two (fun vs H Q E h => ?_) (fun cdv A outer s H vs Q E hr h => ?_))
  · obtain ⟨e, sl, l, S, l', S', out, rfl, _⟩ := h
    rfl
  · obtain ⟨e, sl, l, S, l', S', out, rfl, W0, ⟨a, b, rfl, eS, eO⟩, hbig, q⟩ := h
    refine ⟨_, (pss_cons (ps_set (i := 2) sc_answer_two.nd rfl (Or.inl rfl) (pe_meth0 (pv 1) R.cl h_Reader_take G_Reader_take (hr.mono (by decide)) b_Reader_take .nil pass0))
      (pss_cons (ps_set (i := 3) sc_answer_two.nd rfl (Or.inl rfl) (pe_meth0 (pv 1) R.cl h_Reader_take G_Reader_take (hr.mono (by decide)) b_Reader_take .nil pass0))
      (pss_cons (ps_if (PW.pt (pw_or (pt_not (pt_val (pe_meth (pv 0) Z.cl h_Score_has_staff G_Score_has_staff (hr.mono (by decide)) b_Score_has_staff .nil pass0 (pa_cons (pv 2) pa_nil)))) (pw_or1 (pt_not (pt_val (pe_meth (pv 0) Z.cl h_Score_has_staff G_Score_has_staff (hr.mono (by decide)) b_Score_has_staff .nil pass0 (pa_cons (pv 3) pa_nil)))))))
        (pss_one (ps_ret (pe_lst (pa_cons (pe_un un_neg pe_int) pa_nil))))
        pss_nil)
      (pss_cons (ps_set (i := 4) sc_answer_two.nd rfl (Or.inl rfl) (pe_call G_put_on_one (hr.mono (by decide)) rfl m_put_on_one k_put_on_one b_put_on_one .nil pass0 (pa_cons (pe_ix ix_list (pe_fld (pv 0) rfl) (pv 2) (fun _ _ => rfl)) (pa_cons (pe_ix ix_list (pe_fld (pv 0) rfl) (pv 3) (fun _ _ => rfl)) pa_nil))))
      (pss_one (ps_ret (pe_call G_with_lists (hr.mono (by decide)) rfl m_with_lists k_with_lists b_with_lists .nil pass0 (pa_cons (pe_callB call_len_seq (by rfl) n_len PySem.boot_len (pa_cons (pv 4) pa_nil)) (pa_cons (pe_lc (own := [("lined", 5)]) rfl sc_answer_two.nd (pi_list (pv 4)) (blkOk_by (own := [("lined", 5)]) (N := ["score", "reader", "first", "second", "lined_bars", "lined"]) (sc := defScope s_answer_two) (by decide +kernel)) (fun _ _ _ _ _ => (pg_name (i := 5) sc_answer_two.nd rfl (Or.inl rfl))) (fun _ _ _ _ _ => pts_nil) (fun _ _ _ _ _ => (pe_call G_lined_bar_numbers (hr.mono (by decide)) rfl m_lined_bar_numbers k_lined_bar_numbers b_lined_bar_numbers .nil pass0 (pa_cons (pv 5) pa_nil)))) pa_nil))))))))), ?_⟩
    obtain ⟨dx0, p0, hr0, _⟩ := id W0.rd
    refine ⟨_, rfl, e.r, dx0, _, rfl, hr0, rdF_no _ _ (by decide +kernel) (by decide +kernel), e.r, _, _, _, _, rfl, W0.rdAt, fun H1 R1 f1 => ?_⟩
    have W1 := W0.reads R1 f1
    obtain ⟨dx1, p1, hr1, _⟩ := id R1
    refine ⟨_, rfl, e.r, dx1, _, rfl, hr1, rdF_no _ _ (by decide +kernel) (by decide +kernel), e.r, _, _, _, _, rfl, W1.rdAt, fun H2 R2 f2 => ?_⟩
    have W2 := W1.reads R2 f2
    have none2 : ∀ c, H2 c = none → H c = none := fun c z => by
      obtain ⟨dx9, fs9, h9⟩ := R2.ins
      exact fr_none h9 (f1.trans f2) c z
    have f02 : FrW e sl H H2 := frW_r (f1.trans f2)
    obtain ⟨G, hG⟩ := id W2.sc
    obtain ⟨dxs, la, ba, vsl, hs, hla, hba, hsl, hpr⟩ := id hG.ex
    rw [step_two] at eS eO
    have bad : (S.staves.length ≤ a ∨ S.staves.length ≤ b) → ∀ p, H2 p = none → Q (.ref p) (upd H2 p (.lst [V.int (-2)])) := fun c p np => by
      rw [if_pos c] at eS eO
      subst eS eO
      have sp := same_upd (o := .lst [V.int (-2)]) np
      exact q _ p sl (W2.same sp) (f02.trans (frW_same sp)) ⟨_, sp _ _ hsl⟩ (.inl rfl) (none2 p np) upd_same
    refine ⟨_, rfl, e.s, dxs, _, rfl, hs, scF_no _ _ _ (by decide +kernel) (by decide +kernel) (by decide +kernel), _, rfl, e.s, sl, e.t, a, G, S, rfl, hG, _, rfl, ?_⟩
    by_cases c1 : a < S.staves.length
    case neg =>
      refine iteT_of (by rw [decide_eq_false c1]; rfl) ?_
      exact ⟨_, rfl, by show 1 ≤ sizeLine; decide, fun p np => bad (.inl (by omega)) p np⟩
    refine iteF_of (by rw [decide_eq_true c1]; rfl) ?_
    refine ⟨_, rfl, e.s, dxs, _, rfl, hs, scF_no _ _ _ (by decide +kernel) (by decide +kernel) (by decide +kernel), _, rfl, e.s, sl, e.t, b, G, S, rfl, hG, _, rfl, ?_⟩
    by_cases c2 : b < S.staves.length
    case neg =>
      refine iteT_of (by rw [decide_eq_false c2]; rfl) ?_
      exact ⟨_, rfl, by show 1 ≤ sizeLine; decide, fun p np => bad (.inr (by omega)) p np⟩
    refine iteF_of (by rw [decide_eq_true c2]; rfl) ?_
    rw [if_neg (by omega)] at eS eO
    have eS3 : S = S' := eS.symm
    subst eS3
    have ea := List.getElem?_eq_getElem c1
    have eb := List.getElem?_eq_getElem c2
    obtain ⟨va, hva, hta⟩ := paired_at' hpr ea
    obtain ⟨vb, hvb, htb⟩ := paired_at' hpr eb
    have la' := W2.good.len _ (List.mem_of_getElem? ea)
    have lb' := W2.good.len _ (List.mem_of_getElem? eb)
    have sh := W2.good.short
    have et : twoOf S a b = Sw71.together 0 ((S.staves[a]).zip (S.staves[b])) := by
      unfold twoOf
      rw [ea, eb]; rfl
    rw [et] at eO
    refine ⟨_, rfl, e.s, CS, dxs, _, _, rfl, hs, Z.cl, Z.nS, scF_s _ _ _, _, rfl, sl, _, _, va, rfl, rfl, SqL.of hsl, atI_nat hva, _, rfl, e.s, CS, dxs, _, _, rfl, hs, Z.cl, Z.nS, scF_s _ _ _, _, rfl, sl, _, _, vb, rfl, rfl, SqL.of hsl, atI_nat hvb,
      va, vb, S.staves[a], S.staves[b], G, rfl, hG.sub, hta, htb, by omega, by omega, fun x hx => Nat.le_trans (W2.good.tiny _ (List.mem_of_getElem? ea) x hx) (by decide), fun H5 us s5 hus => ?_⟩
    obtain ⟨ua, uxs, rfl, hua, hup⟩ := hus
    generalize hst : Sw71.together 0 ((S.staves[a]).zip (S.staves[b])) = lined at eO hup
    have hbig2 : (Sw71Neutral.out ⟨(lined.length : Nat), lined.map Sw71.bothOut⟩).length ≤ 1000000 := eO ▸ hbig
    have few : lined.length ≤ 1000000 := by
      have := out_num (lined.length : Nat) (lined.map Sw71.bothOut)
      rw [List.length_map] at this
      exact Nat.le_trans this hbig2
    refine ⟨_, rfl, ua, _, rfl, .inl (SqL.of hua), _, rfl, ua, rfl, ⟨_, SqL.of hua⟩, fun L nL => lc_list (K := K) (a := ua) (xs := uxs) (fun j H' => ∃ vs, Same H5 H' ∧ (∀ c, H' c = none → (upd H5 L (.lst [])) c = none) ∧ H' L = some (.lst vs) ∧ Paired (NumsAt (Grow Hp0 (upd H5 L (.lst [])) H')) vs ((lined.take j).map Sw71.bothOut))
      ⟨[], same_upd nL, fun c h => h, upd_same, .nil⟩ (fun j H' _ ⟨_, s6, _⟩ => SqL.of (s6 _ _ hua)) ?_ ?_⟩
    · have pL : (upd H5 L (.lst [])) L = some (.lst []) := upd_same
      generalize hH6 : upd H5 L (.lst []) = H6 at pL ⊢
      rintro j y Hi hj ⟨vs, si, ni, hL, pr⟩
      obtain ⟨st, hst1, hsta⟩ := paired_at hup hj
      have lj := lt_of_at hst1
      refine ⟨rfl, lc_yes ?_⟩
      refine ⟨_, rfl, y, st, rfl, linedAt_mono _ _ _ _ si hsta, ?_, fun Hk z sk nz hz => ?_⟩
      · exact Nat.le_trans (out_row (lined.length : Nat) (lined.map Sw71.bothOut) _ (List.mem_map.mpr ⟨st, List.mem_of_getElem? hst1, rfl⟩)) hbig2
      refine ⟨vs, sk _ _ hL, line_big (by rw [pr.length, List.length_map, List.length_take]; omega), vs ++ [.ref z], fun c o w => ?_, fun c w => ?_, upd_same, ?_⟩
      · rw [upd_ne (ne_of_none w nL)]; exact sk _ _ (si _ _ w)
      · by_cases v : c = L
        · subst v; rw [upd_same] at w; cases w
        · rw [upd_ne v] at w; exact ni c (sk.free w)
      · rw [snoc_take hst1, List.map_append]
        have nzL : z ≠ L := fun w => by subst w; rw [hL] at nz; cases nz
        have k1 : Same (Grow Hp0 H6 Hi) (Grow Hp0 H6 (upd Hk L (.lst (vs ++ [.ref z])))) := grow_mono fun a o y1 y2 _ => by
          rw [upd_ne (fun z => by subst z; rw [pL] at y1; cases y1)]
          exact sk _ _ y2
        exact Paired.snoc (Paired.mono (fun _ _ h => numsAt_mono _ _ _ _ k1 h) pr) ⟨z, rfl, grow_at (ni z nz) (by rw [upd_ne nzL]; exact hz) rfl⟩
    · rintro H7 ⟨vs, si, ni, hL, pr⟩
      rw [hup.length, List.take_length] at pr
      subst eO
      refine ⟨(uxs.length : Nat), .ref L, lined.map Sw71.bothOut, rfl, ⟨L, vs, rfl, hL, Paired.mono (fun _ _ h => numsAt_mono _ _ _ _ (grow_in (same0 _)) h) pr⟩, ?_, fun H8 p s8 np hp => ?_⟩
      · rw [hup.length]
        exact Nat.le_trans hbig2 (by decide)
      rw [hup.length] at hp
      have s28 := (s5.trans si).trans s8
      exact q _ p sl (W2.same s28) (f02.trans (frW_same s28)) ⟨_, s28 _ _ hsl⟩ (.inl rfl) (none2 p ((s5.trans si).free np)) hp
end
end Ps

/-! zip over three lists: my own rule beside the layer's two. -/
namespace Ps
open PySem PySem.Spec PyProof.Rows L2
/-- three lists as they stand at each turn, the items in new triples -/
def It3 (K : PySem.W.Frag) (a b c : Addr) : It :=
  ⟨fun i H => ∃ (xs ys zs : List V), SqL K H a xs ∧ SqL K H b ys ∧ SqL K H c zs ∧ i < xs.length ∧ i < ys.length ∧ i < zs.length,
    fun i H v H' => ∃ T x y z, v = .ref T ∧ H T = none ∧ H' = upd H T (.tup [x, y, z]) ∧ (∀ xs, SqL K H a xs → xs[i]? = some x) ∧ (∀ ys, SqL K H b ys → ys[i]? = some y) ∧ ∀ zs, SqL K H c zs → zs[i]? = some z,
    fun i H => ∃ xs ys zs : List V, SqL K H a xs ∧ SqL K H b ys ∧ SqL K H c zs ∧ i = xs.length ∧ i = ys.length ∧ i = zs.length⟩
theorem mem5 {b z TI TO i1 i2 i3 : Addr} (h : b ∈ [z, TI, TO, i1, i2, i3]) : b = z ∨ b = TI ∨ b = TO ∨ b = i1 ∨ b = i2 ∨ b = i3 := by simpa using h
theorem turn_zip3 {P : Program} {w : World} {K : PySem.W.Frag} {elts : List Expr} {kk : Nat} {tpos : Pos} {a b c z TI TO i1 i2 i3 : Addr} (D : ZipSep3 z TI TO i1 i2 i3 [i1, a] [i2, b] [i3, c]) (na : a ≠ i1) (nb : b ≠ i2) (nc : c ≠ i3) :
    Turn P w K (.Tuple elts kk tpos) (It3 K a b c) [z, TI, TO, i1, i2, i3] z (fun i h => IsZip h z TI TO .none ∧ IsTupOf3 h TI (.ref i1) (.ref i2) (.ref i3) ∧ (∃ x y u, IsTupOf3 h TO x y u) ∧ h.IsListIter i1 a i ∧ h.IsListIter i2 b i ∧ h.IsListIter i3 c i) where
  mem := by simp
  obj := fun i h st d hd => by
    obtain ⟨hz, hTI, ⟨x, y, u, hTO⟩, ⟨o1, e1, _, d1⟩, ⟨o2, e2, _, d2⟩, ⟨o3, e3, _, d3⟩⟩ := st
    rcases mem5 hd with q | q | q | q | q | q
    · rw [q]; exact ⟨_, hz, fun v q => nomatch q⟩
    · rw [q]; exact ⟨_, hTI, fun v q => nomatch q⟩
    · rw [q]; exact ⟨_, hTO, fun v q => nomatch q⟩
    · rw [q]; exact ⟨o1, e1, fun v q => by rw [d1] at q; cases q⟩
    · rw [q]; exact ⟨o2, e2, fun v q => by rw [d2] at q; cases q⟩
    · rw [q]; exact ⟨o3, e3, fun v q => by rw [d3] at q; cases q⟩
  keep := fun i h h' st k => by
    obtain ⟨hz, hTI, ⟨x, y, u, hTO⟩, h1, h2, h3⟩ := st
    exact ⟨k z (by simp) _ hz, k TI (by simp) _ hTI, ⟨x, y, u, k TO (by simp) _ hTO⟩, h1.at fun o q => k i1 (by simp) o q, h2.at fun o q => k i2 (by simp) o q, h3.at fun o q => k i3 (by simp) o q⟩
  item := by
    intro X hP hw hK hc i pins s σ H E I hf st hg
    subst hP hw hK
    obtain ⟨hz, hTI, ⟨x0, y0, u0, hTO⟩, h1, h2, h3⟩ := st
    obtain ⟨xs, ys, zs, hqx, hqy, hqz, l1, l2, l3⟩ := hg
    obtain ⟨its, rv, p, _⟩ := I.list hqx
    obtain ⟨its2, rv2, p2, _⟩ := I.list hqy
    obtain ⟨its3, rv3, p3, _⟩ := I.list hqz
    obtain ⟨u, hu, ru⟩ := rv.get (List.getElem?_eq_getElem l1)
    obtain ⟨u2, hu2, ru2⟩ := rv2.get (List.getElem?_eq_getElem l2)
    obtain ⟨u3, hu3, ru3⟩ := rv3.get (List.getElem?_eq_getElem l3)
    have hzl : z < s.heap.objs.size := Heap.lt_size hz
    have hd : X.A.in1.handled = none := I.ok.hd hc
    have e1 := rv.length
    have e2 := rv2.length
    have e3 := rv3.length
    refine wpAny_pyNext_zipD3_item D (Draws.list hd i1 a na its.toArray) (Draws.list hd i2 b nb its2.toArray) (Draws.list hd i3 c nc its3.toArray) hz hTI hTO ⟨h1, p.isList⟩ ⟨h2, p2.isList⟩ ⟨h3, p3.isList⟩ (by simp; omega) (by simp; omega) (by simp; omega)
      fun v1 v2 v3 h' tk q1 q2 q3 z' TO' h1' h2' h3' hT hsz hk => ?_
    have f1 : u = v1 := by
      have q1 : its.toArray[i]? = some v1 := q1
      rw [List.getElem?_toArray, hu] at q1; exact Option.some.inj q1
    have f2 : u2 = v2 := by
      have q2 : its2.toArray[i]? = some v2 := q2
      rw [List.getElem?_toArray, hu2] at q2; exact Option.some.inj q2
    have f3 : u3 = v3 := by
      have q3 : its3.toArray[i]? = some v3 := q3
      rw [List.getElem?_toArray, hu3] at q3; exact Option.some.inj q3
    subst f1 f2 f3
    refine ⟨_, rfl, wpAny_letOwnedTupleGo_zip (s := { s with heap := h', toks := tk }) z' fun h'' z'' sb => ?_⟩
    have hT2 : h''.get? s.heap.objs.size = some { cls := .type "tuple", data := .seq #[u, u2, u3] } := (sb.2 _ (Nat.ne_of_gt hzl)).trans hT
    have new : ObjOk X.prog X.w (upd H s.heap.objs.size (.tup [xs[i], ys[i], zs[i]])) h'' s.heap.objs.size (.tup [xs[i], ys[i], zs[i]]) :=
      ⟨by show 3 ≤ sizeLine; decide, [u, u2, u3], .cons ru (.cons ru2 (.cons ru3 .nil)), ⟨_, hT2, rfl, _, rfl⟩⟩
    have kk : ∀ d o, d ≠ z → d ≠ TO → d ≠ i1 → d ≠ i2 → d ≠ i3 → s.heap.get? d = some o → h''.get? d = some o := fun d o n1 n2 n3 n4 n5 q => (sb.2 d n1).trans (hk d o n1 n2 n3 n4 n5 q)
    have I1 : Inv X pins σ (upd H s.heap.objs.size (.tup [xs[i], ys[i], zs[i]])) { s with heap := h'', toks := tk } :=
      I.turnedNew (t' := tk) (ch := [z, TI, TO, i1, i2, i3]) (fun d o hb q => kk d o (fun q' => hb (by simp [q'])) (fun q' => hb (by simp [q'])) (fun q' => hb (by simp [q'])) (fun q' => hb (by simp [q'])) (fun q' => hb (by simp [q'])) q) hf (Nat.le_refl _) new
    have up : ∀ d o, d ≠ z → h'.get? d = some o → h''.get? d = some o := fun d o n q => (sb.2 d n).trans q
    refine ⟨.ref s.heap.objs.size, _, I1, rfl, ⟨_, _, _, _, rfl, I.hok.fresh (Nat.le_refl _), rfl, fun l hl => ?_, fun l hl => ?_, fun l hl => ?_⟩, ⟨z'', up _ _ D.TIz (hk _ _ D.TIz D.TITO D.TIi1 D.TIi2 D.TIi3 hTI), ⟨u, u2, u3, up _ _ D.TOz TO'⟩, ?_, ?_, ?_⟩, fun d hcm => ?_⟩
    · rw [I.list_inj hl hqx]; exact List.getElem?_eq_getElem l1
    · rw [I.list_inj hl hqy]; exact List.getElem?_eq_getElem l2
    · rw [I.list_inj hl hqz]; exact List.getElem?_eq_getElem l3
    · exact h1'.1.at fun o q => up _ o D.zi1.symm q
    · exact h2'.1.at fun o q => up _ o D.zi2.symm q
    · exact h3'.1.at fun o q => up _ o D.zi3.symm q
    · have hlt : d < s.heap.objs.size := by
        rcases mem5 hcm with q | q | q | q | q | q
        · rw [q]; exact hzl
        · rw [q]; exact Heap.lt_size hTI
        · rw [q]; exact Heap.lt_size hTO
        · rw [q]; obtain ⟨_, e1, _⟩ := h1; exact Heap.lt_size e1
        · rw [q]; obtain ⟨_, e2, _⟩ := h2; exact Heap.lt_size e2
        · rw [q]; obtain ⟨_, e3, _⟩ := h3; exact Heap.lt_size e3
      rw [upd_ne (Nat.ne_of_lt hlt)]
      exact (hf d hcm).1
  done := by
    intro X hP hw hK hc i pins s σ H E I hf st hg
    subst hP hw hK
    obtain ⟨hz, hTI, ⟨x0, y0, u0, hTO⟩, h1, h2, h3⟩ := st
    obtain ⟨xs, ys, zs, hqx, hqy, hqz, l1, l2, l3⟩ := hg
    obtain ⟨its, rv, p, _⟩ := I.list hqx
    obtain ⟨its2, rv2, p2, _⟩ := I.list hqy
    obtain ⟨its3, rv3, p3, _⟩ := I.list hqz
    have hd : X.A.in1.handled = none := I.ok.hd hc
    have e1 := rv.length
    have e2 := rv2.length
    have e3 := rv3.length
    exact wpAny_pyNext_zipD3_end D (Draws.list hd i1 a na its.toArray) (Draws.list hd i2 b nb its2.toArray) (Draws.list hd i3 c nc its3.toArray) hz hTI hTO ⟨h1, p.isList⟩ ⟨h2, p2.isList⟩ ⟨h3, p3.isList⟩ (by simp; omega) (by simp; omega) (by simp; omega) (.inl (by simp; omega))
      fun h' tk hk => ⟨rfl, I.turnedL (t' := tk) (ch := [z, TI, TO, i1, i2, i3]) (fun d o hb q => hk d o (fun q' => hb (by simp [q'])) (fun q' => hb (by simp [q'])) (fun q' => hb (by simp [q'])) (fun q' => hb (by simp [q'])) (fun q' => hb (by simp [q'])) q) hf⟩
  self := fun A i s Q E st h => wpAny_pyIter_zip st.1 h
def iZip3 (K : PySem.W.Frag) (ta : TA) : TI := fun σ H R => ta σ H fun vs H1 => ∃ a b c xs ys zs, vs = [.ref a, .ref b, .ref c] ∧ SqL K H1 a xs ∧ SqL K H1 b ys ∧ SqL K H1 c zs ∧ R (It3 K a b c) H1
theorem pi_zip3 {X : Cx} {e e2 e3 : Expr} {ta : TA} {p pos tpos : Pos} {elts : List Expr} {kk : Nat} (hg : Gl X "zip") (hm : X.mg "zip" = none) (ha : PA X [e, e2, e3] ta)
    (hs : starEach [e, e2, e3] X.env = (false, eval e X.env) :: starEach [e2, e3] X.env := by rfl) (hpl : (backTo pos (starEach [e2, e3] X.env)).any (·.1) = false := by rfl) :
    PI X (.Tuple elts kk tpos) (.Call (.Name "zip" p) [e, e2, e3] [] pos) (iZip3 X.K ta) := by
  refine ⟨fun pins s σ H R I h => ?_⟩
  refine Call_ (ld_blt I hg hm PyProof.Rows.boot_zip (PyProof.Rows.callWith_type1 (thn (ha.run pos pins s σ H _ I h) fun us s1 ⟨vs, H1, I1, r1, q1⟩ => ?_) hs hpl))
  obtain ⟨a, b, c, xs, ys, zs, ex, hqx, hqy, hqz, q⟩ := q1
  subst ex
  cases r1 with
  | cons r rr =>
    cases rr with
    | cons r' rr =>
      cases rr with
      | cons r'' rr =>
        cases rr
        cases r
        cases r'
        cases r''
        obtain ⟨its, rv, p1, _⟩ := I1.list hqx
        obtain ⟨its2, rv2, p2, _⟩ := I1.list hqy
        obtain ⟨its3, rv3, p3, _⟩ := I1.list hqz
        have la : a < s1.heap.objs.size := p1.lt
        have lb : b < s1.heap.objs.size := p2.lt
        have lc : c < s1.heap.objs.size := p3.lt
        refine zip_begins3 (begins_list a its.toArray) (begins_list b its2.toArray) (begins_list c its3.toArray) p1.isList p2.isList p3.isList fun h' hz hTI hTO g1 g2 g3 hsz hk => wpAny_pyIter_zip hz ?_
        have I2 : Inv X pins σ H1 { s1 with heap := h' } := I1.kept (t' := s1.toks) hk
        have one : ∀ {d : Addr}, d < s1.heap.objs.size → ∀ x ∈ [d], x < s1.heap.objs.size := fun h x hx => by
          rw [List.mem_singleton.mp hx]; exact h
        refine ⟨s1.heap.objs.size + 5, [s1.heap.objs.size + 5, s1.heap.objs.size + 3, s1.heap.objs.size + 4, s1.heap.objs.size, s1.heap.objs.size + 1, s1.heap.objs.size + 2], _, _, H1, rfl, I2,
          turn_zip3 (zip_sep3 (one la) (one lb) (one lc)) (Nat.ne_of_lt la) (Nat.ne_of_lt (Nat.lt_succ_of_lt lb)) (Nat.ne_of_lt (Nat.lt_succ_of_lt (Nat.lt_succ_of_lt lc))), ⟨hz, hTI, ⟨_, _, _, hTO⟩, ⟨_, g1, rfl, rfl⟩, ⟨_, g2, rfl, rfl⟩, ⟨_, g3, rfl, rfl⟩⟩, fun d hd => ?_, q⟩
        have hle : s1.heap.objs.size ≤ d := by
          rcases mem5 hd with z | z | z | z | z | z
          · rw [z]; exact Nat.le_add_right _ _
          · rw [z]; exact Nat.le_add_right _ _
          · rw [z]; exact Nat.le_add_right _ _
          · rw [z]; exact Nat.le_refl _
          · rw [z]; exact Nat.le_add_right _ _
          · rw [z]; exact Nat.le_add_right _ _
        exact I1.fpOk hle (I1.hok.fresh hle)
/-- a new triple -/
def YTri (xs ys zs : List V) : Nat → Hp → V → Hp → Prop := fun i H v H' => ∃ T x y z, v = .ref T ∧ H T = none ∧ H' = upd H T (.tup [x, y, z]) ∧ xs[i]? = some x ∧ ys[i]? = some y ∧ zs[i]? = some z
theorem walk_zip3 {K : PySem.W.Frag} {a b c : Addr} {xs ys zs : List V} {n : Nat} (h1 : xs.length = n) (h2 : ys.length = n) (h3 : zs.length = n) : Walk (It3 K a b c) n (fun H => SqL K H a xs ∧ SqL K H b ys ∧ SqL K H c zs) (YTri xs ys zs) := by
  refine ⟨fun i _ hi q => ⟨xs, ys, zs, q.1, q.2.1, q.2.2, by omega, by omega, by omega⟩, fun _ q => ⟨xs, ys, zs, q.1, q.2.1, q.2.2, h1.symm, h2.symm, h3.symm⟩, fun i H v H' _ q y => ?_⟩
  obtain ⟨T, x, y, z, e1, e2, e3, e4, e5, e6⟩ := y
  exact ⟨T, x, y, z, e1, e2, e3, e4 _ q.1, e5 _ q.2.1, e6 _ q.2.2⟩
end Ps

namespace Ps
open PySem PySem.Spec PyProof.Rows L2
section
variable {P : Program} {w : World} {K : PySem.W.Frag} {mg : Str → Option Value} {base : Heap}
/-! ### labels_in_force -/
def forces : Nat → List Sw71.Both → List Nat
  | _, [] => []
  | f, x :: l => forceOf x.label f :: forces (forceOf x.label f) l
theorem forces_length : ∀ (f : Nat) (l : List Sw71.Both), (forces f l).length = l.length
  | _, [] => rfl
  | f, x :: l => by
    show (forces (forceOf x.label f) l).length + 1 = l.length + 1
    rw [forces_length]
def sp_labels_in_force (CL : Addr) : Sp := fun vs H Q _ => ∃ u l, vs = [u] ∧ ListAt (LinedAt CL) H u l ∧ l.length ≤ 1000 ∧ ∀ H' p, Same H H' → H p = none → H' p = some (.lst (nV (forces 0 l))) → Q (.ref p) H'
theorem ok_labels_in_force {CL f : Addr} {fd : FuncData} (T : TxtM mg) (D : Dn K mg "labels_in_force" s_labels_in_force ["lined_bars"] f fd) (B : TxtLb K CL) : Cal P w K mg base "labels_in_force" 1 ["lined_bars"] (sp_labels_in_force CL) := by
  refine D.cal (D.fn.ok sc_labels_in_force (fun vs H Q E h => ?_) (fun cdv A outer s0 H vs Q E hr h => ?_))
  · obtain ⟨u, l, rfl, _⟩ := h
    rfl
  · obtain ⟨u, l, rfl, ⟨ua, uxs, rfl, hua, hup⟩, hlen, q⟩ := h
    refine ⟨_, (pss_cons (ps_set (i := 1) sc_labels_in_force.nd rfl (Or.inl rfl) (pe_lst pa_nil))
      (pss_cons (ps_set (i := 2) sc_labels_in_force.nd rfl (Or.inl rfl) (pe_gi rfl T.g_NO_LABEL))
      (pss_cons (ps_for PassesOwn.never rfl (pi_list (pv 0)) (pg_name (i := 3) sc_labels_in_force.nd rfl (Or.inl rfl))
        (pss_cons (ps_set (i := 2) sc_labels_in_force.nd rfl (Or.inl rfl) (pe_orT (pe_fld (pv 3) rfl) (pe_one (pv 2))))
        (pss_one (ps_expr (pe_bm PySem.F.plainAttrs_list PySem.F.slot_list_append PySem.F.type_list_append mt_append (pv 1) (pa_cons (pv 2) pa_nil))))))
      (pss_one (ps_ret (pv 1)))))), ?_⟩
    refine ⟨Nat.zero_le _, fun p np => ?_⟩
    have s1 := same_upd (o := .lst []) np
    refine ⟨_, rfl, ua, rfl, ⟨_, SqL.of (s1 _ _ hua)⟩, for_list (K := K) (a := ua) (xs := uxs) (fun j σ H' => ∃ (g : Nat) (v3 : Option V) (done : List Nat), σ = [some (.ref ua), some (.ref p), some (.int (g : Nat)), v3] ∧ Same H H' ∧ H' p = some (.lst (nV done)) ∧ forces 0 l = done ++ forces g (l.drop j) ∧ done.length = j)
      ⟨0, none, [], rfl, s1, upd_same, rfl, rfl⟩ (fun j σ H' _ ⟨_, _, _, _, s2, _⟩ => SqL.of (s2 _ _ hua)) ?_ ?_⟩
    · rintro j y σ Hi hj ⟨g, v3, done, rfl, si, hp, hd, dl⟩
      obtain ⟨x, hx, a, dx, bv, rfl, ha, _⟩ := paired_at hup hj
      rw [drop_at hx] at hd
      have hd : forces 0 l = done ++ (forceOf x.label g :: forces (forceOf x.label g) (l.drop (j + 1))) := hd
      have lj := lt_of_at hx
      have big : (nV done).length < sizeLine := small1000 (by rw [nV_length, dl]; omega)
      refine ⟨_, rfl, a, CL, dx, _, _, rfl, si _ _ ha, B.cl, B.nA, lbF_k _ _, _, rfl, ?_⟩
      have fin : ∀ g' : Nat, g' = forceOf x.label g → Same H (upd Hi p (.lst (nV done ++ [V.int (g' : Nat)]))) ∧ (upd Hi p (.lst (nV done ++ [V.int (g' : Nat)]))) p = some (.lst (nV (done ++ [g']))) ∧ forces 0 l = (done ++ [g']) ++ forces g' (l.drop (j + 1)) ∧ (done ++ [g']).length = j + 1 := fun g' e => by
        refine ⟨fun c o z => ?_, ?_, ?_, ?_⟩
        · rw [upd_ne (ne_of_none z np)]; exact si _ _ z
        · rw [upd_same, nV_append]; rfl
        · rw [e, hd, List.append_assoc]; rfl
        · rw [List.length_append, dl]; rfl
      by_cases c0 : x.label = 0
      · refine iteF_of (by rw [c0]; rfl) ?_
        obtain ⟨q1, q2, q3, q4⟩ := fin g (by unfold forceOf; rw [if_pos c0])
        exact ⟨_, rfl, _, rfl, .inl ⟨rfl, _, SqL.of hp⟩, _, rfl, p, _, _, rfl, rfl, hp, big, g, _, done ++ [g], rfl, q1, q2, q3, q4⟩
      · refine iteT_of (bne_iff_ne.mpr (fun z => c0 (Int.ofNat.inj z))) ?_
        obtain ⟨q1, q2, q3, q4⟩ := fin x.label (by unfold forceOf; rw [if_neg c0])
        exact ⟨_, rfl, .inl ⟨rfl, _, SqL.of hp⟩, _, rfl, p, _, _, rfl, rfl, hp, big, x.label, _, done ++ [x.label], rfl, q1, q2, q3, q4⟩
    · rintro σ H' ⟨g, v3, done, rfl, si, hp, hd, dl⟩
      rw [hup.length, List.drop_length] at hd
      have hd : forces 0 l = done := hd.trans (List.append_nil _)
      rw [← hd] at hp
      exact ⟨_, rfl, q _ _ si np hp⟩
/-! ### may_be_chords -/
def halvesOk (b : Sw71.Bar) : Bool := b.all fun x => x.keys.isEmpty || decide (x.keys.length = 2)
def lenR (K : PySem.W.Frag) : List V → Hp → VK → Prop := fun xs H Q => ∃ p ys, xs = [.ref p] ∧ (SqL K H p ys ∨ SqT K H p ys) ∧ Q (.int ys.length) H
def sp_may_be_chords : Sp := fun vs H Q _ => ∃ u b, vs = [u] ∧ BarAt H u b ∧ b.length ≤ 1000 ∧ ∀ H', Same H H' → Q (.bl (halvesOk b)) H'
theorem ok_may_be_chords {f : Addr} {fd : FuncData} (n_len : mg "len" = none) (n_all : mg "all" = none) (D : Dn K mg "may_be_chords" s_may_be_chords ["line"] f fd) : Cal P w K mg base "may_be_chords" 1 ["line"] sp_may_be_chords := by
  refine D.cal (D.fn.ok sc_may_be_chords (fun vs H Q E h => ?_) (fun cdv A outer s0 H vs Q E hr h => ?_))
  · obtain ⟨u, b, rfl, _⟩ := h
    rfl
  · obtain ⟨u, b, rfl, ⟨x, xs, rfl, hx, hp⟩, hlen, q⟩ := h
    refine ⟨_, (pss_one (ps_ret (pe_callB (cr_all rfl) (by rfl) n_all (by decide +kernel) (pa_cons (pe_lc (own := [("length", 1), ("keys", 2)]) (g := gTup K 2 (gCons (gName 1) (gCons (gName 2) gNil))) (te := tOrV (tOp rEq (tCB (lenR K) (tCons (tVar 2) tNil)) (tC (.int 0))) (tOp rEq (tCB (lenR K) (tCons (tVar 2) tNil)) (tC (.int 2)))) rfl sc_may_be_chords.nd (pi_list (pv 0)) (blkOk_by (own := [("length", 1), ("keys", 2)]) (N := ["line", "length", "keys"]) (sc := defScope s_may_be_chords) (by decide +kernel)) (fun _ _ _ _ _ => (pg_tup rfl (pgs_cons (pg_name (i := 1) sc_may_be_chords.nd rfl (Or.inl rfl)) (pgs_cons (pg_name (i := 2) sc_may_be_chords.nd rfl (Or.inl rfl)) pgs_nil)))) (fun _ _ _ _ _ => pts_nil) (fun _ _ _ _ _ => (pe_or (pe_cmpR op_eq (pe_callB call_len_seq (by rfl) n_len PySem.boot_len (pa_cons (pv 2) pa_nil)) pe_int (nomark _)) (pe_one (pe_cmpR op_eq (pe_callB call_len_seq (by rfl) n_len PySem.boot_len (pa_cons (pv 2) pa_nil)) pe_int (nomark _)))))) pa_nil)))), ?_⟩
    refine ⟨_, rfl, x, rfl, ⟨_, SqL.of hx⟩, fun L nL => lc_list (K := K) (a := x) (xs := xs) (fun i H' => Same H H' ∧ H' L = some (.lst (((b.take i).map fun x => x.keys.isEmpty || decide (x.keys.length = 2)).map V.bl)))
      ⟨same_upd nL, upd_same⟩ (fun i H' _ ⟨s, _⟩ => SqL.of (s _ _ hx)) ?_ ?_⟩
    · rintro i y H' hi ⟨s, hL⟩
      obtain ⟨it, hit, t, k, rfl, ht, l, rfl, hl⟩ := paired_at hp hi
      refine ⟨t, _, rfl, SqT.of (s _ _ ht), rfl, _, _, rfl, _, _, rfl, rfl, rfl, ?_⟩
      refine lc_yes ?_
      have big : (((b.take i).map fun x => x.keys.isEmpty || decide (x.keys.length = 2)).map V.bl).length < sizeLine := small1000 (by rw [List.length_map, List.length_map, List.length_take]; omega)
      have next : ∀ c : Bool, c = (it.keys.isEmpty || decide (it.keys.length = 2)) → Same H (upd H' L (.lst (((b.take i).map fun x => x.keys.isEmpty || decide (x.keys.length = 2)).map V.bl ++ [V.bl c]))) ∧ (upd H' L (.lst (((b.take i).map fun x => x.keys.isEmpty || decide (x.keys.length = 2)).map V.bl ++ [V.bl c]))) L = some (.lst (((b.take (i + 1)).map fun x => x.keys.isEmpty || decide (x.keys.length = 2)).map V.bl)) := fun c e => by
        refine ⟨fun a o z => ?_, ?_⟩
        · rw [upd_ne (ne_of_none z nL)]; exact s _ _ z
        · rw [upd_same, snoc_take hit, List.map_append, List.map_append, e]; rfl
      refine ⟨_, rfl, l, _, rfl, .inl (SqL.of (s _ _ hl)), rfl, _, rfl, ?_⟩
      rw [nV_length]
      by_cases c0 : it.keys.length = 0
      · refine iteT_of ((int_dec _ 0).trans (decide_eq_true c0)) ?_
        exact ⟨_, hL, big, next true (by rw [List.length_eq_zero_iff.mp c0]; rfl)⟩
      · refine iteF_of ((int_dec _ 0).trans (decide_eq_false c0)) ?_
        refine ⟨_, rfl, l, _, rfl, .inl (SqL.of (s _ _ hl)), rfl, _, hL, big, next _ ?_⟩
        rw [nV_length]
        have e : it.keys.isEmpty = false := by
          cases h : it.keys with
          | nil => rw [h] at c0; exact absurd rfl c0
          | cons _ _ => rfl
        rw [e, Bool.false_or]
        exact int_dec _ 2
    · rintro H1 ⟨s, hL⟩
      rw [hp.length, List.take_length] at hL
      refine ⟨L, _, rfl, SqL.of hL, ?_⟩
      have e : ((b.map fun x => x.keys.isEmpty || decide (x.keys.length = 2)).all id) = halvesOk b := by
        unfold halvesOk
        rw [List.all_map]; rfl
      rw [e]
      exact q _ s
/-! ### lined_bar_as_told -/
def linedOk (x : Sw71.Both) (g n : Nat) : Bool :=
  if 2 < x.lines.length ∨ x.lines.all (Sw71.barOk n) = false then false
  else if x.lines.length = 1 then (if g = 4 then halvesOk (x.lines.getD 0 []) else [1, 2, 3].contains g)
  else decide (x.label = 0)
theorem barOk_tiny {n : Nat} {b : Sw71.Bar} (h : Sw71.barOk n b = true) : b.length ≤ 1000 := by
  unfold Sw71.barOk at h
  rw [Bool.and_eq_true, Bool.and_eq_true] at h
  exact Nat.le_trans (of_decide_eq_true h.2.1) (by decide)
def sp_lined_bar_as_told (CL : Addr) : Sp := fun vs H Q _ => ∃ u x g n, vs = [u, .int (g : Nat), .int (n : Nat)] ∧ LinedAt CL H u x ∧ x.lines.length ≤ 1000 ∧ ∀ H', Same H H' → Q (.bl (linedOk x g n)) H'
theorem ok_lined_bar_as_told {CL f : Addr} {fd : FuncData} (T : TxtM mg) (n_len : mg "len" = none) (D : Dn K mg "lined_bar_as_told" s_lined_bar_as_told ["lined", "in_force", "bar_length"] f fd) (B : TxtLb K CL)
    (C1 : Cal P w K mg base "bars_as_told" 3 ["bars", "bar_length"] sp_bars_as_told) (C2 : Cal P w K mg base "may_be_chords" 1 ["line"] sp_may_be_chords) :
    Cal P w K mg base "lined_bar_as_told" 4 ["lined", "in_force", "bar_length"] (sp_lined_bar_as_told CL) := by
  obtain ⟨f_bars_as_told, fd_bars_as_told, G_bars_as_told, m_bars_as_told, k_bars_as_told, b_bars_as_told⟩ := C1.ex
  obtain ⟨f_may_be_chords, fd_may_be_chords, G_may_be_chords, m_may_be_chords, k_may_be_chords, b_may_be_chords⟩ := C2.ex
  refine D.cal (D.fn.ok sc_lined_bar_as_told (fun vs H Q E h => ?_) (fun cdv A outer s0 H vs Q E hr h => ?_))
  · obtain ⟨u, x, g, n, rfl, _⟩ := h
    rfl
  · obtain ⟨u, x, g, n, rfl, ⟨a, dx, bv, rfl, ha, hbv⟩, hlen, q⟩ := h
    obtain ⟨z, bvs, rfl, hz, hpz⟩ := id hbv
    refine ⟨_, (pss_cons (ps_if (PW.pt (pw_or (pt_cmpR op_gt (pe_callB call_len_seq (by rfl) n_len PySem.boot_len (pa_cons (pe_fld (pv 0) rfl) pa_nil)) (pe_gi rfl T.g_MOST_LINES) (nomark _)) (pw_or1 (pt_not (pt_val (pe_call G_bars_as_told (hr.mono (by decide)) rfl m_bars_as_told k_bars_as_told b_bars_as_told .nil pass0 (pa_cons (pe_fld (pv 0) rfl) (pa_cons (pv 2) pa_nil))))))))
        (pss_one (ps_ret pe_bl))
        pss_nil)
      (pss_cons (ps_if (pt_cmpR op_ne (pe_callB call_len_seq (by rfl) n_len PySem.boot_len (pa_cons (pe_fld (pv 0) rfl) pa_nil)) pe_int (nomark _))
        (pss_one (ps_ret (pe_cmpR op_eq (pe_fld (pv 0) rfl) (pe_gi rfl T.g_NO_LABEL) (nomark _))))
        pss_nil)
      (pss_cons (ps_if (pt_cmpR op_eq (pv 1) (pe_gi rfl T.g_CHORDS) (nomark _))
        (pss_one (ps_ret (pe_call G_may_be_chords (hr.mono (by decide)) rfl m_may_be_chords k_may_be_chords b_may_be_chords .nil pass0 (pa_cons (pe_ix ix_list (pe_fld (pv 0) rfl) pe_int (fun _ _ => rfl)) pa_nil))))
        pss_nil)
      (pss_one (ps_ret (pe_cmpR op_in_seq (pv 1) (pe_tup (pa_cons (pe_gi rfl T.g_FIRST) (pa_cons (pe_gi rfl T.g_SECOND) (pa_cons (pe_gi rfl T.g_SAME) pa_nil)))) (by rfl))))))), ?_⟩
    refine ⟨_, rfl, a, CL, dx, _, _, rfl, ha, B.cl, B.nI, lbF_b _ _, z, _, rfl, .inl (SqL.of hz), _, _, rfl, rfl, _, rfl, ?_⟩
    rw [hpz.length]
    by_cases c1 : 2 < x.lines.length
    · refine iteT_of (decide_eq_true (by omega)) ?_
      rw [show linedOk x g n = false from if_pos (.inl c1)] at q
      exact q _ (Same.refl H)
    refine iteF_of (decide_eq_false (by omega)) ?_
    refine ⟨_, rfl, a, CL, dx, _, _, rfl, ha, B.cl, B.nI, lbF_b _ _, _, rfl, .ref z, x.lines, n, rfl, hbv, hlen, fun H1 s1 => ⟨_, rfl, ?_⟩⟩
    cases c2 : x.lines.all (Sw71.barOk n) with
    | false =>
      refine iteT_of rfl ?_
      rw [show linedOk x g n = false from if_pos (.inr c2)] at q
      exact q _ s1
    | true =>
      refine iteF_of rfl ?_
      have e0 : linedOk x g n = if x.lines.length = 1 then (if g = 4 then halvesOk (x.lines.getD 0 []) else [1, 2, 3].contains g) else decide (x.label = 0) := if_neg (fun h => by
        rcases h with h | h
        · exact c1 h
        · rw [c2] at h; cases h)
      rw [e0] at q
      refine ⟨_, rfl, a, CL, dx, _, _, rfl, s1 _ _ ha, B.cl, B.nI, lbF_b _ _, z, _, rfl, .inl (SqL.of (s1 _ _ hz)), rfl, _, rfl, ?_⟩
      rw [hpz.length]
      by_cases c3 : x.lines.length = 1
      case neg =>
        refine iteT_of (by
          show (!decide (V.int (x.lines.length : Nat) = V.int ((1 : Nat) : Int))) = true
          rw [int_dec, decide_eq_false c3]; rfl) ?_
        rw [if_neg c3] at q
        refine ⟨_, rfl, a, CL, dx, _, _, rfl, s1 _ _ ha, B.cl, B.nA, lbF_k _ _, rfl, ?_⟩
        have q1 := q _ s1
        rw [← int_dec x.label 0] at q1
        exact q1
      refine iteF_of (by
        show (!decide (V.int (x.lines.length : Nat) = V.int ((1 : Nat) : Int))) = false
        rw [int_dec, decide_eq_true c3]; rfl) ?_
      rw [if_pos c3] at q
      refine ⟨_, rfl, rfl, _, rfl, ?_⟩
      by_cases c4 : g = 4
      · refine iteT_of ((int_dec g 4).trans (decide_eq_true c4)) ?_
        rw [if_pos c4] at q
        have e1 : x.lines[0]? = some (x.lines.getD 0 []) := by rw [List.getD_eq_getElem?_getD, List.getElem?_eq_getElem (show 0 < x.lines.length by omega)]; rfl
        obtain ⟨vb, hvb, hba⟩ := paired_at' hpz e1
        refine ⟨_, rfl, a, CL, dx, _, _, rfl, s1 _ _ ha, B.cl, B.nI, lbF_b _ _, z, bvs, _, vb, rfl, rfl, SqL.of (s1 _ _ hz), at_of (j := 0) rfl hvb, vb, _, rfl, barAt_mono _ _ _ _ s1 hba, ?_, fun H2 s2 => q _ (s1.trans s2)⟩
        exact barOk_tiny (List.all_eq_true.mp c2 _ (List.mem_of_getElem? e1))
      · refine iteF_of ((int_dec g 4).trans (decide_eq_false c4)) ?_
        rw [if_neg c4] at q
        refine ⟨_, rfl, by show 3 ≤ sizeLine; decide, fun p np => ⟨p, _, rfl, .inr (SqT.of upd_same), rfl, rfl, ?_⟩⟩
        have q1 := q _ (s1.trans (same_upd (o := .tup [V.int 1, V.int 2, V.int 3]) np))
        rw [← inV_nat g [1, 2, 3]] at q1
        exact q1
/-! ### lined_bars_as_told -/
def linedsOk (ls : List Nat) (xs : List Sw71.Both) : Bool := decide (xs.length = ls.length) && (xs.zip ((forces 0 xs).zip ls)).all fun t => linedOk t.1 t.2.1 t.2.2
def sp_lined_bars_as_told (CL : Addr) : Sp := fun vs H Q _ => ∃ u v xs ls, vs = [u, v] ∧ ListAt (LinedAt CL) H u xs ∧ NumsAt H v ls ∧ xs.length ≤ 1000 ∧ (∀ x ∈ xs, x.lines.length ≤ 1000) ∧ ∀ H', Same H H' → Q (.bl (linedsOk ls xs)) H'
theorem ok_lined_bars_as_told {CL f : Addr} {fd : FuncData} (n_len : mg "len" = none) (n_all : mg "all" = none) (n_zip : mg "zip" = none) (D : Dn K mg "lined_bars_as_told" s_lined_bars_as_told ["lined_bars", "lengths"] f fd)
    (C1 : Cal P w K mg base "labels_in_force" 1 ["lined_bars"] (sp_labels_in_force CL)) (C2 : Cal P w K mg base "lined_bar_as_told" 4 ["lined", "in_force", "bar_length"] (sp_lined_bar_as_told CL)) :
    Cal P w K mg base "lined_bars_as_told" 5 ["lined_bars", "lengths"] (sp_lined_bars_as_told CL) := by
  obtain ⟨f_labels_in_force, fd_labels_in_force, G_labels_in_force, m_labels_in_force, k_labels_in_force, b_labels_in_force⟩ := C1.ex
  obtain ⟨f_lined_bar_as_told, fd_lined_bar_as_told, G_lined_bar_as_told, m_lined_bar_as_told, k_lined_bar_as_told, b_lined_bar_as_told⟩ := C2.ex
  refine D.cal (D.fn.ok sc_lined_bars_as_told (fun vs H Q E h => ?_) (fun cdv A outer s0 H vs Q E hr h => ?_))
  · obtain ⟨u, v, xs, ls, rfl, _⟩ := h
    rfl
  · obtain ⟨u, v, xs, ls, rfl, ⟨ua, uxs, rfl, hua, hup⟩, ⟨va, rfl, hva⟩, hlen, hlines, q⟩ := h
    refine ⟨_, (pss_cons (ps_if (pt_cmpR op_ne (pe_callB call_len_seq (by rfl) n_len PySem.boot_len (pa_cons (pv 0) pa_nil)) (pe_callB call_len_seq (by rfl) n_len PySem.boot_len (pa_cons (pv 1) pa_nil)) (nomark _))
        (pss_one (ps_ret pe_bl))
        pss_nil)
      (pss_cons (ps_set (i := 2) sc_lined_bars_as_told.nd rfl (Or.inl rfl) (pe_call G_labels_in_force (hr.mono (by decide)) rfl m_labels_in_force k_labels_in_force b_labels_in_force .nil pass0 (pa_cons (pv 0) pa_nil)))
      (pss_one (ps_ret (pe_callB (cr_all rfl) (by rfl) n_all (by decide +kernel) (pa_cons (pe_lc (own := [("lined", 3), ("in_force", 4), ("length", 5)]) (g := gTup K 3 (gCons (gName 3) (gCons (gName 4) (gCons (gName 5) gNil)))) rfl sc_lined_bars_as_told.nd (pi_zip3 (by rfl) n_zip (pa_cons (pv 0) (pa_cons (pv 2) (pa_cons (pv 1) pa_nil)))) (blkOk_by (own := [("lined", 3), ("in_force", 4), ("length", 5)]) (N := ["lined_bars", "lengths", "labels", "lined", "in_force", "length"]) (sc := defScope s_lined_bars_as_told) (by decide +kernel)) (fun _ _ _ _ _ => (pg_tup rfl (pgs_cons (pg_name (i := 3) sc_lined_bars_as_told.nd rfl (Or.inl rfl)) (pgs_cons (pg_name (i := 4) sc_lined_bars_as_told.nd rfl (Or.inl rfl)) (pgs_cons (pg_name (i := 5) sc_lined_bars_as_told.nd rfl (Or.inl rfl)) pgs_nil))))) (fun _ _ _ _ _ => pts_nil) (fun _ _ _ _ _ => (pe_call G_lined_bar_as_told (hr.mono (by decide)) rfl m_lined_bar_as_told k_lined_bar_as_told b_lined_bar_as_told .nil pass0 (pa_cons (pv 3) (pa_cons (pv 4) (pa_cons (pv 5) pa_nil)))))) pa_nil)))))), ?_⟩
    refine ⟨_, rfl, ua, _, rfl, .inl (SqL.of hua), _, rfl, va, _, rfl, .inl (SqL.of hva), rfl, _, rfl, ?_⟩
    rw [hup.length, nV_length]
    by_cases c : xs.length = ls.length
    case neg =>
      refine iteT_of (by
        show (!decide (V.int (xs.length : Nat) = V.int (ls.length : Nat))) = true
        rw [int_dec, decide_eq_false c]; rfl) ?_
      have e : linedsOk ls xs = false := by
        unfold linedsOk
        rw [decide_eq_false c, Bool.false_and]
      rw [e] at q
      exact q _ (Same.refl H)
    refine iteF_of (by
      show (!decide (V.int (xs.length : Nat) = V.int (ls.length : Nat))) = false
      rw [int_dec, decide_eq_true c]; rfl) ?_
    refine ⟨_, rfl, .ref ua, xs, rfl, ⟨ua, uxs, rfl, hua, hup⟩, hlen, fun H1 p s1 np hp => ?_⟩
    have fl := forces_length 0 xs
    refine ⟨_, rfl, _, rfl, _, rfl, ua, p, va, _, _, _, rfl, SqL.of (s1 _ _ hua), SqL.of hp, SqL.of (s1 _ _ hva), fun L nL => lc_it (walk_zip3 (K := K) (a := ua) (b := p) (c := va) (xs := uxs) (ys := nV (forces 0 xs)) (zs := nV ls) (n := xs.length) hup.length (by rw [nV_length, fl]) (by rw [nV_length, c])) (fun i H' => Same H1 H' ∧ H' L = some (.lst ((((xs.zip ((forces 0 xs).zip ls)).take i).map fun t => linedOk t.1 t.2.1 t.2.2).map V.bl)))
      ⟨same_upd nL, upd_same⟩ (fun i H' _ ⟨s, _⟩ => ⟨SqL.of (s _ _ (s1 _ _ hua)), SqL.of (s _ _ hp), SqL.of (s _ _ (s1 _ _ hva))⟩) ?_ ?_⟩
    · rintro i z Hi H2 hi ⟨s, hL⟩ ⟨t, vx, vy, vz, rfl, nt, rfl, e1, e2, e3⟩
      obtain ⟨x, hx, hxa⟩ := paired_at hup e1
      obtain ⟨g, hg, rfl⟩ := nV_at e2
      obtain ⟨n, hn, rfl⟩ := nV_at e3
      have st := same_upd (o := .tup [vx, V.int (g : Nat), V.int (n : Nat)]) nt
      have zs := snoc_take (zip_at hx (zip_at hg hn))
      have s2 := (s1.trans s).trans st
      refine ⟨t, _, rfl, SqT.of upd_same, rfl, _, _, rfl, _, _, rfl, _, _, rfl, rfl, rfl, ?_⟩
      refine lc_yes ?_
      refine ⟨_, rfl, _, rfl, _, rfl, vx, x, g, n, rfl, linedAt_mono _ _ _ _ s2 hxa, hlines x (List.mem_of_getElem? hx), fun H3 s3 => ?_⟩
      refine ⟨_, s3 _ _ (st _ _ hL), small1000 (by rw [List.length_map, List.length_map, List.length_take]; omega), fun c o e => ?_, ?_⟩
      · rw [upd_ne (ne_of_none e nL)]
        exact s3 _ _ (st _ _ (s _ _ e))
      · rw [upd_same, zs, List.map_append, List.map_append]; rfl
    · rintro H2 ⟨s, hL⟩
      refine ⟨L, _, rfl, SqL.of hL, ?_⟩
      have e : ((((xs.zip ((forces 0 xs).zip ls)).take xs.length).map fun t => linedOk t.1 t.2.1 t.2.2).all id) = linedsOk ls xs := by
        unfold linedsOk
        rw [decide_eq_true c, List.take_of_length_le (by rw [List.length_zip]; omega), List.all_map]; rfl
      rw [e]
      exact q _ (s1.trans s)
end
end Ps

namespace Ps
open PySem PySem.Spec PyProof.Rows L2
section
variable {P : Program} {w : World} {K : PySem.W.Frag} {mg : Str → Option Value} {base : Heap}
/-! ### a pair of bars -/
def PairAt (G : Hp) (v : V) (p : Sw71.Bar × Sw71.Bar) : Prop := ∃ t u w, v = .ref t ∧ G t = some (.tup [u, w]) ∧ BarAt G u p.1 ∧ BarAt G w p.2
theorem pairAt_mono : Mono PairAt := fun _ _ _ _ s h => by
  obtain ⟨t, u, w, e, h1, h2, h3⟩ := h
  exact ⟨t, u, w, e, s _ _ h1, barAt_mono _ _ _ _ s h2, barAt_mono _ _ _ _ s h3⟩
def upperOf (a : Sw71.Bar) : Sw71.Bar := a.map fun x => ⟨x.long, x.keys.drop 1⟩
def lowerOf (a : Sw71.Bar) : Sw71.Bar := a.map fun x => ⟨x.long, x.keys.take 1⟩
def lineOf (a : Sw71.Bar) (g n : Nat) : Sw71.Bar × Sw71.Bar := if g = 1 then (a, [⟨n, []⟩]) else if g = 2 then ([⟨n, []⟩], a) else if g = 3 then (a, a) else (upperOf a, lowerOf a)
theorem cut_upper (ks : List Nat) : cutV (nV ks) (some 1) none = nV (ks.drop 1) := by
  unfold cutV
  rw [show (some (1 : Int)) = some ((1 : Nat) : Int) from rfl, HT.sIx_nat, HT.sIx_none, nV_length]
  unfold nV
  cases ks with
  | nil => rfl
  | cons k r =>
    rw [show min 1 (k :: r).length = 1 by rw [List.length_cons]; omega, ← List.map_drop, List.take_of_length_le (by rw [List.length_map, List.length_drop]; omega)]
theorem cut_lower (ks : List Nat) : cutV (nV ks) none (some 1) = nV (ks.take 1) := by
  unfold cutV
  rw [show (some (1 : Int)) = some ((1 : Nat) : Int) from rfl, HT.sIx_nat, HT.sIx_none, nV_length]
  unfold nV
  cases ks with
  | nil => rfl
  | cons k r =>
    rw [show min 1 (k :: r).length = 1 by rw [List.length_cons]; omega]; rfl
def sp_parted_line : Sp := fun vs H Q _ => ∃ u a g n G, vs = [u, .int (g : Nat), .int (n : Nat)] ∧ Same G H ∧ BarAt G u a ∧ a.length ≤ 1000 ∧ ∀ H' w, Same H H' → PairAt (Grow G H H') w (lineOf a g n) → Q w H'
theorem ok_parted_line {f : Addr} {fd : FuncData} (T : TxtM mg) (D : Dn K mg "parted_line" s_parted_line ["line", "in_force", "bar_length"] f fd) (C1 : Cal P w K mg base "whole_rest" 1 ["bar_length"] sp_whole_rest) :
    Cal P w K mg base "parted_line" 2 ["line", "in_force", "bar_length"] sp_parted_line := by
  obtain ⟨f_whole_rest, fd_whole_rest, G_whole_rest, m_whole_rest, k_whole_rest, b_whole_rest⟩ := C1.ex
  refine D.cal (D.fn.ok sc_parted_line (fun vs H Q E h => ?_) (fun cdv A outer s0 H vs Q E hr h => ?_))
  · obtain ⟨u, a, g, n, G, rfl, _⟩ := h
    rfl
  · obtain ⟨u, a, g, n, G, rfl, sG, hb, hlen, q⟩ := h
    refine ⟨_, (pss_cons (ps_if (pt_cmpR op_eq (pv 1) (pe_gi rfl T.g_FIRST) (nomark _))
        (pss_one (ps_ret (pe_tup (pa_cons (pv 0) (pa_cons (pe_call G_whole_rest (hr.mono (by decide)) rfl m_whole_rest k_whole_rest b_whole_rest .nil pass0 (pa_cons (pv 2) pa_nil)) pa_nil)))))
        pss_nil)
      (pss_cons (ps_if (pt_cmpR op_eq (pv 1) (pe_gi rfl T.g_SECOND) (nomark _))
        (pss_one (ps_ret (pe_tup (pa_cons (pe_call G_whole_rest (hr.mono (by decide)) rfl m_whole_rest k_whole_rest b_whole_rest .nil pass0 (pa_cons (pv 2) pa_nil)) (pa_cons (pv 0) pa_nil)))))
        pss_nil)
      (pss_cons (ps_if (pt_cmpR op_eq (pv 1) (pe_gi rfl T.g_SAME) (nomark _))
        (pss_one (ps_ret (pe_tup (pa_cons (pv 0) (pa_cons (pv 0) pa_nil)))))
        pss_nil)
      (pss_cons (ps_setLc (i := 3) (own := [("length", 5), ("keys", 6)]) (g := gTup K 2 (gCons (gName 5) (gCons (gName 6) gNil))) (te := tTup (tCons (tVar 5) (tCons (tSl (rSlL K) (tVar 6) (tPart (tC (.int 1))) tNoPart) tNil))) rfl sc_parted_line.nd rfl rfl (sw_true rfl rfl rfl (by decide +kernel)) (pi_list (pv 0)) (blkOk_by (own := [("length", 5), ("keys", 6)]) (N := ["line", "in_force", "bar_length", "upper", "lower", "length", "keys"]) (sc := defScope s_parted_line) (by decide +kernel)) (fun _ _ _ _ _ => (pg_tup rfl (pgs_cons (pg_name (i := 5) sc_parted_line.nd rfl (Or.inl rfl)) (pgs_cons (pg_name (i := 6) sc_parted_line.nd rfl (Or.inl rfl)) pgs_nil)))) (fun _ _ _ _ _ => pts_nil) (fun _ _ _ _ _ => (pe_tup (pa_cons (pv 5) (pa_cons (pe_slice sl_list (pv 6) (po_some pe_int) po_none) pa_nil)))))
      (pss_cons (ps_setLc (i := 4) (own := [("length", 5), ("keys", 6)]) (g := gTup K 2 (gCons (gName 5) (gCons (gName 6) gNil))) (te := tTup (tCons (tVar 5) (tCons (tSl (rSlL K) (tVar 6) tNoPart (tPart (tC (.int 1)))) tNil))) rfl sc_parted_line.nd rfl rfl (sw_true rfl rfl rfl (by decide +kernel)) (pi_list (pv 0)) (blkOk_by (own := [("length", 5), ("keys", 6)]) (N := ["line", "in_force", "bar_length", "upper", "lower", "length", "keys"]) (sc := defScope s_parted_line) (by decide +kernel)) (fun _ _ _ _ _ => (pg_tup rfl (pgs_cons (pg_name (i := 5) sc_parted_line.nd rfl (Or.inl rfl)) (pgs_cons (pg_name (i := 6) sc_parted_line.nd rfl (Or.inl rfl)) pgs_nil)))) (fun _ _ _ _ _ => pts_nil) (fun _ _ _ _ _ => (pe_tup (pa_cons (pv 5) (pa_cons (pe_slice sl_list (pv 6) po_none (po_some pe_int)) pa_nil)))))
      (pss_one (ps_ret (pe_tup (pa_cons (pv 3) (pa_cons (pv 4) pa_nil)))))))))), ?_⟩
    have gG : ∀ Hx, Same G (Grow G H Hx) := fun Hx => same_grow _ _ _
    have hb' := barAt_mono _ _ _ _ sG hb
    -- a pair at the end
    have fin : ∀ (Hx : Hp) (p : Addr) (v1 v2 : V) (b1 b2 : Sw71.Bar), Same H Hx → Hx p = none → BarAt (Grow G H Hx) v1 b1 → BarAt (Grow G H Hx) v2 b2 → PairAt (Grow G H (upd Hx p (.tup [v1, v2]))) (.ref p) (b1, b2) := fun Hx p v1 v2 b1 b2 sx np h1 h2 => by
      have m : Same (Grow G H Hx) (Grow G H (upd Hx p (.tup [v1, v2]))) := grow_mono fun a o _ y2 _ => same_upd np _ _ y2
      exact ⟨p, v1, v2, rfl, grow_new sG (sx.free np) upd_same rfl, barAt_mono _ _ _ _ m h1, barAt_mono _ _ _ _ m h2⟩
    refine ⟨_, rfl, rfl, _, rfl, ?_⟩
    by_cases c1 : g = 1
    · refine iteT_of ((int_dec g 1).trans (decide_eq_true c1)) ?_
      rw [show lineOf a g n = (a, [⟨n, []⟩]) from if_pos c1] at q
      refine ⟨_, rfl, _, rfl, n, rfl, fun H1 w1 s1 hw => ⟨by show 2 ≤ sizeLine; decide, fun p np => ?_⟩⟩
      exact q _ _ (s1.trans (same_upd np)) (fin H1 p u w1 _ _ s1 np (barAt_mono _ _ _ _ (gG _) hb) (barAt_mono _ _ _ _ (grow_zero sG) hw))
    refine iteF_of ((int_dec g 1).trans (decide_eq_false c1)) ?_
    refine ⟨_, rfl, rfl, _, rfl, ?_⟩
    by_cases c2 : g = 2
    · refine iteT_of ((int_dec g 2).trans (decide_eq_true c2)) ?_
      rw [show lineOf a g n = ([⟨n, []⟩], a) from (if_neg c1).trans (if_pos c2)] at q
      refine ⟨_, rfl, n, rfl, fun H1 w1 s1 hw => ⟨_, rfl, by show 2 ≤ sizeLine; decide, fun p np => ?_⟩⟩
      exact q _ _ (s1.trans (same_upd np)) (fin H1 p w1 u _ _ s1 np (barAt_mono _ _ _ _ (grow_zero sG) hw) (barAt_mono _ _ _ _ (gG _) hb))
    refine iteF_of ((int_dec g 2).trans (decide_eq_false c2)) ?_
    refine ⟨_, rfl, rfl, _, rfl, ?_⟩
    by_cases c3 : g = 3
    · refine iteT_of ((int_dec g 3).trans (decide_eq_true c3)) ?_
      rw [show lineOf a g n = (a, a) from (if_neg c1).trans ((if_neg c2).trans (if_pos c3))] at q
      refine ⟨_, rfl, _, rfl, by show 2 ≤ sizeLine; decide, fun p np => ?_⟩
      exact q _ _ (same_upd np) (fin H p u u _ _ (Same.refl H) np (barAt_mono _ _ _ _ (gG _) hb) (barAt_mono _ _ _ _ (gG _) hb))
    refine iteF_of ((int_dec g 3).trans (decide_eq_false c3)) ?_
    rw [show lineOf a g n = (upperOf a, lowerOf a) from (if_neg c1).trans ((if_neg c2).trans (if_neg c3))] at q
    obtain ⟨x, xs, rfl, hx, hp⟩ := hb'
    refine ⟨_, rfl, x, rfl, ⟨_, SqL.of hx⟩, fun L nL => lc_list (K := K) (a := x) (xs := xs) (fun i H' => ∃ vs, Same H H' ∧ (∀ c, H' c = none → (upd H L (.lst [])) c = none) ∧ H' L = some (.lst vs) ∧ Paired (ItemAt (Grow Hp0 (upd H L (.lst [])) H')) vs ((a.take i).map fun x => ⟨x.long, x.keys.drop 1⟩))
      ⟨[], same_upd nL, fun c h => h, upd_same, .nil⟩ (fun i H' _ ⟨_, s, _⟩ => SqL.of (s _ _ hx)) ?_ ?_⟩
    · have pL : (upd H L (.lst [])) L = some (.lst []) := upd_same
      generalize hH4 : upd H L (.lst []) = H4 at pL ⊢
      rintro i y Hi hi ⟨vs, s, ni, hL, pr⟩
      obtain ⟨it, hit, t, k, rfl, ht, l, rfl, hl⟩ := paired_at hp hi
      refine ⟨t, _, rfl, SqT.of (s _ _ ht), rfl, _, _, rfl, _, _, rfl, rfl, rfl, ?_⟩
      refine lc_yes ?_
      refine ⟨_, rfl, _, rfl, _, rfl, l, _, rfl, SqL.of (s _ _ hl), fun c nc => ?_⟩
      rw [cut_upper]
      have sc := same_upd (o := .lst (nV (it.keys.drop 1))) nc
      refine ⟨by show 2 ≤ sizeLine; decide, fun d nd => ?_⟩
      have sd := same_upd (o := .tup [V.int (it.long : Nat), V.ref c]) nd
      have s1d := sc.trans sd
      refine ⟨vs, s1d _ _ hL, small1000 (by rw [pr.length, List.length_map, List.length_take]; omega), vs ++ [.ref d], fun a o w => ?_, fun a w => ?_, upd_same, ?_⟩
      · rw [upd_ne (ne_of_none w nL)]; exact s1d _ _ (s _ _ w)
      · by_cases v : a = L
        · subst v; rw [upd_same] at w; cases w
        · rw [upd_ne v] at w; exact ni a (s1d.free w)
      · rw [snoc_take hit, List.map_append]
        have k1 : Same (Grow Hp0 H4 Hi) (Grow Hp0 H4 (upd (upd (upd Hi c (.lst (nV (it.keys.drop 1)))) d (.tup [V.int (it.long : Nat), V.ref c])) L (.lst (vs ++ [.ref d])))) := grow_mono fun a o y1 y2 _ => by
          rw [upd_ne (fun z => by subst z; rw [pL] at y1; cases y1)]
          exact s1d _ _ y2
        have cL : c ≠ L := fun w => by subst w; rw [hL] at nc; cases nc
        have dL : d ≠ L := fun w => by subst w; rw [sc _ _ hL] at nd; cases nd
        refine Paired.snoc (Paired.mono (fun _ _ h => itemAt_mono _ _ _ _ k1 h) pr) ⟨d, .ref c, rfl, grow_at (ni d (sc.free nd)) (by rw [upd_ne dL, upd_same]) rfl, c, rfl, grow_at (ni c nc) ?_ rfl⟩
        rw [upd_ne cL, sd _ _ upd_same]
    · rintro H1 ⟨vs1, s1, ni1, hL1, pr1⟩
      rw [hp.length, List.take_length] at pr1
      have hup : BarAt (Grow Hp0 H H1) (.ref L) (upperOf a) := ⟨L, vs1, rfl, grow_at nL hL1 rfl, Paired.mono (fun _ _ h => itemAt_mono _ _ _ _ (grow_later fun c w => (same_upd nL).free w) h) pr1⟩
      clear ni1 pr1
      have hx1 := s1 _ _ hx
      have hpx : Paired (ItemAt H1) xs a := Paired.mono (fun _ _ h => itemAt_mono _ _ _ _ s1 h) hp
      refine ⟨_, rfl, x, rfl, ⟨_, SqL.of hx1⟩, fun M nM => lc_list (K := K) (a := x) (xs := xs) (fun i H' => ∃ vs, Same H1 H' ∧ (∀ c, H' c = none → (upd H1 M (.lst [])) c = none) ∧ H' M = some (.lst vs) ∧ Paired (ItemAt (Grow Hp0 (upd H1 M (.lst [])) H')) vs ((a.take i).map fun x => ⟨x.long, x.keys.take 1⟩))
        ⟨[], same_upd nM, fun c h => h, upd_same, .nil⟩ (fun i H' _ ⟨_, s, _⟩ => SqL.of (s _ _ hx1)) ?_ ?_⟩
      · have pL : (upd H1 M (.lst [])) M = some (.lst []) := upd_same
        generalize hH4 : upd H1 M (.lst []) = H4 at pL ⊢
        rintro i y Hi hi ⟨vs, s, ni, hL, pr⟩
        obtain ⟨it, hit, t, k, rfl, ht, l, rfl, hl⟩ := paired_at hpx hi
        refine ⟨t, _, rfl, SqT.of (s _ _ ht), rfl, _, _, rfl, _, _, rfl, rfl, rfl, ?_⟩
        refine lc_yes ?_
        refine ⟨_, rfl, _, rfl, _, rfl, l, _, rfl, SqL.of (s _ _ hl), fun c nc => ?_⟩
        rw [cut_lower]
        have sc := same_upd (o := .lst (nV (it.keys.take 1))) nc
        refine ⟨by show 2 ≤ sizeLine; decide, fun d nd => ?_⟩
        have sd := same_upd (o := .tup [V.int (it.long : Nat), V.ref c]) nd
        have s1d := sc.trans sd
        refine ⟨vs, s1d _ _ hL, small1000 (by rw [pr.length, List.length_map, List.length_take]; omega), vs ++ [.ref d], fun a o w => ?_, fun a w => ?_, upd_same, ?_⟩
        · rw [upd_ne (ne_of_none w nM)]; exact s1d _ _ (s _ _ w)
        · by_cases v : a = M
          · subst v; rw [upd_same] at w; cases w
          · rw [upd_ne v] at w; exact ni a (s1d.free w)
        · rw [snoc_take hit, List.map_append]
          have k1 : Same (Grow Hp0 H4 Hi) (Grow Hp0 H4 (upd (upd (upd Hi c (.lst (nV (it.keys.take 1)))) d (.tup [V.int (it.long : Nat), V.ref c])) M (.lst (vs ++ [.ref d])))) := grow_mono fun a o y1 y2 _ => by
            rw [upd_ne (fun z => by subst z; rw [pL] at y1; cases y1)]
            exact s1d _ _ y2
          have cL : c ≠ M := fun w => by subst w; rw [hL] at nc; cases nc
          have dL : d ≠ M := fun w => by subst w; rw [sc _ _ hL] at nd; cases nd
          refine Paired.snoc (Paired.mono (fun _ _ h => itemAt_mono _ _ _ _ k1 h) pr) ⟨d, .ref c, rfl, grow_at (ni d (sc.free nd)) (by rw [upd_ne dL, upd_same]) rfl, c, rfl, grow_at (ni c nc) ?_ rfl⟩
          rw [upd_ne cL, sd _ _ upd_same]
      · rintro H2 ⟨vs2, s2, ni2, hL2, pr2⟩
        rw [hp.length, List.take_length] at pr2
        have hlo : BarAt (Grow Hp0 H1 H2) (.ref M) (lowerOf a) := ⟨M, vs2, rfl, grow_at nM hL2 rfl, Paired.mono (fun _ _ h => itemAt_mono _ _ _ _ (grow_later fun c w => (same_upd nM).free w) h) pr2⟩
        refine ⟨_, rfl, _, rfl, by show 2 ≤ sizeLine; decide, fun p np => ?_⟩
        have s12 := s1.trans s2
        refine q _ _ (s12.trans (same_upd np)) (fin H2 p _ _ _ _ s12 np ?_ ?_)
        · exact barAt_mono _ _ _ _ ((grow_zero sG).trans (grow_mono fun c o _ y2 _ => s2 _ _ y2)) hup
        · exact barAt_mono _ _ _ _ (grow_from sG (fun c z => s1.free z) (fun c o _ y2 _ => y2)) hlo
end
end Ps

namespace Ps
open PySem PySem.Spec PyProof.Rows L2
section
variable {P : Program} {w : World} {K : PySem.W.Frag} {mg : Str → Option Value} {base : Heap}
/-! ### parted_bar -/
def pairLn (lines : List Sw71.Bar) (g n : Nat) : Sw71.Bar × Sw71.Bar := match lines with
  | [] => ([⟨n, []⟩], [⟨n, []⟩])
  | [a] => lineOf a g n
  | a :: b :: _ => (a, b)
def pairOf (x : Sw71.Both) (g n : Nat) : Sw71.Bar × Sw71.Bar := pairLn x.lines g n
def sp_parted_bar (CL : Addr) : Sp := fun vs H Q _ => ∃ u x g n G, vs = [u, .int (g : Nat), .int (n : Nat)] ∧ Same G H ∧ LinedAt CL G u x ∧ (∀ b ∈ x.lines, b.length ≤ 1000) ∧ ∀ H' w, Same H H' → PairAt (Grow G H H') w (pairOf x g n) → Q w H'
theorem ok_parted_bar {CL f : Addr} {fd : FuncData} (n_len : mg "len" = none) (D : Dn K mg "parted_bar" s_parted_bar ["lined", "in_force", "bar_length"] f fd) (B : TxtLb K CL)
    (C1 : Cal P w K mg base "whole_rest" 1 ["bar_length"] sp_whole_rest) (C2 : Cal P w K mg base "parted_line" 2 ["line", "in_force", "bar_length"] sp_parted_line) :
    Cal P w K mg base "parted_bar" 3 ["lined", "in_force", "bar_length"] (sp_parted_bar CL) := by
  obtain ⟨f_whole_rest, fd_whole_rest, G_whole_rest, m_whole_rest, k_whole_rest, b_whole_rest⟩ := C1.ex
  obtain ⟨f_parted_line, fd_parted_line, G_parted_line, m_parted_line, k_parted_line, b_parted_line⟩ := C2.ex
  refine D.cal (D.fn.ok sc_parted_bar (fun vs H Q E h => ?_) (fun cdv A outer s0 H vs Q E hr h => ?_))
  · obtain ⟨u, x, g, n, G, rfl, _⟩ := h
    rfl
  · obtain ⟨u, x, g, n, G, rfl, sG, ⟨a, dx, bv, rfl, ha0, hbv⟩, htiny, q⟩ := h
    refine ⟨_, (pss_cons (ps_if (pt_not (pt_truth (pe_fld (pv 0) rfl) (by intro _; rfl)))
        (pss_one (ps_ret (pe_tup (pa_cons (pe_call G_whole_rest (hr.mono (by decide)) rfl m_whole_rest k_whole_rest b_whole_rest .nil pass0 (pa_cons (pv 2) pa_nil)) (pa_cons (pe_call G_whole_rest (hr.mono (by decide)) rfl m_whole_rest k_whole_rest b_whole_rest .nil pass0 (pa_cons (pv 2) pa_nil)) pa_nil)))))
        pss_nil)
      (pss_cons (ps_if (pt_cmpR op_eq (pe_callB call_len_seq (by rfl) n_len PySem.boot_len (pa_cons (pe_fld (pv 0) rfl) pa_nil)) pe_int (nomark _))
        (pss_one (ps_ret (pe_call G_parted_line (hr.mono (by decide)) rfl m_parted_line k_parted_line b_parted_line .nil pass0 (pa_cons (pe_ix ix_list (pe_fld (pv 0) rfl) pe_int (fun _ _ => rfl)) (pa_cons (pv 1) (pa_cons (pv 2) pa_nil))))))
        pss_nil)
      (pss_one (ps_ret (pe_tup (pa_cons (pe_ix ix_list (pe_fld (pv 0) rfl) pe_int (fun _ _ => rfl)) (pa_cons (pe_ix ix_list (pe_fld (pv 0) rfl) pe_int (fun _ _ => rfl)) pa_nil))))))), ?_⟩
    have ha := sG _ _ ha0
    obtain ⟨z, bvs, rfl, hz0, hpz⟩ := id hbv
    have hz := sG _ _ hz0
    have gG : ∀ Hx, Same G (Grow G H Hx) := fun Hx => same_grow _ _ _
    have fin : ∀ (Hx : Hp) (p : Addr) (v1 v2 : V) (b1 b2 : Sw71.Bar), Same H Hx → Hx p = none → BarAt (Grow G H Hx) v1 b1 → BarAt (Grow G H Hx) v2 b2 → PairAt (Grow G H (upd Hx p (.tup [v1, v2]))) (.ref p) (b1, b2) := fun Hx p v1 v2 b1 b2 sx np h1 h2 => by
      have m : Same (Grow G H Hx) (Grow G H (upd Hx p (.tup [v1, v2]))) := grow_mono fun a o _ y2 _ => same_upd np _ _ y2
      exact ⟨p, v1, v2, rfl, grow_new sG (sx.free np) upd_same rfl, barAt_mono _ _ _ _ m h1, barAt_mono _ _ _ _ m h2⟩
    have eq0 : pairOf x g n = pairLn x.lines g n := rfl
    rw [eq0] at q
    generalize x.lines = lines at q hpz htiny
    refine ⟨_, rfl, a, CL, dx, _, _, rfl, ha, B.cl, B.nI, lbF_b _ _, _, .inl ⟨_, SqL.of hz, rfl⟩, ?_⟩
    cases hpz with
    | nil =>
      refine iteT_of rfl ?_
      refine ⟨_, rfl, n, rfl, fun H1 w1 s1 h1 => ⟨_, rfl, n, rfl, fun H2 w2 s2 h2 => ⟨by show 2 ≤ sizeLine; decide, fun p np => ?_⟩⟩⟩
      refine q _ _ ((s1.trans s2).trans (same_upd np)) (fin H2 p w1 w2 _ _ (s1.trans s2) np ?_ ?_)
      · exact barAt_mono _ _ _ _ ((grow_zero sG).trans (grow_mono fun c o _ y2 _ => s2 _ _ y2)) h1
      · exact barAt_mono _ _ _ _ (grow_from sG (fun c z => s1.free z) (fun c o _ y2 _ => y2)) h2
    | @cons v1 b1 vr br hb1 hr1 =>
      refine iteF_of rfl ?_
      refine ⟨_, rfl, a, CL, dx, _, _, rfl, ha, B.cl, B.nI, lbF_b _ _, z, _, rfl, .inl (SqL.of hz), rfl, _, rfl, ?_⟩
      cases hr1 with
      | nil =>
        refine iteT_of rfl ?_
        refine ⟨_, rfl, a, CL, dx, _, _, rfl, ha, B.cl, B.nI, lbF_b _ _, z, _, _, v1, rfl, rfl, SqL.of hz, at_of (j := 0) rfl rfl, _, rfl, _, rfl, v1, b1, g, n, G, rfl, sG, hb1, htiny b1 (List.mem_cons_self ..), fun H1 w1 s1 h1 => q _ _ s1 h1⟩
      | @cons v2 b2 vr2 br2 hb2 hr2 =>
        refine iteF_of (decide_eq_false (fun z => by
          injection z with z
          rw [List.length_cons, List.length_cons] at z
          omega)) ?_
        refine ⟨_, rfl, a, CL, dx, _, _, rfl, ha, B.cl, B.nI, lbF_b _ _, z, _, _, v1, rfl, rfl, SqL.of hz, at_of (j := 0) rfl rfl, _, rfl, a, CL, dx, _, _, rfl, ha, B.cl, B.nI, lbF_b _ _, z, _, _, v2, rfl, rfl, SqL.of hz, at_of (j := 1) rfl rfl, by show 2 ≤ sizeLine; decide, fun p np => ?_⟩
        exact q _ _ (same_upd np) (fin H p v1 v2 _ _ (Same.refl H) np (barAt_mono _ _ _ _ (gG _) hb1) (barAt_mono _ _ _ _ (gG _) hb2))
/-! ### parted_bars -/
def pairsOf (ls : List Nat) (xs : List Sw71.Both) : List (Sw71.Bar × Sw71.Bar) := (xs.zip ((forces 0 xs).zip ls)).map fun t => pairOf t.1 t.2.1 t.2.2
def sp_parted_bars (CL : Addr) : Sp := fun vs H Q _ => ∃ u v xs ls, vs = [u, v] ∧ ListAt (LinedAt CL) H u xs ∧ NumsAt H v ls ∧ xs.length = ls.length ∧ xs.length ≤ 1000 ∧ (∀ x ∈ xs, ∀ b ∈ x.lines, b.length ≤ 1000) ∧
  ∀ H' w, Same H H' → ListAt PairAt H' w (pairsOf ls xs) → Q w H'
theorem ok_parted_bars {CL f : Addr} {fd : FuncData} (n_zip : mg "zip" = none) (D : Dn K mg "parted_bars" s_parted_bars ["lined_bars", "lengths"] f fd)
    (C1 : Cal P w K mg base "labels_in_force" 1 ["lined_bars"] (sp_labels_in_force CL)) (C2 : Cal P w K mg base "parted_bar" 3 ["lined", "in_force", "bar_length"] (sp_parted_bar CL)) :
    Cal P w K mg base "parted_bars" 4 ["lined_bars", "lengths"] (sp_parted_bars CL) := by
  obtain ⟨f_labels_in_force, fd_labels_in_force, G_labels_in_force, m_labels_in_force, k_labels_in_force, b_labels_in_force⟩ := C1.ex
  obtain ⟨f_parted_bar, fd_parted_bar, G_parted_bar, m_parted_bar, k_parted_bar, b_parted_bar⟩ := C2.ex
  refine D.cal (D.fn.ok sc_parted_bars (fun vs H Q E h => ?_) (fun cdv A outer s0 H vs Q E hr h => ?_))
  · obtain ⟨u, v, xs, ls, rfl, _⟩ := h
    rfl
  · obtain ⟨u, v, xs, ls, rfl, ⟨ua, uxs, rfl, hua, hup⟩, ⟨va, rfl, hva⟩, hll, hlen, htiny, q⟩ := h
    refine ⟨_, (pss_cons (ps_set (i := 2) sc_parted_bars.nd rfl (Or.inl rfl) (pe_call G_labels_in_force (hr.mono (by decide)) rfl m_labels_in_force k_labels_in_force b_labels_in_force .nil pass0 (pa_cons (pv 0) pa_nil)))
      (pss_one (ps_ret (pe_lc (own := [("lined", 3), ("in_force", 4), ("length", 5)]) (g := gTup K 3 (gCons (gName 3) (gCons (gName 4) (gCons (gName 5) gNil)))) rfl sc_parted_bars.nd (pi_zip3 (by rfl) n_zip (pa_cons (pv 0) (pa_cons (pv 2) (pa_cons (pv 1) pa_nil)))) (blkOk_by (own := [("lined", 3), ("in_force", 4), ("length", 5)]) (N := ["lined_bars", "lengths", "labels", "lined", "in_force", "length"]) (sc := defScope s_parted_bars) (by decide +kernel)) (fun _ _ _ _ _ => (pg_tup rfl (pgs_cons (pg_name (i := 3) sc_parted_bars.nd rfl (Or.inl rfl)) (pgs_cons (pg_name (i := 4) sc_parted_bars.nd rfl (Or.inl rfl)) (pgs_cons (pg_name (i := 5) sc_parted_bars.nd rfl (Or.inl rfl)) pgs_nil))))) (fun _ _ _ _ _ => pts_nil) (fun _ _ _ _ _ => (pe_call G_parted_bar (hr.mono (by decide)) rfl m_parted_bar k_parted_bar b_parted_bar .nil pass0 (pa_cons (pv 3) (pa_cons (pv 4) (pa_cons (pv 5) pa_nil))))))))), ?_⟩
    refine ⟨_, rfl, .ref ua, xs, rfl, ⟨ua, uxs, rfl, hua, hup⟩, hlen, fun H1 p s1 np hp => ?_⟩
    have fl := forces_length 0 xs
    refine ⟨_, rfl, _, rfl, _, rfl, ua, p, va, _, _, _, rfl, SqL.of (s1 _ _ hua), SqL.of hp, SqL.of (s1 _ _ hva), fun L nL => lc_it (walk_zip3 (K := K) (a := ua) (b := p) (c := va) (xs := uxs) (ys := nV (forces 0 xs)) (zs := nV ls) (n := xs.length) hup.length (by rw [nV_length, fl]) (by rw [nV_length, hll])) (fun i H' => ∃ vs, Same H1 H' ∧ (∀ c, H' c = none → (upd H1 L (.lst [])) c = none) ∧ H' L = some (.lst vs) ∧ Paired (PairAt (Grow H (upd H1 L (.lst [])) H')) vs (((xs.zip ((forces 0 xs).zip ls)).take i).map fun t => pairOf t.1 t.2.1 t.2.2))
      ⟨[], same_upd nL, fun c h => h, upd_same, .nil⟩ (fun i H' _ ⟨_, s, _⟩ => ⟨SqL.of (s _ _ (s1 _ _ hua)), SqL.of (s _ _ hp), SqL.of (s _ _ (s1 _ _ hva))⟩) ?_ ?_⟩
    · have pL : (upd H1 L (.lst [])) L = some (.lst []) := upd_same
      generalize hH4 : upd H1 L (.lst []) = H4 at pL ⊢
      rintro i z Hi H2 hi ⟨vs, s, ni, hL, pr⟩ ⟨t, vx, vy, vz, rfl, nt, rfl, e1, e2, e3⟩
      obtain ⟨x, hx, hxa⟩ := paired_at hup e1
      obtain ⟨g, hg, rfl⟩ := nV_at e2
      obtain ⟨n, hn, rfl⟩ := nV_at e3
      have st := same_upd (o := .tup [vx, V.int (g : Nat), V.int (n : Nat)]) nt
      have zs := snoc_take (zip_at hx (zip_at hg hn))
      have s2 := (s1.trans s).trans st
      refine ⟨t, _, rfl, SqT.of upd_same, rfl, _, _, rfl, _, _, rfl, _, _, rfl, rfl, rfl, ?_⟩
      refine lc_yes ?_
      refine ⟨_, rfl, _, rfl, _, rfl, vx, x, g, n, H, rfl, s2, hxa, htiny x (List.mem_of_getElem? hx), fun H3 y s3 hy => ?_⟩
      have si3 := st.trans s3
      refine ⟨vs, si3 _ _ hL, small1000 (by rw [pr.length, List.length_map, List.length_take]; omega), vs ++ [y], fun c o e => ?_, fun c w => ?_, upd_same, ?_⟩
      · rw [upd_ne (ne_of_none e nL)]
        exact si3 _ _ (s _ _ e)
      · by_cases v : c = L
        · subst v; rw [upd_same] at w; cases w
        · rw [upd_ne v] at w; exact ni c (si3.free w)
      · rw [zs, List.map_append]
        have k1 : Same (Grow H H4 Hi) (Grow H H4 (upd H3 L (.lst (vs ++ [y])))) := grow_mono fun a o y1 y2 _ => by
          rw [upd_ne (fun z => by subst z; rw [pL] at y1; cases y1)]
          exact si3 _ _ y2
        have k2 : Same (Grow H (upd Hi t (.tup [vx, V.int (g : Nat), V.int (n : Nat)])) H3) (Grow H H4 (upd H3 L (.lst (vs ++ [y])))) := (grow_mono fun a o y1 y2 _ => by
          rw [upd_ne (fun z => by subst z; rw [st _ _ hL] at y1; cases y1)]
          exact y2).trans (grow_later fun c w => ni c (st.free w))
        exact Paired.snoc (Paired.mono (fun _ _ h => pairAt_mono _ _ _ _ k1 h) pr) (pairAt_mono _ _ _ _ k2 hy)
    · rintro H2 ⟨vs, s, ni, hL, pr⟩
      rw [List.take_of_length_le (by rw [List.length_zip]; omega)] at pr
      exact q _ _ (s1.trans s) ⟨L, vs, rfl, hL, Paired.mono (fun _ _ h => pairAt_mono _ _ _ _ (grow_in (s1.trans s)) h) pr⟩
/-! ### parted, as the specification has it -/
def okRec : List Nat → Nat → List Sw71.Both → Bool
  | [], _, [] => true
  | n :: ns, f, x :: l => linedOk x (forceOf x.label f) n && okRec ns (forceOf x.label f) l
  | _, _, _ => false
def pairRec : List Nat → Nat → List Sw71.Both → List (Sw71.Bar × Sw71.Bar)
  | n :: ns, f, x :: l => pairOf x (forceOf x.label f) n :: pairRec ns (forceOf x.label f) l
  | _, _, _ => []
theorem okRec_eq : ∀ (ls : List Nat) (f : Nat) (xs : List Sw71.Both), (decide (xs.length = ls.length) && (xs.zip ((forces f xs).zip ls)).all fun t => linedOk t.1 t.2.1 t.2.2) = okRec ls f xs
  | [], _, [] => rfl
  | [], _, _ :: _ => rfl
  | _ :: _, _, [] => rfl
  | n :: ns, f, x :: l => by
    have ih := okRec_eq ns (forceOf x.label f) l
    show (decide (l.length + 1 = ns.length + 1) && (linedOk x (forceOf x.label f) n && (l.zip ((forces (forceOf x.label f) l).zip ns)).all fun t => linedOk t.1 t.2.1 t.2.2)) = (linedOk x (forceOf x.label f) n && okRec ns (forceOf x.label f) l)
    rw [← ih]
    by_cases c : l.length = ns.length
    · rw [decide_eq_true c, decide_eq_true (show l.length + 1 = ns.length + 1 by omega), Bool.true_and, Bool.true_and]
    · rw [decide_eq_false c, decide_eq_false (show ¬ l.length + 1 = ns.length + 1 by omega), Bool.false_and, Bool.false_and, Bool.and_false]
theorem pairRec_eq : ∀ (ls : List Nat) (f : Nat) (xs : List Sw71.Both), ((xs.zip ((forces f xs).zip ls)).map fun t => pairOf t.1 t.2.1 t.2.2) = pairRec ls f xs
  | [], _, [] => rfl
  | [], _, _ :: _ => rfl
  | _ :: _, _, [] => rfl
  | n :: ns, f, x :: l => by
    have ih := pairRec_eq ns (forceOf x.label f) l
    show pairOf x (forceOf x.label f) n :: ((l.zip ((forces (forceOf x.label f) l).zip ns)).map fun t => pairOf t.1 t.2.1 t.2.2) = _
    rw [ih]; rfl
theorem restBar_pos {n : Nat} (h : 1 ≤ n) : Sw71.restBar n = [⟨n, []⟩] := by
  unfold Sw71.restBar
  rw [if_neg (by omega)]
theorem map_ite {A B : Type} {c : Prop} [Decidable c] {f : A → B} {x : A} : (if c then some x else none).map f = if c then some (f x) else none := by
  by_cases h : c
  · rw [if_pos h, if_pos h]; rfl
  · rw [if_neg h, if_neg h]; rfl
theorem halves_eq (a : Sw71.Bar) : Sw71.halves a = if halvesOk a = true then some (upperOf a, lowerOf a) else none := rfl
theorem linedOk_out {x : Sw71.Both} {g n : Nat} (h : 2 < x.lines.length ∨ x.lines.all (Sw71.barOk n) = false) : linedOk x g n = false := if_pos h
theorem linedOk_in {x : Sw71.Both} {g n : Nat} (h1 : ¬ 2 < x.lines.length) (h2 : x.lines.all (Sw71.barOk n) = true) : linedOk x g n = if x.lines.length = 1 then (if g = 4 then halvesOk (x.lines.getD 0 []) else [1, 2, 3].contains g) else decide (x.label = 0) :=
  if_neg fun h => by
    rcases h with h | h
    · exact h1 h
    · rw [h2] at h; cases h
theorem lines_one (lab : Nat) (a : Sw71.Bar) (g n : Nat) : linedOk ⟨lab, [a]⟩ g n = (Sw71.barOk n a && (if g = 4 then halvesOk a else [1, 2, 3].contains g)) := by
  cases h : Sw71.barOk n a with
  | true =>
    rw [Bool.true_and]
    exact (linedOk_in (x := ⟨lab, [a]⟩) (by show ¬ 2 < 1; decide) (by show (Sw71.barOk n a && true) = true; rw [h]; rfl)).trans (if_pos rfl)
  | false =>
    rw [Bool.false_and]
    exact linedOk_out (x := ⟨lab, [a]⟩) (.inr (by show (Sw71.barOk n a && true) = false; rw [h]; rfl))
theorem lines_two (lab : Nat) (a b : Sw71.Bar) (g n : Nat) : linedOk ⟨lab, [a, b]⟩ g n = (decide (lab = 0) && (Sw71.barOk n a && Sw71.barOk n b)) := by
  cases h : (Sw71.barOk n a && Sw71.barOk n b) with
  | true =>
    rw [Bool.and_true]
    rw [Bool.and_eq_true] at h
    exact (linedOk_in (x := ⟨lab, [a, b]⟩) (by show ¬ 2 < 2; decide) (by show (Sw71.barOk n a && (Sw71.barOk n b && true)) = true; rw [h.1, h.2]; rfl)).trans (if_neg (by show ¬ 2 = 1; decide))
  | false =>
    rw [Bool.and_false]
    exact linedOk_out (x := ⟨lab, [a, b]⟩) (.inr (by show (Sw71.barOk n a && (Sw71.barOk n b && true)) = false; rw [Bool.and_true, h]))
theorem parted_rec : ∀ (ls : List Nat) (f : Nat) (xs : List Sw71.Both), (∀ n ∈ ls, 1 ≤ n) → Sw71.parted ls f xs = if okRec ls f xs = true then some (pairRec ls f xs) else none
  | [], _, [], _ => rfl
  | [], _, _ :: _, _ => rfl
  | _ :: _, _, [], _ => rfl
  | n :: ns, f, ⟨lab, lines⟩ :: l, hp => by
    have hn := hp n (List.mem_cons_self ..)
    have ih := fun f => parted_rec ns f l fun m hm => hp m (List.mem_cons_of_mem _ hm)
    have ek : okRec (n :: ns) f (⟨lab, lines⟩ :: l) = (linedOk ⟨lab, lines⟩ (forceOf lab f) n && okRec ns (forceOf lab f) l) := rfl
    have ep : pairRec (n :: ns) f (⟨lab, lines⟩ :: l) = pairLn lines (forceOf lab f) n :: pairRec ns (forceOf lab f) l := rfl
    rw [ek, ep]
    match lines with
    | [] =>
      show (if lab ≠ 0 then none else (Sw71.parted ns f l).map fun r => (Sw71.restBar n, Sw71.restBar n) :: r) = _
      have e : linedOk ⟨lab, []⟩ (forceOf lab f) n = decide (lab = 0) := rfl
      rw [e]
      by_cases c : lab = 0
      · have ef : forceOf lab f = f := if_pos c
        rw [if_neg (by omega), decide_eq_true c, Bool.true_and, ef, ih, map_ite, restBar_pos hn]; rfl
      · rw [if_pos c, decide_eq_false c, Bool.false_and]; rfl
    | [a] =>
      show (if Sw71.barOk n a = false then none else if forceOf lab f = 1 then (Sw71.parted ns (forceOf lab f) l).map fun r => (a, Sw71.restBar n) :: r else if forceOf lab f = 2 then (Sw71.parted ns (forceOf lab f) l).map fun r => (Sw71.restBar n, a) :: r else if forceOf lab f = 3 then (Sw71.parted ns (forceOf lab f) l).map fun r => (a, a) :: r else if forceOf lab f = 4 then (Sw71.halves a).bind fun h => (Sw71.parted ns (forceOf lab f) l).map fun r => h :: r else none) = _
      rw [lines_one, ih]
      generalize forceOf lab f = g
      cases cb : Sw71.barOk n a with
      | false => rw [if_pos rfl, Bool.false_and, Bool.false_and]; rfl
      | true =>
        rw [if_neg (by intro z; cases z), Bool.true_and]
        show _ = if ((if g = 4 then halvesOk a else [1, 2, 3].contains g) && okRec ns g l) = true then some (lineOf a g n :: pairRec ns g l) else none
        unfold lineOf
        by_cases c1 : g = 1
        · subst c1
          rw [if_pos rfl, map_ite, restBar_pos hn]; rfl
        rw [if_neg c1, if_neg c1]
        by_cases c2 : g = 2
        · subst c2
          rw [if_pos rfl, map_ite, restBar_pos hn]; rfl
        rw [if_neg c2, if_neg c2]
        by_cases c3 : g = 3
        · subst c3
          rw [if_pos rfl, map_ite]; rfl
        rw [if_neg c3, if_neg c3]
        by_cases c4 : g = 4
        · rw [if_pos c4, if_pos c4, halves_eq]
          cases halvesOk a with
          | true =>
            rw [if_pos rfl, Bool.true_and]
            show ((if okRec ns g l = true then some (pairRec ns g l) else none).map fun r => (upperOf a, lowerOf a) :: r) = _
            rw [map_ite]
          | false => rw [if_neg (by intro z; cases z), Bool.false_and]; rfl
        · rw [if_neg c4, if_neg c4]
          have e : [1, 2, 3].contains g = false := by
            rw [← Bool.not_eq_true, List.contains_iff_mem]
            intro z
            rcases List.mem_cons.mp z with z | z
            · exact c1 z
            rcases List.mem_cons.mp z with z | z
            · exact c2 z
            exact c3 (List.mem_singleton.mp z)
          rw [e, Bool.false_and]; rfl
    | [a, b] =>
      show (if lab ≠ 0 ∨ Sw71.barOk n a = false ∨ Sw71.barOk n b = false then none else (Sw71.parted ns f l).map fun r => (a, b) :: r) = _
      have e := lines_two lab a b (forceOf lab f) n
      rw [e]
      by_cases c : lab = 0
      · have ef : forceOf lab f = f := if_pos c
        rw [decide_eq_true c, Bool.true_and, ef, ih]
        cases Sw71.barOk n a with
        | false => rw [if_pos (.inr (.inl rfl)), Bool.false_and, Bool.false_and]; rfl
        | true =>
          cases Sw71.barOk n b with
          | false => rw [if_pos (.inr (.inr rfl))]; rfl
          | true =>
            rw [if_neg (by rintro (z | z | z); exact z c; cases z; cases z), map_ite]; rfl
      · rw [if_pos (.inl c), decide_eq_false c, Bool.false_and, Bool.false_and]; rfl
    | a :: b :: d :: r =>
      show none = _
      have e : linedOk ⟨lab, a :: b :: d :: r⟩ (forceOf lab f) n = false := linedOk_out (.inl (by show 2 < r.length + 1 + 1 + 1; omega))
      rw [e, Bool.false_and]; rfl
end
end Ps

namespace Ps
open PySem PySem.Spec PyProof.Rows L2
section
variable {P : Program} {w : World} {K : PySem.W.Frag} {mg : Str → Option Value} {base : Heap}
/-! ### answer_parted -/
theorem both_short {l l' : List Int} {x : Sw71.Both} (h : Sw71Neutral.bothIn l = some (x, l')) : x.lines.length ≤ 1000 ∧ ∀ b ∈ x.lines, b.length ≤ 1000 := by
  obtain ⟨l1, _, hb⟩ := bothIn_some h
  exact ⟨Nat.le_trans (listIn_short hb) (by decide), listIn_all (fun _ _ _ h => Nat.le_trans (listIn_short h) (by decide)) hb⟩
def RParted : Rel := fun l S l' S' out => ∃ (row : List Int) (bs : List Sw71.Both), l = (row.length : Int) :: (row ++ l') ∧ Sw71Neutral.listIn Sw71Neutral.bothIn row = some (bs, []) ∧ S' = (Sw71.step S (.parted bs)).1 ∧ out = Sw71Neutral.out (Sw71.step S (.parted bs)).2
theorem step_parted (S : Sw71.Score) (bs : List Sw71.Both) (h : ∀ n ∈ S.bars, 1 ≤ n) : Sw71.step S (.parted bs) = if linedsOk S.bars bs = true then (S, ⟨((pairsOf S.bars bs).length : Nat), [Sw71.staffOut ((pairsOf S.bars bs).map fun x => x.1), Sw71.staffOut ((pairsOf S.bars bs).map fun x => x.2)]⟩) else (S, Sw71.ok (-1)) := by
  show (S, match Sw71.parted S.bars 0 bs with | none => Sw71.ok (-1) | some r => ⟨(r.length : Nat), [Sw71.staffOut (r.map fun (x : Sw71.Bar × Sw71.Bar) => x.1), Sw71.staffOut (r.map fun (x : Sw71.Bar × Sw71.Bar) => x.2)]⟩) = _
  rw [parted_rec S.bars 0 bs h, ← okRec_eq, ← pairRec_eq]
  show (S, match (if linedsOk S.bars bs = true then some (pairsOf S.bars bs) else none) with | none => Sw71.ok (-1) | some r => ⟨(r.length : Nat), [Sw71.staffOut (r.map fun (x : Sw71.Bar × Sw71.Bar) => x.1), Sw71.staffOut (r.map fun (x : Sw71.Bar × Sw71.Bar) => x.2)]⟩) = _
  by_cases c : linedsOk S.bars bs = true
  · rw [if_pos c, if_pos c]
  · rw [if_neg c, if_neg c]
theorem ok_answer_parted {CR CS CL f : Addr} {fd : FuncData} (n_len : mg "len" = none) (D : Dn K mg "answer_parted" s_answer_parted ["score", "reader"] f fd) (R : RdC P w K mg base CR) (Z : ScC P w K mg base CS)
    (C1 : Cal P w K mg base "read_lined_bars" 6 ["reader"] (sp_read_lined_bars K CR CL)) (C2 : Cal P w K mg base "lined_bars_as_told" 5 ["lined_bars", "lengths"] (sp_lined_bars_as_told CL)) (C3 : Cal P w K mg base "parted_bars" 4 ["lined_bars", "lengths"] (sp_parted_bars CL))
    (C4 : Cal P w K mg base "with_lists" 1 ["number", "rows"] sp_with_lists) (C5 : Cal P w K mg base "bars_numbers" 2 ["bars"] sp_bars_numbers) : Cal P w K mg base "answer_parted" 7 ["score", "reader"] (AnsSp K CR CS RParted) := by
  obtain ⟨f_read_lined_bars, fd_read_lined_bars, G_read_lined_bars, m_read_lined_bars, k_read_lined_bars, b_read_lined_bars⟩ := C1.ex
  obtain ⟨f_lined_bars_as_told, fd_lined_bars_as_told, G_lined_bars_as_told, m_lined_bars_as_told, k_lined_bars_as_told, b_lined_bars_as_told⟩ := C2.ex
  obtain ⟨f_parted_bars, fd_parted_bars, G_parted_bars, m_parted_bars, k_parted_bars, b_parted_bars⟩ := C3.ex
  obtain ⟨f_with_lists, fd_with_lists, G_with_lists, m_with_lists, k_with_lists, b_with_lists⟩ := C4.ex
  obtain ⟨f_bars_numbers, fd_bars_numbers, G_bars_numbers, m_bars_numbers, k_bars_numbers, b_bars_numbers⟩ := C5.ex
  obtain ⟨f_Reader_take_row, fd_Reader_take_row, G_Reader_take_row, h_Reader_take_row, b_Reader_take_row⟩ := R.row.ex
  obtain ⟨f_Reader_init, fd_Reader_init, M_Reader, G_Reader_init, b_Reader_init⟩ := R.init
  refine D.cal (D.fn.ok sc_answer_parted (fun vs H Q E h => ?_) (fun cdv A outer s H vs Q E hr h => ?_))
  · obtain ⟨e, sl, l, S, l', S', out, rfl, _⟩ := h
    rfl
  · obtain ⟨e, sl, l, S, l', S', out, rfl, W0, ⟨row, bs, rfl, hin, eS, eO⟩, hbig, q⟩ := h
    refine ⟨_, (pss_cons (ps_set (i := 2) sc_answer_parted.nd rfl (Or.inl rfl) (pe_call G_read_lined_bars (hr.mono (by decide)) rfl m_read_lined_bars k_read_lined_bars b_read_lined_bars .nil pass0 (pa_cons (pe_make M_Reader G_Reader_init (hr.mono (by decide)) rfl R.gC b_Reader_init .nil pass0 (pa_cons (pe_meth0 (pv 1) R.cl h_Reader_take_row G_Reader_take_row (hr.mono (by decide)) b_Reader_take_row .nil pass0) pa_nil)) pa_nil)))
      (pss_cons (ps_if (pt_not (pt_val (pe_call G_lined_bars_as_told (hr.mono (by decide)) rfl m_lined_bars_as_told k_lined_bars_as_told b_lined_bars_as_told .nil pass0 (pa_cons (pv 2) (pa_cons (pe_fld (pv 0) rfl) pa_nil)))))
        (pss_one (ps_ret (pe_lst (pa_cons (pe_un un_neg pe_int) pa_nil))))
        pss_nil)
      (pss_cons (ps_set (i := 3) sc_answer_parted.nd rfl (Or.inl rfl) (pe_call G_parted_bars (hr.mono (by decide)) rfl m_parted_bars k_parted_bars b_parted_bars .nil pass0 (pa_cons (pv 2) (pa_cons (pe_fld (pv 0) rfl) pa_nil))))
      (pss_cons (ps_setLc (i := 4) (own := [("pair", 6)]) (te := tOp (rIxT K) (tVar 6) (tC (.int 0))) rfl sc_answer_parted.nd rfl rfl (sw_true rfl rfl rfl (by decide +kernel)) (pi_list (pv 3)) (blkOk_by (own := [("pair", 6)]) (N := ["score", "reader", "lined_bars", "pairs", "first", "second", "pair"]) (sc := defScope s_answer_parted) (by decide +kernel)) (fun _ _ _ _ _ => (pg_name (i := 6) sc_answer_parted.nd rfl (Or.inl rfl))) (fun _ _ _ _ _ => pts_nil) (fun _ _ _ _ _ => (pe_ix ix_tup (pv 6) pe_int (fun _ _ => rfl))))
      (pss_cons (ps_setLc (i := 5) (own := [("pair", 6)]) (te := tOp (rIxT K) (tVar 6) (tC (.int 1))) rfl sc_answer_parted.nd rfl rfl (sw_true rfl rfl rfl (by decide +kernel)) (pi_list (pv 3)) (blkOk_by (own := [("pair", 6)]) (N := ["score", "reader", "lined_bars", "pairs", "first", "second", "pair"]) (sc := defScope s_answer_parted) (by decide +kernel)) (fun _ _ _ _ _ => (pg_name (i := 6) sc_answer_parted.nd rfl (Or.inl rfl))) (fun _ _ _ _ _ => pts_nil) (fun _ _ _ _ _ => (pe_ix ix_tup (pv 6) pe_int (fun _ _ => rfl))))
      (pss_one (ps_ret (pe_call G_with_lists (hr.mono (by decide)) rfl m_with_lists k_with_lists b_with_lists .nil pass0 (pa_cons (pe_callB call_len_seq (by rfl) n_len PySem.boot_len (pa_cons (pv 3) pa_nil)) (pa_cons (pe_lst (pa_cons (pe_call G_bars_numbers (hr.mono (by decide)) rfl m_bars_numbers k_bars_numbers b_bars_numbers .nil pass0 (pa_cons (pv 4) pa_nil)) (pa_cons (pe_call G_bars_numbers (hr.mono (by decide)) rfl m_bars_numbers k_bars_numbers b_bars_numbers .nil pass0 (pa_cons (pv 5) pa_nil)) pa_nil))) pa_nil)))))))))), ?_⟩
    obtain ⟨dx0, p0, hr0, _⟩ := id W0.rd
    refine ⟨_, rfl, e.r, dx0, _, rfl, hr0, rdF_no _ _ (by decide +kernel) (by decide +kernel), e.r, _, _, row, _, rfl, W0.rdAt, fun H2 z2 R2 f2 nz2 hz2 => ?_⟩
    have W2 := W0.reads R2 f2
    have none2 : ∀ c, H2 c = none → H c = none := fun c z => by
      obtain ⟨dx9, fs9, h9⟩ := R2.ins
      exact fr_none h9 f2 c z
    refine fun r2 dx2 nr2 ndx2 ne2 => ?_
    refine ⟨r2, dx2, z2, row, rfl, upd_same, ((same_upd ndx2).trans (same_upd (by rw [upd_ne (fun e => ne2 e.symm)]; exact nr2))).seq (SqL.of hz2), fun HI RI fI => ⟨rfl, ?_⟩⟩
    have sHI := made nr2 ndx2 ne2 fI
    refine ⟨r2, z2, row, row, bs, [], rfl, ⟨RI, sHI.seq (SqL.of hz2)⟩, hin, fun H3 u R3 f3 hu0 => ?_⟩
    have s3 : Same H2 H3 := fun b o e => f3 _ _ (sHI b o e) (ne_of_none e nr2)
    have hu : ListAt (LinedAt CL) H3 u bs := listAt_mono linedAt_mono _ _ _ _ (new_in HI H3) hu0
    have W3 := W2.same s3
    have f03 : FrW e sl H H3 := (frW_r f2).trans (frW_same s3)
    obtain ⟨G, hG⟩ := id W3.sc
    obtain ⟨dxs, la, ba, vsl, hs, hla, hba, hsl, hpr⟩ := id hG.ex
    have hla3 : NumsAt H3 la S.bars := numsAt_mono _ _ _ _ hG.sub hla
    have short := listIn_short hin
    have shorts := listIn_all (fun _ _ _ h => both_short h) hin
    rw [step_parted S bs W3.good.pos] at eS eO
    refine ⟨_, rfl, _, rfl, e.s, CS, dxs, _, _, rfl, hs, Z.cl, Z.nL, scF_l _ _ _, u, la, bs, S.bars, rfl, hu, hla3, by omega, fun x hx => (shorts x hx).1, fun H4 s4 => ⟨_, rfl, ?_⟩⟩
    cases c3 : linedsOk S.bars bs with
    | false =>
      refine iteT_of rfl ?_
      rw [if_neg (by rw [c3]; intro z; cases z)] at eS eO
      subst eS eO
      refine ⟨_, rfl, by show 1 ≤ sizeLine; decide, fun p np => ?_⟩
      have sp := same_upd (o := .lst [V.int (-1)]) np
      exact q _ p sl ((W3.same s4).same sp) (f03.trans (frW_same (s4.trans sp))) ⟨_, sp _ _ (s4 _ _ hsl)⟩ (.inl rfl) (none2 p (s3.free (s4.free np))) upd_same
    | true =>
      refine iteF_of rfl ?_
      rw [if_pos c3] at eS eO
      have eS3 : S = S' := eS.symm
      subst eS3
      have hll : bs.length = S.bars.length := by
        unfold linedsOk at c3
        rw [Bool.and_eq_true] at c3
        exact of_decide_eq_true c3.1
      refine ⟨_, rfl, _, rfl, e.s, CS, dxs, _, _, rfl, s4 _ _ hs, Z.cl, Z.nL, scF_l _ _ _, u, la, bs, S.bars, rfl, listAt_mono linedAt_mono _ _ _ _ s4 hu, numsAt_mono _ _ _ _ s4 hla3, hll, by omega, fun x hx => (shorts x hx).2, fun H5 us s5 hus => ?_⟩
      obtain ⟨ua, uxs, rfl, hua, hup⟩ := hus
      have plen : (pairsOf S.bars bs).length ≤ 60 := by
        show ((bs.zip _).map _).length ≤ 60
        rw [List.length_map, List.length_zip]
        omega
      generalize hst : pairsOf S.bars bs = pairs at eO hup plen
      have hbig2 : (Sw71Neutral.out ⟨(pairs.length : Nat), [Sw71.staffOut (pairs.map fun x => x.1), Sw71.staffOut (pairs.map fun x => x.2)]⟩).length ≤ 1000000 := eO ▸ hbig
      have b1 : (Sw71.staffOut (pairs.map fun x => x.1)).length ≤ 10000000 := Nat.le_trans (Nat.le_trans (out_row (pairs.length : Nat) [Sw71.staffOut (pairs.map fun x => x.1), Sw71.staffOut (pairs.map fun x => x.2)] _ (List.mem_cons_self ..)) hbig2) (by decide)
      have b2 : (Sw71.staffOut (pairs.map fun x => x.2)).length ≤ 10000000 := Nat.le_trans (Nat.le_trans (out_row (pairs.length : Nat) [Sw71.staffOut (pairs.map fun x => x.1), Sw71.staffOut (pairs.map fun x => x.2)] _ (List.mem_cons_of_mem _ (List.mem_cons_self ..))) hbig2) (by decide)
      refine ⟨_, rfl, ua, rfl, ⟨_, SqL.of hua⟩, fun L nL => lc_list (K := K) (a := ua) (xs := uxs) (fun j H' => ∃ vs, Same H5 H' ∧ H' L = some (.lst vs) ∧ Paired (BarAt H5) vs ((pairs.take j).map fun x => x.1))
        ⟨[], same_upd nL, upd_same, .nil⟩ (fun j H' _ ⟨_, s6, _⟩ => SqL.of (s6 _ _ hua)) ?_ ?_⟩
      · rintro j y Hi hj ⟨vs, si, hL, pr⟩
        obtain ⟨pa, hpa, t, u1, u2, rfl, ht, hb1, hb2⟩ := paired_at hup hj
        refine ⟨rfl, lc_yes ?_⟩
        refine ⟨_, rfl, t, _, _, u1, rfl, rfl, SqT.of (si _ _ ht), at_of (j := 0) rfl rfl, vs, hL, small1000 (by rw [pr.length, List.length_map, List.length_take]; omega), vs ++ [u1], fun c o w => ?_, upd_same, ?_⟩
        · rw [upd_ne (ne_of_none w nL)]; exact si _ _ w
        · rw [snoc_take hpa, List.map_append]
          exact Paired.snoc pr hb1
      · rintro H6 ⟨vs1, s6, hL, pr1⟩
        rw [hup.length, List.take_length] at pr1
        have hua6 := s6 _ _ hua
        have hup6 : Paired (PairAt H6) uxs pairs := Paired.mono (fun _ _ h => pairAt_mono _ _ _ _ s6 h) hup
        have first6 : BarsAt H6 (.ref L) (pairs.map fun x => x.1) := ⟨L, vs1, rfl, hL, Paired.mono (fun _ _ h => barAt_mono _ _ _ _ s6 h) pr1⟩
        refine ⟨_, rfl, ua, rfl, ⟨_, SqL.of hua6⟩, fun M nM => lc_list (K := K) (a := ua) (xs := uxs) (fun j H' => ∃ vs, Same H6 H' ∧ H' M = some (.lst vs) ∧ Paired (BarAt H6) vs ((pairs.take j).map fun x => x.2))
          ⟨[], same_upd nM, upd_same, .nil⟩ (fun j H' _ ⟨_, s7, _⟩ => SqL.of (s7 _ _ hua6)) ?_ ?_⟩
        · rintro j y Hi hj ⟨vs, si, hM, pr⟩
          obtain ⟨pa, hpa, t, u1, u2, rfl, ht, hb1, hb2⟩ := paired_at hup6 hj
          refine ⟨rfl, lc_yes ?_⟩
          refine ⟨_, rfl, t, _, _, u2, rfl, rfl, SqT.of (si _ _ ht), at_of (j := 1) rfl rfl, vs, hM, small1000 (by rw [pr.length, List.length_map, List.length_take]; omega), vs ++ [u2], fun c o w => ?_, upd_same, ?_⟩
          · rw [upd_ne (ne_of_none w nM)]; exact si _ _ w
          · rw [snoc_take hpa, List.map_append]
            exact Paired.snoc pr hb2
        · rintro H7 ⟨vs2, s7, hM, pr2⟩
          rw [hup.length, List.take_length] at pr2
          have second7 : BarsAt H7 (.ref M) (pairs.map fun x => x.2) := ⟨M, vs2, rfl, hM, Paired.mono (fun _ _ h => barAt_mono _ _ _ _ s7 h) pr2⟩
          have s57 := s6.trans s7
          refine ⟨_, rfl, ua, _, rfl, .inl (SqL.of (s57 _ _ hua)), _, rfl, .ref L, _, rfl, barsAt_mono _ _ _ _ s7 first6, b1, fun H8 p8 s8 n8 h8 => ?_⟩
          refine ⟨_, rfl, .ref M, _, rfl, barsAt_mono _ _ _ _ s8 second7, b2, fun H9 p9 s9 n9 h9 => ⟨by show 2 ≤ sizeLine; decide, fun z nz => ?_⟩⟩
          have sz := same_upd (o := .lst [V.ref p8, V.ref p9]) nz
          subst eO
          refine ⟨(uxs.length : Nat), .ref z, [Sw71.staffOut (pairs.map fun x => x.1), Sw71.staffOut (pairs.map fun x => x.2)], rfl, ⟨z, _, rfl, upd_same, .cons ⟨p8, rfl, sz _ _ (s9 _ _ h8)⟩ (.cons ⟨p9, rfl, sz _ _ h9⟩ .nil)⟩, ?_, fun H10 p s10 np hp => ?_⟩
          · rw [hup.length]
            exact Nat.le_trans hbig2 (by decide)
          rw [hup.length] at hp
          have s39 := (((s4.trans s5).trans s57).trans s8).trans (s9.trans sz)
          have s3t := s39.trans s10
          exact q _ p sl (W3.same s3t) (f03.trans (frW_same s3t)) ⟨_, s3t _ _ hsl⟩ (.inl rfl) (none2 p (s3.free (s39.free np))) hp
end
end Ps

namespace Ps
open PySem PySem.Spec PyProof.Rows L2
section
variable {P : Program} {w : World} {K : PySem.W.Frag} {mg : Str → Option Value} {base : Heap}
/-! ### answers -/
def RCall : Rel := fun l S l' S' out => ∃ c x, PyFlat.call PySw71.shape l = some (c, l') ∧ Sw71Neutral.callOf ((PySw71.whole c).headD []) = some x ∧ S' = (Sw71.step S x).1 ∧ out = Sw71Neutral.out (Sw71.step S x).2
abbrev nstep (S : Sw71.Score) (c : List (List Int)) : Sw71.Score × List Int := Sw71Neutral.step S (c.headD [])
theorem nstep_of {S : Sw71.Score} {c : List (List Int)} {x : Sw71.Call} (h : Sw71Neutral.callOf (c.headD []) = some x) : nstep S c = ((Sw71.step S x).1, Sw71Neutral.out (Sw71.step S x).2) := by
  show (match Sw71Neutral.callOf (c.headD []) with | none => (S, []) | some x => ((Sw71.step S x).1, Sw71Neutral.out (Sw71.step S x).2)) = _
  rw [h]
/-- what is still to come: the calls left, all as asked, their answers not too long -/
structure Left (l : List Int) (S : Sw71.Score) (f : Nat) (raw : List (List (List Int))) : Prop where
  calls : PyFlat.calls PySw71.shape f l = some raw
  ask : ∀ c ∈ raw, Sw71Neutral.asked1 ((PySw71.whole c).headD []) = true
  many : Sw71Neutral.many S ((raw.map PySw71.whole).map fun c => c.headD []) ≤ 1000000
theorem Left.turn {p : Int} {r : List Int} {S : Sw71.Score} {f : Nat} {raw : List (List (List Int))} (h : Left (p :: r) S f raw) : ∃ c cs l' S' out f', raw = c :: cs ∧ RCall (p :: r) S l' S' out ∧ out.length ≤ 1000000 ∧ nstep S (PySw71.whole c) = (S', out) ∧ Left l' S' f' cs := by
  have hc := h.calls
  cases f with
  | zero => cases hc
  | succ f =>
    have hc : (match PyFlat.call PySw71.shape (p :: r) with | none => none | some (c, t) => match PyFlat.calls PySw71.shape f t with | none => none | some cs => some (c :: cs)) = some raw := hc
    cases e : PyFlat.call PySw71.shape (p :: r) with
    | none => rw [e] at hc; cases hc
    | some y =>
      obtain ⟨c, t⟩ := y
      rw [e] at hc
      have hc : (match PyFlat.calls PySw71.shape f t with | none => none | some cs => some (c :: cs)) = some raw := hc
      cases e2 : PyFlat.calls PySw71.shape f t with
      | none => rw [e2] at hc; cases hc
      | some cs =>
        rw [e2] at hc
        cases hc
        have a1 := h.ask c (List.mem_cons_self ..)
        obtain ⟨x, hx⟩ := Option.isSome_iff_exists.mp a1
        have m : (nstep S (PySw71.whole c)).2.length + Sw71Neutral.many (nstep S (PySw71.whole c)).1 ((cs.map PySw71.whole).map fun c => c.headD []) ≤ 1000000 := h.many
        rw [nstep_of hx] at m
        have m : (Sw71Neutral.out (Sw71.step S x).2).length + Sw71Neutral.many (Sw71.step S x).1 ((cs.map PySw71.whole).map fun c => c.headD []) ≤ 1000000 := m
        exact ⟨c, cs, t, _, _, f, rfl, ⟨c, x, e, hx, rfl, rfl⟩, by omega, nstep_of hx, ⟨e2, fun d hd => h.ask d (List.mem_cons_of_mem _ hd), by omega⟩⟩
theorem Left.done {S : Sw71.Score} {f : Nat} {raw : List (List (List Int))} (h : Left [] S f raw) : raw = [] := by
  have hc : some ([] : List (List (List Int))) = some raw := by
    rw [← h.calls]
    cases f <;> rfl
  exact (Option.some.inj hc).symm
def restAns (S : Sw71.Score) (raw : List (List (List Int))) : List Int := PyFlat.told (PyFlat.played nstep S (raw.map PySw71.whole))
theorem restAns_turn {S S' : Sw71.Score} {c : List (List Int)} {cs : List (List (List Int))} {out : List Int} (h : nstep S (PySw71.whole c) = (S', out)) : restAns S (c :: cs) = (out.length : Int) :: (out ++ restAns S' cs) := by
  show PyFlat.told ((nstep S (PySw71.whole c)).2 :: PyFlat.played nstep (nstep S (PySw71.whole c)).1 (cs.map PySw71.whole)) = _
  rw [h]; rfl
theorem asked_left {ns : List Int} (h : PySw71.answers_asked ns = true) : ∃ raw, Left ns Sw71.init ns.length raw ∧ PySw71.answers ns = restAns Sw71.init raw ∧ (restAns Sw71.init raw).length ≤ 10000000 := by
  unfold PySw71.answers_asked at h
  cases e : PyFlat.calls PySw71.shape ns.length ns with
  | none => rw [e] at h; cases h
  | some raw =>
    rw [e] at h
    have h : (!raw.isEmpty && PyFlat.atMost 60 raw && PyInside.calls PySw71.bound raw && Sw71Neutral.asked ((raw.map PySw71.whole).map fun c => c.headD []) && PyFlat.short 10000000 (PySw71.answers ns)) = true := h
    rw [Bool.and_eq_true, Bool.and_eq_true] at h
    obtain ⟨⟨_, h2⟩, h3⟩ := h
    unfold Sw71Neutral.asked at h2
    rw [Bool.and_eq_true, Bool.and_eq_true, Bool.and_eq_true] at h2
    have ea : PySw71.answers ns = restAns Sw71.init raw := by
      unfold PySw71.answers PySw71.calls
      rw [e]; rfl
    refine ⟨raw, ⟨e, fun c hc => List.all_eq_true.mp h2.1 _ (List.mem_map.mpr ⟨_, List.mem_map.mpr ⟨c, hc, rfl⟩, rfl⟩), of_decide_eq_true h2.2.2.2⟩, ea, ?_⟩
    rw [← ea]
    exact of_decide_eq_true h3
def sp_answers (K : PySem.W.Frag) : Sp := fun vs H Q _ => ∃ (a : Addr) (ns : List Int), vs = [.ref a] ∧ SqL K H a (ns.map V.int) ∧ PySw71.answers_asked ns = true ∧ ∀ H' p, H' p = some (.lst ((PySw71.answers ns).map V.int)) → Q (.ref p) H'
theorem ok_answers {CR CS f : Addr} {fd : FuncData} {k : Nat} (n_len : mg "len" = none) (F : Fun K "answers" "answers" s_answers f fd) (R : RdC P w K mg base CR) (Z : ScC P w K mg base CS) (hk : 2 ≤ k)
    (C1 : Cal P w K mg base "answer_call" k ["score", "reader"] (AnsSp K CR CS RCall)) : FnOk P w K mg base CX0 (k + 1) f fd ["calls"] (sp_answers K) := by
  obtain ⟨f_answer_call, fd_answer_call, G_answer_call, m_answer_call, k_answer_call, b_answer_call⟩ := C1.ex
  obtain ⟨f_Reader_at_end, fd_Reader_at_end, G_Reader_at_end, h_Reader_at_end, b_Reader_at_end⟩ := R.end_.ex
  obtain ⟨f_Reader_init, fd_Reader_init, M_Reader, G_Reader_init, b_Reader_init⟩ := R.init
  obtain ⟨f_Score_init, fd_Score_init, M_Score, G_Score_init, b_Score_init⟩ := Z.init
  refine F.ok sc_answers (fun vs H Q E h => ?_) (fun cdv A outer s0 H vs Q E hr h => ?_)
  · obtain ⟨a, ns, rfl, _⟩ := h
    rfl
  · obtain ⟨a, ns, rfl, hS, hask, q⟩ := h
    obtain ⟨raw, hL, hans, hlong⟩ := asked_left hask
    rw [hans] at q
    have hr1 : Room 1 _ := hr.mono (by omega)
    have hr2 : Room (1 + 1) _ := hr.mono (by omega)
    refine ⟨_, (pss_cons (ps_set (i := 1) sc_answers.nd rfl (Or.inl rfl) (pe_make M_Reader G_Reader_init hr2 rfl R.gC b_Reader_init .nil pass0 (pa_cons (pv 0) pa_nil)))
      (pss_cons (ps_set (i := 2) sc_answers.nd rfl (Or.inl rfl) (pe_make0 M_Score G_Score_init hr2 rfl Z.gC b_Score_init .nil pass0))
      (pss_cons (ps_set (i := 3) sc_answers.nd rfl (Or.inl rfl) (pe_lst pa_nil))
      (pss_cons (ps_while PassesOwn.never (pt_not (pt_val (pe_meth0 (pv 1) R.cl h_Reader_at_end G_Reader_at_end hr1 b_Reader_at_end .nil pass0)))
        (pss_cons (ps_set (i := 4) sc_answers.nd rfl (Or.inl rfl) (pe_call G_answer_call hr rfl m_answer_call k_answer_call b_answer_call .nil pass0 (pa_cons (pv 2) (pa_cons (pv 1) pa_nil))))
        (pss_cons (ps_expr (pe_bm PySem.F.plainAttrs_list PySem.F.slot_list_append PySem.F.type_list_append mt_append (pv 3) (pa_cons (pe_callB call_len_seq (by rfl) n_len PySem.boot_len (pa_cons (pv 4) pa_nil)) pa_nil)))
        (pss_one (ps_expr (pe_bm PySem.F.plainAttrs_list PySem.F.slot_list_extend PySem.F.type_list_extend mt_extend (pv 3) (pa_cons (pv 4) pa_nil)))))))
      (pss_one (ps_ret (pv 3))))))), ?_⟩
    -- reader = Reader(calls)
    refine ⟨_, rfl, fun r dx nr ndx ne => ?_⟩
    have sI : Same H (upd (upd H dx (.own r)) r (.ins CR dx [])) := (same_upd ndx).trans (same_upd (by rw [upd_ne (fun e => ne e.symm)]; exact nr))
    refine ⟨r, dx, a, ns, rfl, upd_same, sI.seq hS, fun H1 R1 f1 => ⟨rfl, ?_⟩⟩
    have s1 : Same H H1 := fun b o e => f1 _ _ (sI b o e) (ne_of_none e nr)
    -- score = Score()
    refine fun s dy ns0 ndy ney => ?_
    have sJ : Same H1 (upd (upd H1 dy (.own s)) s (.ins CS dy [])) := (same_upd ndy).trans (same_upd (by rw [upd_ne (fun e => ney e.symm)]; exact ns0))
    refine ⟨s, dy, rfl, upd_same, fun H2 sl hG f2 nsl => ⟨rfl, ?_⟩⟩
    obtain ⟨G, sG, hG⟩ := hG
    have s2 : Same H1 H2 := fun b o e => f2 _ _ (sJ b o e) (ne_of_none e ns0)
    -- told = []
    refine ⟨Nat.zero_le _, fun t nt => ?_⟩
    have s3 := same_upd (o := .lst []) nt
    have hP2 := hG t (sG.free nt)
    obtain ⟨dxr, pr, hr1', _⟩ := id R1
    have rs : r ≠ s := ne_of_none hr1' ns0
    have nslH : H sl = none := s1.free (sJ.free nsl)
    obtain ⟨dxs, la, ba, vsl, _, _, _, hsl2, _⟩ := id hP2.ex
    have W3 : Wd K CR CS ⟨r, s, t, a, ns, H⟩ (upd H2 t (.lst [])) sl ns Sw71.init :=
      ⟨(s1.trans s2).trans s3, nr, s1.free ns0, nslH, hS, R1.at fun o z => s3 _ _ (s2 _ _ z), ⟨G, hP2.same s3⟩, rs, ⟨_, upd_same⟩, (ne_of_none hsl2 nt).symm, ⟨fun n h => (by cases h), fun n h => (by cases h), Nat.zero_le _, Nat.zero_le _, fun n h => (by cases h)⟩⟩
    have h3 : (upd H2 t (.lst [])) t = some (.lst []) := upd_same
    generalize hH3 : upd H2 t (.lst []) = H3 at W3 h3
    refine ⟨fun m σ H' => ∃ (v4 : Option V) (sl : Addr) (l : List Int) (S : Sw71.Score) (f : Nat) (raw' : List (List (List Int))) (done : List Int), σ = [some (.ref a), some (.ref r), some (.ref s), some (.ref t), v4] ∧ m = raw'.length ∧ Wd K CR CS ⟨r, s, t, a, ns, H⟩ H' sl l S ∧ Left l S f raw' ∧ H' t = some (.lst (done.map V.int)) ∧ restAns Sw71.init raw = done ++ restAns S raw',
      ⟨_, none, sl, ns, Sw71.init, _, raw, [], rfl, rfl, W3, hL, h3, rfl⟩, ?_⟩
    rintro m σ Hi ⟨v4, sl, l, S, f, raw', done, rfl, rfl, Wi, Li, hti, ei⟩
    obtain ⟨dxi, pi, hri, _⟩ := id Wi.rd
    refine ⟨_, rfl, r, dxi, _, rfl, hri, rdF_no _ _ (by decide +kernel) (by decide +kernel), r, a, ns, l, rfl, Wi.rdAt, _, rfl, ?_⟩
    cases l with
    | nil =>
      refine iteF_of rfl ?_
      have e0 := Li.done
      subst e0
      have e1 : restAns Sw71.init raw = done := by rw [ei]; exact List.append_nil _
      rw [e1] at q
      exact ⟨_, rfl, q _ _ hti⟩
    | cons p rl =>
      refine iteT_of rfl ?_
      obtain ⟨c, cs, l', S', out, f', rfl, hR, ho, hn, Ln⟩ := Li.turn
      have en := restAns_turn (cs := cs) hn
      rw [en] at ei
      have long := congrArg List.length ei
      rw [List.length_append, List.length_cons, List.length_append] at long
      refine ⟨fun σ H2 => ∃ (v4 : Option V) (sl2 : Addr), σ = [some (.ref a), some (.ref r), some (.ref s), some (.ref t), v4] ∧ Wd K CR CS ⟨r, s, t, a, ns, H⟩ H2 sl2 l' S' ∧ H2 t = some (.lst ((done ++ (out.length : Int) :: out).map V.int)),
        fun σ2 H2 ⟨v4, sl2, e1, e2, e3⟩ => ⟨_, Nat.lt_succ_self _, v4, sl2, l', S', f', cs, done ++ (out.length : Int) :: out, e1, rfl, e2, Ln, e3, by rw [ei, List.append_assoc]; rfl⟩, ?_⟩
      refine ⟨_, rfl, _, rfl, ⟨r, s, t, a, ns, H⟩, sl, _, S, l', S', out, rfl, Wi, hR, ho, fun HA u sl2 WA fA hsl2 hor nu hu => ?_⟩
      obtain ⟨vsi, hsli⟩ := Wi.slL
      obtain ⟨dxsi, lai, bai, hsi⟩ := Wi.sIns
      have tr : t ≠ r := ne_of hti hri (by intro z; cases z)
      have ts : t ≠ s := ne_of hti hsi (by intro z; cases z)
      have htA : HA t = some (.lst (done.map V.int)) := fA _ _ hti tr ts Wi.tsl
      have ut : u ≠ t := fun z => by subst z; rw [hti] at nu; cases nu
      refine ⟨_, rfl, .inl ⟨rfl, _, SqL.of htA⟩, _, rfl, u, _, rfl, .inl (SqL.of hu), t, _, _, rfl, rfl, htA, line_big (by rw [List.length_map]; omega), ?_⟩
      rw [List.length_map]
      refine ⟨_, rfl, .inl ⟨rfl, _, SqL.of upd_same⟩, _, rfl, t, u, _, _, rfl, rfl, upd_same, by rw [upd_ne ut]; exact hu, Nat.le_of_lt (line_big (by rw [List.length_append, List.length_map, List.length_map]; show _ + 1 + _ ≤ _; omega)), ?_⟩
      refine ⟨_, sl2, rfl, ?_, ?_⟩
      · obtain ⟨GA, hGA⟩ := WA.sc
        have tB : H t = none := by
          cases z : H t with
          | none => rfl
          | some o => exact absurd (s1.trans s2 _ _ z) (by rw [nt]; intro y; cases y)
        rw [upd_upd]
        have up : ∀ c o, c ≠ t → HA c = some o → (upd HA t (.lst (done.map V.int ++ [V.int (out.length : Nat)] ++ out.map V.int))) c = some o := fun c o n e => by rw [upd_ne n]; exact e
        refine ⟨fun c o z => up c o (fun y => by subst y; have z : H c = some o := z; rw [tB] at z; cases z) (WA.sB c o z), WA.br, WA.bs, WA.bsl, WA.sq, WA.rd.at fun o z => up _ o tr.symm z, ⟨GA, ?_⟩, WA.rs, ⟨_, upd_same⟩, WA.tsl, WA.good⟩
        exact hGA.on hGA.dat (Same.refl GA) (fun c o z => up c o (fun y => by subst y; rw [hGA.gt] at z; cases z) (hGA.sub c o z)) hGA.gsl hGA.gt (fun o z => up _ o ts.symm z) (fun o z => up _ o WA.tsl.symm z)
      · rw [upd_same]
        simp
end
end Ps

namespace Ps
open PySem PySem.Spec PyProof.Rows L2
section
variable {P : Program} {w : World} {K : PySem.W.Frag} {mg : Str → Option Value} {base : Heap}
theorem calls_seq {a : Addr} {fs : List Addr} {od : Option Addr} {n : Nat} {sl : Array (Option Value)} (h : K.lookup a = some ⟨.type "tuple", od, .seq (fs.map Value.ref).toArray n, sl⟩) (hn : fs.length ≤ sizeLine) (H : Hp) : SqT K H a (fs.map V.ref) := by
  refine .inr ⟨_, (fs.map Value.ref).toArray, n, h, rfl, rfl, by rw [List.size_toArray, List.length_map]; exact hn, ?_⟩
  show Vals (fs.map V.ref) (fs.map Value.ref)
  clear h hn
  induction fs with
  | nil => exact .nil
  | cons f fs ih => exact .cons rfl ih
/-- the def at f answers a call as R tells -/
theorem Cal.hel {x : Str} {k : Nat} {ps : List Str} {sp : Sp} (C : Cal P w K mg base x k ps sp) {f : Addr} (h : mg x = some (.ref f)) : Hel P w K mg base k f sp := by
  obtain ⟨g, fd, G, m, kp, b⟩ := C.ex
  rw [h] at m
  cases m
  exact ⟨fd, ps, G, kp, b⟩
/-- which of the calls: its place in CALLS, the def there, what it answers -/
inductive Kind (CR CS f0 f1 f2 f3 f4 f5 f6 : Addr) (K : PySem.W.Frag) : Nat → Addr → Rel → Prop where
  | begins : Kind CR CS f0 f1 f2 f3 f4 f5 f6 K 0 f0 RBegins
  | staff : Kind CR CS f0 f1 f2 f3 f4 f5 f6 K 1 f1 RStaff
  | staves : Kind CR CS f0 f1 f2 f3 f4 f5 f6 K 2 f2 RStaves
  | draw : Kind CR CS f0 f1 f2 f3 f4 f5 f6 K 3 f3 RDraw
  | back : Kind CR CS f0 f1 f2 f3 f4 f5 f6 K 4 f4 RBack
  | two : Kind CR CS f0 f1 f2 f3 f4 f5 f6 K 5 f5 RTwo
  | parted : Kind CR CS f0 f1 f2 f3 f4 f5 f6 K 6 f6 RParted
theorem rcall_kind {CR CS f0 f1 f2 f3 f4 f5 f6 : Addr} {l l' : List Int} {S S' : Sw71.Score} {out : List Int} (h : RCall l S l' S' out) :
    ∃ (j : Nat) (l1 : List Int) (fj : Addr) (Rj : Rel), l = (j : Int) :: l1 ∧ Kind CR CS f0 f1 f2 f3 f4 f5 f6 K j fj Rj ∧ Rj l1 S l' S' out := by
  obtain ⟨c, x, hc, hx, eS, eO⟩ := h
  rcases call_cases hc hx with ⟨xs, ys, el, ex⟩ | ⟨row, bars, el, hb, ex⟩ | ⟨k, el, ex⟩ | ⟨least, ks, el, hk, ex⟩ | ⟨m, row, ps, el, hb, ex⟩ | ⟨a, b, el, ex⟩ | ⟨row, bs, el, hb, ex⟩
  · subst ex; exact ⟨0, _, f0, _, el, .begins, xs, ys, rfl, eS, eO⟩
  · subst ex; exact ⟨1, _, f1, _, el, .staff, row, bars, rfl, hb, eS, eO⟩
  · subst ex; exact ⟨2, _, f2, _, el, .staves, k, rfl, eS, eO⟩
  · subst ex; exact ⟨3, _, f3, _, el, .draw, least, ks, rfl, hk, eS, eO⟩
  · subst ex; exact ⟨4, _, f4, _, el, .back, m, row, ps, rfl, hb, eS, eO⟩
  · subst ex; exact ⟨5, _, f5, _, el, .two, a, b, rfl, eS, eO⟩
  · subst ex; exact ⟨6, _, f6, _, el, .parted, row, bs, rfl, hb, eS, eO⟩
theorem ok_answer_call {CR CS f : Addr} {fd : FuncData} {f0 f1 f2 f3 f4 f5 f6 ac : Addr} {od : Option Addr} {nn : Nat} {sl : Array (Option Value)} (D : Dn K mg "answer_call" s_answer_call ["score", "reader"] f fd) (R : RdC P w K mg base CR)
    (g_CALLS : mg "CALLS" = some (.ref ac)) (w_CALLS : K.lookup ac = some ⟨.type "tuple", od, .seq #[.ref f0, .ref f1, .ref f2, .ref f3, .ref f4, .ref f5, .ref f6] nn, sl⟩)
    (C0 : Hel P w K mg base 3 f0 (AnsSp K CR CS RBegins)) (C1 : Hel P w K mg base 5 f1 (AnsSp K CR CS RStaff)) (C2 : Hel P w K mg base 3 f2 (AnsSp K CR CS RStaves)) (C3 : Hel P w K mg base 5 f3 (AnsSp K CR CS RDraw))
    (C4 : Hel P w K mg base 7 f4 (AnsSp K CR CS RBack)) (C5 : Hel P w K mg base 5 f5 (AnsSp K CR CS RTwo)) (C6 : Hel P w K mg base 7 f6 (AnsSp K CR CS RParted)) :
    Cal P w K mg base "answer_call" 8 ["score", "reader"] (AnsSp K CR CS RCall) := by
  obtain ⟨f_Reader_take, fd_Reader_take, G_Reader_take, h_Reader_take, b_Reader_take⟩ := R.take.ex
  have sq : ∀ H, SqT K H ac [.ref f0, .ref f1, .ref f2, .ref f3, .ref f4, .ref f5, .ref f6] := fun H => calls_seq (fs := [f0, f1, f2, f3, f4, f5, f6]) w_CALLS (by show 7 ≤ sizeLine; decide) H
  refine D.cal (D.fn.ok sc_answer_call (fun vs H Q E h => ?_) (fun cdv A outer s H vs Q E hr h => ?_))
  · obtain ⟨e, sl, l, S, l', S', out, rfl, _⟩ := h
    rfl
  · obtain ⟨e, sl, l, S, l', S', out, rfl, W0, hR, hbig, q⟩ := h
    refine ⟨_, (pss_cons (ps_set (i := 2) sc_answer_call.nd rfl (Or.inl rfl) (pe_meth0 (pv 1) R.cl h_Reader_take G_Reader_take (hr.mono (by decide)) b_Reader_take .nil pass0))
      (pss_one (ps_ret (pe_callX (Hd := fun f sp => ∃ j Rj, Kind CR CS f0 f1 f2 f3 f4 f5 f6 K j f Rj ∧ sp = AnsSp K CR CS Rj)
        (fun f sp h => by
          obtain ⟨j, Rj, hk, rfl⟩ := h
          cases hk with
          | begins => exact ⟨3, C0, hr.mono (by decide)⟩
          | staff => exact ⟨5, C1, hr.mono (by decide)⟩
          | staves => exact ⟨3, C2, hr.mono (by decide)⟩
          | draw => exact ⟨5, C3, hr.mono (by decide)⟩
          | back => exact ⟨7, C4, hr⟩
          | two => exact ⟨5, C5, hr.mono (by decide)⟩
          | parted => exact ⟨7, C6, hr⟩)
        (pe_ix ix_tup (pe_glob (v := .ref ac) rfl g_CALLS rfl) (pv 2) (fun _ _ => rfl)) (pa_cons (pv 0) (pa_cons (pv 1) pa_nil)))))), ?_⟩
    obtain ⟨dx0, p0, hr0, _⟩ := id W0.rd
    obtain ⟨vsl, hsl⟩ := id W0.slL
    obtain ⟨j, l1, fj, Rj, rfl, hk, hr2⟩ := rcall_kind (K := K) (CR := CR) (CS := CS) (f0 := f0) (f1 := f1) (f2 := f2) (f3 := f3) (f4 := f4) (f5 := f5) (f6 := f6) hR
    have hj : ([V.ref f0, V.ref f1, V.ref f2, V.ref f3, V.ref f4, V.ref f5, V.ref f6])[j]? = some (.ref fj) := by
      cases hk <;> rfl
    refine ⟨_, rfl, e.r, dx0, _, rfl, hr0, rdF_no _ _ (by decide +kernel) (by decide +kernel), e.r, _, _, _, _, rfl, W0.rdAt, fun H1 R1 f1' => ?_⟩
    have W1 := W0.reads R1 f1'
    have none1 : ∀ c, H1 c = none → H c = none := fun c z => by
      obtain ⟨dx9, fs9, h9⟩ := R1.ins
      exact fr_none h9 f1' c z
    refine ⟨_, rfl, ac, _, _, _, rfl, rfl, sq H1, atI_nat hj, fj, _, rfl, ⟨j, Rj, hk, rfl⟩, _, rfl, _, rfl, e, sl, l1, S, l', S', out, rfl, W1, hr2, hbig, fun H' p sl' W' F' o' or' np hp => ?_⟩
    refine q H' p sl' W' ((frW_r f1').trans F') o' ?_ (none1 p np) hp
    rcases or' with z | z
    · exact .inl z
    · exact .inr (none1 _ z)
end
end Ps

namespace Ps
open PySem PySem.Spec PyProof.Rows L2
section
variable {P : Program} {w : World} {K : PySem.W.Frag} {mg : Str → Option Value} {base : Heap}
theorem chain {f_read_bar f_read_bars f_bar_numbers f_bars_numbers f_keys_as_told f_bar_as_told f_bars_as_told f_bar_rests f_whole_rest f_kept_bar f_drawn_out f_part_rests f_rest_end f_bar_piece f_rest_pieces f_cue_staff f_read_piece f_read_pieces f_goes_over_break f_piece_as_told f_part_as_told f_put_back f_staff_put_back f_read_lined_bar f_read_lined_bars f_lined_bar_numbers f_items_chord f_bars_chord f_mode_of f_chords f_lines_of f_label_of f_put_on_one f_labels_in_force f_may_be_chords f_lined_bar_as_told f_lined_bars_as_told f_parted_line f_parted_bar f_parted_bars f_with_lists f_begins_as_told f_answer_begins f_staff_as_told f_answer_staff f_answer_staves f_answer_draw f_answer_back f_answer_two f_answer_parted f_answer_call f_answers : Addr}
    {d_read_bar d_read_bars d_bar_numbers d_bars_numbers d_keys_as_told d_bar_as_told d_bars_as_told d_bar_rests d_whole_rest d_kept_bar d_drawn_out d_part_rests d_rest_end d_bar_piece d_rest_pieces d_cue_staff d_read_piece d_read_pieces d_goes_over_break d_piece_as_told d_part_as_told d_put_back d_staff_put_back d_read_lined_bar d_read_lined_bars d_lined_bar_numbers d_items_chord d_bars_chord d_mode_of d_chords d_lines_of d_label_of d_put_on_one d_labels_in_force d_may_be_chords d_lined_bar_as_told d_lined_bars_as_told d_parted_line d_parted_bar d_parted_bars d_with_lists d_begins_as_told d_answer_begins d_staff_as_told d_answer_staff d_answer_staves d_answer_draw d_answer_back d_answer_two d_answer_parted d_answer_call d_answers : FuncData}
    (D_read_bar : Dn K mg "read_bar" s_read_bar ["reader"] f_read_bar d_read_bar)
    (D_read_bars : Dn K mg "read_bars" s_read_bars ["reader"] f_read_bars d_read_bars)
    (D_bar_numbers : Dn K mg "bar_numbers" s_bar_numbers ["bar"] f_bar_numbers d_bar_numbers)
    (D_bars_numbers : Dn K mg "bars_numbers" s_bars_numbers ["bars"] f_bars_numbers d_bars_numbers)
    (D_keys_as_told : Dn K mg "keys_as_told" s_keys_as_told ["keys"] f_keys_as_told d_keys_as_told)
    (D_bar_as_told : Dn K mg "bar_as_told" s_bar_as_told ["bar", "bar_length"] f_bar_as_told d_bar_as_told)
    (D_bars_as_told : Dn K mg "bars_as_told" s_bars_as_told ["bars", "bar_length"] f_bars_as_told d_bars_as_told)
    (D_bar_rests : Dn K mg "bar_rests" s_bar_rests ["bar"] f_bar_rests d_bar_rests)
    (D_whole_rest : Dn K mg "whole_rest" s_whole_rest ["bar_length"] f_whole_rest d_whole_rest)
    (D_kept_bar : Dn K mg "kept_bar" s_kept_bar ["bar", "bar_length"] f_kept_bar d_kept_bar)
    (D_drawn_out : Dn K mg "drawn_out" s_drawn_out ["score", "part", "least"] f_drawn_out d_drawn_out)
    (D_part_rests : Dn K mg "part_rests" s_part_rests ["score", "part", "place"] f_part_rests d_part_rests)
    (D_rest_end : Dn K mg "rest_end" s_rest_end ["score", "part", "start"] f_rest_end d_rest_end)
    (D_bar_piece : Dn K mg "bar_piece" s_bar_piece ["score", "part", "place"] f_bar_piece d_bar_piece)
    (D_rest_pieces : Dn K mg "rest_pieces" s_rest_pieces ["score", "part", "start", "end", "least"] f_rest_pieces d_rest_pieces)
    (D_cue_staff : Dn K mg "cue_staff" s_cue_staff ["score", "part", "place"] f_cue_staff d_cue_staff)
    (D_read_piece : Dn K mg "read_piece" s_read_piece ["reader"] f_read_piece d_read_piece)
    (D_read_pieces : Dn K mg "read_pieces" s_read_pieces ["reader"] f_read_pieces d_read_pieces)
    (D_goes_over_break : Dn K mg "goes_over_break" s_goes_over_break ["score", "start", "end"] f_goes_over_break d_goes_over_break)
    (D_piece_as_told : Dn K mg "piece_as_told" s_piece_as_told ["score", "staff_count", "piece", "place"] f_piece_as_told d_piece_as_told)
    (D_part_as_told : Dn K mg "part_as_told" s_part_as_told ["score", "staff_count", "pieces"] f_part_as_told d_part_as_told)
    (D_put_back : Dn K mg "put_back" s_put_back ["score", "staff_count", "pieces"] f_put_back d_put_back)
    (D_staff_put_back : Dn K mg "staff_put_back" s_staff_put_back ["score", "pieces", "number"] f_staff_put_back d_staff_put_back)
    (D_read_lined_bar : Dn K mg "read_lined_bar" s_read_lined_bar ["reader"] f_read_lined_bar d_read_lined_bar)
    (D_read_lined_bars : Dn K mg "read_lined_bars" s_read_lined_bars ["reader"] f_read_lined_bars d_read_lined_bars)
    (D_lined_bar_numbers : Dn K mg "lined_bar_numbers" s_lined_bar_numbers ["lined"] f_lined_bar_numbers d_lined_bar_numbers)
    (D_items_chord : Dn K mg "items_chord" s_items_chord ["first", "second"] f_items_chord d_items_chord)
    (D_bars_chord : Dn K mg "bars_chord" s_bars_chord ["first", "second"] f_bars_chord d_bars_chord)
    (D_mode_of : Dn K mg "mode_of" s_mode_of ["first", "second"] f_mode_of d_mode_of)
    (D_chords : Dn K mg "chords" s_chords ["first", "second"] f_chords d_chords)
    (D_lines_of : Dn K mg "lines_of" s_lines_of ["mode", "first", "second"] f_lines_of d_lines_of)
    (D_label_of : Dn K mg "label_of" s_label_of ["mode", "in_force"] f_label_of d_label_of)
    (D_put_on_one : Dn K mg "put_on_one" s_put_on_one ["first", "second"] f_put_on_one d_put_on_one)
    (D_labels_in_force : Dn K mg "labels_in_force" s_labels_in_force ["lined_bars"] f_labels_in_force d_labels_in_force)
    (D_may_be_chords : Dn K mg "may_be_chords" s_may_be_chords ["line"] f_may_be_chords d_may_be_chords)
    (D_lined_bar_as_told : Dn K mg "lined_bar_as_told" s_lined_bar_as_told ["lined", "in_force", "bar_length"] f_lined_bar_as_told d_lined_bar_as_told)
    (D_lined_bars_as_told : Dn K mg "lined_bars_as_told" s_lined_bars_as_told ["lined_bars", "lengths"] f_lined_bars_as_told d_lined_bars_as_told)
    (D_parted_line : Dn K mg "parted_line" s_parted_line ["line", "in_force", "bar_length"] f_parted_line d_parted_line)
    (D_parted_bar : Dn K mg "parted_bar" s_parted_bar ["lined", "in_force", "bar_length"] f_parted_bar d_parted_bar)
    (D_parted_bars : Dn K mg "parted_bars" s_parted_bars ["lined_bars", "lengths"] f_parted_bars d_parted_bars)
    (D_with_lists : Dn K mg "with_lists" s_with_lists ["number", "rows"] f_with_lists d_with_lists)
    (D_begins_as_told : Dn K mg "begins_as_told" s_begins_as_told ["lengths", "breaks"] f_begins_as_told d_begins_as_told)
    (D_answer_begins : Dn K mg "answer_begins" s_answer_begins ["score", "reader"] f_answer_begins d_answer_begins)
    (D_staff_as_told : Dn K mg "staff_as_told" s_staff_as_told ["bars", "lengths"] f_staff_as_told d_staff_as_told)
    (D_answer_staff : Dn K mg "answer_staff" s_answer_staff ["score", "reader"] f_answer_staff d_answer_staff)
    (D_answer_staves : Dn K mg "answer_staves" s_answer_staves ["score", "reader"] f_answer_staves d_answer_staves)
    (D_answer_draw : Dn K mg "answer_draw" s_answer_draw ["score", "reader"] f_answer_draw d_answer_draw)
    (D_answer_back : Dn K mg "answer_back" s_answer_back ["score", "reader"] f_answer_back d_answer_back)
    (D_answer_two : Dn K mg "answer_two" s_answer_two ["score", "reader"] f_answer_two d_answer_two)
    (D_answer_parted : Dn K mg "answer_parted" s_answer_parted ["score", "reader"] f_answer_parted d_answer_parted)
    (D_answer_call : Dn K mg "answer_call" s_answer_call ["score", "reader"] f_answer_call d_answer_call)
    (F_answers : Fun K "answers" "answers" s_answers f_answers d_answers)
    {CP : Addr} (clP : Cls K CP) (nPk : NoAttr K CP "kind") (nPc : NoAttr K CP "bar_count") (nPb : NoAttr K CP "bars") (gP : mg "Piece" = some (.ref CP))
    {fpi : Addr} {dpi : FuncData} (FPi : Fun K "__init__" "Piece.__init__" s_Piece_init fpi dpi) (MP : Mk K CP fpi) (bPi : Binds K dpi ["self", "kind", "bar_count", "bars"] [])
    {CL : Addr} (clL : Cls K CL) (nLl : NoAttr K CL "label") (nLi : NoAttr K CL "lines") (gL : mg "LinedBar" = some (.ref CL))
    {fli : Addr} {dli : FuncData} (FLi : Fun K "__init__" "LinedBar.__init__" s_LinedBar_init fli dli) (ML : Mk K CL fli) (bLi : Binds K dli ["self", "label", "lines"] [])
    {CR : Addr} (clR : Cls K CR) (nN : NoAttr K CR "numbers") (nP : NoAttr K CR "place") (gR : mg "Reader" = some (.ref CR))
    {fi fe ft fr : Addr} {di de dt dr : FuncData}
    (FRi : Fun K "__init__" "Reader.__init__" s_Reader_init fi di) (MR : Mk K CR fi) (bRi : Binds K di ["self", "numbers"] [])
    (FRe : Fun K "at_end" "Reader.at_end" s_Reader_at_end fe de) (hRe : Meth K CR "at_end" fe) (bRe : Binds K de ["self"] [])
    (FRt : Fun K "take" "Reader.take" s_Reader_take ft dt) (hRt : Meth K CR "take" ft) (bRt : Binds K dt ["self"] [])
    (FRr : Fun K "take_row" "Reader.take_row" s_Reader_take_row fr dr) (hRr : Meth K CR "take_row" fr) (bRr : Binds K dr ["self"] [])
    {CS : Addr} (clS : Cls K CS) (nL : NoAttr K CS "lengths") (nB : NoAttr K CS "breaks") (nS : NoAttr K CS "staves") (gS : mg "Score" = some (.ref CS))
    {si sb sa sh : Addr} {xi xb xa xh : FuncData}
    (FSi : Fun K "__init__" "Score.__init__" s_Score_init si xi) (MS : Mk K CS si) (bSi : Binds K xi ["self"] [])
    (FSb : Fun K "begin" "Score.begin" s_Score_begin sb xb) (hSb : Meth K CS "begin" sb) (bSb : Binds K xb ["self", "lengths", "breaks"] [])
    (FSa : Fun K "add_staff" "Score.add_staff" s_Score_add_staff sa xa) (hSa : Meth K CS "add_staff" sa) (bSa : Binds K xa ["self", "bars"] [])
    (FSh : Fun K "has_staff" "Score.has_staff" s_Score_has_staff sh xh) (hSh : Meth K CS "has_staff" sh) (bSh : Binds K xh ["self", "number"] [])
    (g_MOST_ITEMS : ∃ t, mg "MOST_ITEMS" = some (.int 20 t))
    (g_MOST_KEYS : ∃ t, mg "MOST_KEYS" = some (.int 6 t))
    (g_HIGHEST_KEY : ∃ t, mg "HIGHEST_KEY" = some (.int 127 t))
    (g_REST : ∃ t, mg "REST" = some (.int 0 t))
    (g_BAR : ∃ t, mg "BAR" = some (.int 1 t))
    (g_CUED_BAR : ∃ t, mg "CUED_BAR" = some (.int 2 t))
    (g_NEITHER : ∃ t, mg "NEITHER" = some (.int 0 t))
    (g_FIRST : ∃ t, mg "FIRST" = some (.int 1 t))
    (g_SECOND : ∃ t, mg "SECOND" = some (.int 2 t))
    (g_SAME : ∃ t, mg "SAME" = some (.int 3 t))
    (g_CHORDS : ∃ t, mg "CHORDS" = some (.int 4 t))
    (g_APART : ∃ t, mg "APART" = some (.int 5 t))
    (g_NO_LABEL : ∃ t, mg "NO_LABEL" = some (.int 0 t))
    (g_MOST_LINES : ∃ t, mg "MOST_LINES" = some (.int 2 t))
    (g_MOST_BARS : ∃ t, mg "MOST_BARS" = some (.int 40 t))
    (g_LONGEST_BAR : ∃ t, mg "LONGEST_BAR" = some (.int 64 t))
    (g_MOST_BREAKS : ∃ t, mg "MOST_BREAKS" = some (.int 40 t))
    (g_MOST_STAVES : ∃ t, mg "MOST_STAVES" = some (.int 8 t))
    {ac : Addr} {od : Option Addr} {nn : Nat} {sl : Array (Option Value)} (g_CALLS : mg "CALLS" = some (.ref ac)) (w_CALLS : K.lookup ac = some ⟨.type "tuple", od, .seq #[.ref f_answer_begins, .ref f_answer_staff, .ref f_answer_staves, .ref f_answer_draw, .ref f_answer_back, .ref f_answer_two, .ref f_answer_parted] nn, sl⟩)
    (n_all : mg "all" = none) (n_enumerate : mg "enumerate" = none) (n_len : mg "len" = none) (n_range : mg "range" = none) (n_set : mg "set" = none) (n_zip : mg "zip" = none) :
    FnOk P w K mg base CX0 9 f_answers d_answers ["calls"] (sp_answers K) := by
  have TK : TxtK mg := ⟨g_MOST_ITEMS, g_MOST_KEYS, g_HIGHEST_KEY, n_len⟩
  have TR : TxtR K mg CR := ⟨clR, nN, nP, n_len⟩
  have TS : TxtS K mg CS := ⟨clS, nL, nB, nS, n_len⟩
  have TC : TxtC mg := ⟨g_MOST_BARS, g_LONGEST_BAR, g_MOST_BREAKS, g_MOST_STAVES, n_len, n_all, n_zip⟩
  have TP : TxtP K mg CS := ⟨g_REST, g_BAR, g_CUED_BAR, n_len, n_enumerate, clS, nL, nB, nS⟩
  have TPc : TxtPc K mg CP := ⟨clP, nPk, nPc, nPb, g_REST, g_BAR⟩
  have TLb : TxtLb K CL := ⟨clL, nLl, nLi⟩
  have TM : TxtM mg := ⟨g_NEITHER, g_FIRST, g_SECOND, g_SAME, g_CHORDS, g_APART, g_NO_LABEL, g_MOST_LINES⟩
  have Mtake : Mth P w K mg base CR "take" 1 ["self"] (sp_rd_take K CR) := ⟨_, _, ok_rd_take FRt TR, hRt, bRt⟩
  have R : RdC P w K mg base CR := ⟨clR, Mtake, ⟨_, _, ok_rd_row FRr TR Mtake, hRr, bRr⟩, ⟨_, _, ok_rd_end FRe TR, hRe, bRe⟩, ⟨_, _, MR, ok_rd_init FRi TR, bRi⟩, gR⟩
  have Z : ScC P w K mg base CS := ⟨clS, nL, nB, nS, ⟨_, _, ok_sc_begin FSb TS, hSb, bSb⟩, ⟨_, _, ok_sc_add FSa TS, hSa, bSa⟩, ⟨_, _, ok_sc_has FSh TS, hSh, bSh⟩, ⟨_, _, MS, ok_sc_init FSi TS, bSi⟩, gS⟩
  have Pc : PcC P w K mg base CP := ⟨TPc, ⟨_, _, MP, ok_pc_init FPi TPc, bPi⟩, gP⟩
  have Lb : LbC P w K mg base CL := ⟨TLb, ⟨_, _, ML, ok_lb_init FLi TLb, bLi⟩, gL⟩
  have c_bar_rests := ok_bar_rests (P := P) (w := w) (base := base) D_bar_rests
  have c_keys := ok_keys_as_told (P := P) (w := w) (base := base) TK D_keys_as_told
  have c_bar_as := ok_bar_as_told TK D_bar_as_told c_keys
  have c_bars_as := ok_bars_as_told n_all D_bars_as_told c_bar_as
  have c_whole := ok_whole_rest (P := P) (w := w) (base := base) D_whole_rest
  have c_kept := ok_kept_bar D_kept_bar c_bar_rests c_whole
  have c_bn := ok_bar_numbers (P := P) (w := w) (base := base) TK D_bar_numbers
  have c_bsn := ok_bars_numbers D_bars_numbers c_bn
  have c_rb := ok_read_bar n_range D_read_bar R
  have c_rbs := ok_read_bars n_range D_read_bars R c_rb
  have c_sat := ok_staff_as_told TC D_staff_as_told c_bar_as
  have c_wl := ok_with_lists (P := P) (w := w) (base := base) TC D_with_lists
  have c_bat := ok_begins_as_told (P := P) (w := w) (base := base) TC D_begins_as_told
  have c_ab := ok_answer_begins n_len D_answer_begins R Z c_bat
  have c_as := ok_answer_staff TC D_answer_staff R Z c_rbs c_sat c_kept
  have c_asv := ok_answer_staves D_answer_staves R Z c_bsn c_wl
  have c_pr := ok_part_rests D_part_rests clS nS c_bar_rests
  have c_re := ok_rest_end n_len D_rest_end clS nL nB c_pr
  have c_bp := ok_bar_piece TP D_bar_piece c_bsn
  have c_cs := ok_cue_staff TP D_cue_staff c_bar_rests
  have c_rp := ok_rest_pieces TP D_rest_pieces c_cs c_bn
  have c_do := ok_drawn_out TP D_drawn_out c_re c_bp c_rp
  have c_ad := ok_answer_draw n_len n_set D_answer_draw R Z c_do c_wl
  have c_rpc := ok_read_piece D_read_piece R Pc c_rb c_rbs
  have c_rps := ok_read_pieces n_range D_read_pieces R c_rpc
  have c_gob := ok_goes_over_break (P := P) (w := w) (base := base) D_goes_over_break clS nB
  have c_pat := ok_piece_as_told n_len n_all D_piece_as_told clS nL TPc c_bars_as c_gob c_bar_rests
  have c_part := ok_part_as_told n_len D_part_as_told clS nL TPc c_pat
  have c_spb := ok_staff_put_back n_len n_range D_staff_put_back clS nL TPc c_kept c_whole
  have c_pb := ok_put_back n_range D_put_back c_spb
  have c_abk := ok_answer_back g_MOST_STAVES D_answer_back R Z c_rps c_part c_pb c_wl c_bsn
  have c_rlb := ok_read_lined_bar D_read_lined_bar R Lb c_rbs
  have c_rlbs := ok_read_lined_bars n_range D_read_lined_bars R c_rlb
  have c_lbn := ok_lined_bar_numbers n_len D_lined_bar_numbers TLb c_bsn
  have c_ic := ok_items_chord (P := P) (w := w) (base := base) n_len D_items_chord
  have c_bc := ok_bars_chord n_len n_all n_zip D_bars_chord c_ic
  have c_mode := ok_mode_of TM D_mode_of c_bar_rests c_bc
  have c_ch := ok_chords (P := P) (w := w) (base := base) n_zip D_chords
  have c_lo := ok_lines_of TM D_lines_of c_ch
  have c_la := ok_label_of (P := P) (w := w) (base := base) TM D_label_of
  have c_poo := ok_put_on_one TM n_zip D_put_on_one Lb c_mode c_la c_lo
  have c_atwo := ok_answer_two n_len D_answer_two R Z c_poo c_wl c_lbn
  have c_lif := ok_labels_in_force (P := P) (w := w) (base := base) TM D_labels_in_force TLb
  have c_mbc := ok_may_be_chords (P := P) (w := w) (base := base) n_len n_all D_may_be_chords
  have c_lbat := ok_lined_bar_as_told TM n_len D_lined_bar_as_told TLb c_bars_as c_mbc
  have c_lbsat := ok_lined_bars_as_told n_len n_all n_zip D_lined_bars_as_told c_lif c_lbat
  have c_pl := ok_parted_line TM D_parted_line c_whole
  have c_pbar := ok_parted_bar n_len D_parted_bar TLb c_whole c_pl
  have c_pbars := ok_parted_bars n_zip D_parted_bars c_lif c_pbar
  have c_ap := ok_answer_parted n_len D_answer_parted R Z c_rlbs c_lbsat c_pbars c_wl c_bsn
  have c_call := ok_answer_call D_answer_call R g_CALLS w_CALLS (c_ab.hel D_answer_begins.gf) (c_as.hel D_answer_staff.gf) (c_asv.hel D_answer_staves.gf) (c_ad.hel D_answer_draw.gf) (c_abk.hel D_answer_back.gf) (c_atwo.hel D_answer_two.gf) (c_ap.hel D_answer_parted.gf)
  exact ok_answers n_len F_answers R Z (by decide) c_call
end
end Ps

namespace Ps
open PySem PySem.Spec PyProof.Rows L2
set_option maxHeartbeats 40000000 in
theorem all_mk {P : Program} {w : World} {K : PySem.W.Frag} {h : Heap} {mg : Str → Option Value} {fa : Addr} {f0 : Addr} {od0 an0 : Option Addr} {sl0 : Array (Option Value)} {oc0 kV0 dc0 pm0 cd0 ct0 : Value} {f1 : Addr} {od1 an1 : Option Addr} {sl1 : Array (Option Value)} {oc1 kV1 dc1 pm1 cd1 ct1 : Value} {f2 : Addr} {od2 an2 : Option Addr} {sl2 : Array (Option Value)} {oc2 kV2 dc2 pm2 cd2 ct2 : Value} {f3 : Addr} {od3 an3 : Option Addr} {sl3 : Array (Option Value)} {oc3 kV3 dc3 pm3 cd3 ct3 : Value} {f4 : Addr} {od4 an4 : Option Addr} {sl4 : Array (Option Value)} {oc4 kV4 dc4 pm4 cd4 ct4 : Value} {f5 : Addr} {od5 an5 : Option Addr} {sl5 : Array (Option Value)} {oc5 kV5 dc5 pm5 cd5 ct5 : Value} {f6 : Addr} {od6 an6 : Option Addr} {sl6 : Array (Option Value)} {oc6 kV6 dc6 pm6 cd6 ct6 : Value} {f7 : Addr} {od7 an7 : Option Addr} {sl7 : Array (Option Value)} {oc7 kV7 dc7 pm7 cd7 ct7 : Value} {f8 : Addr} {od8 an8 : Option Addr} {sl8 : Array (Option Value)} {oc8 kV8 dc8 pm8 cd8 ct8 : Value} {f9 : Addr} {od9 an9 : Option Addr} {sl9 : Array (Option Value)} {oc9 kV9 dc9 pm9 cd9 ct9 : Value} {f10 : Addr} {od10 an10 : Option Addr} {sl10 : Array (Option Value)} {oc10 kV10 dc10 pm10 cd10 ct10 : Value} {f11 : Addr} {od11 an11 : Option Addr} {sl11 : Array (Option Value)} {oc11 kV11 dc11 pm11 cd11 ct11 : Value} {f12 : Addr} {od12 an12 : Option Addr} {sl12 : Array (Option Value)} {oc12 kV12 dc12 pm12 cd12 ct12 : Value} {f13 : Addr} {od13 an13 : Option Addr} {sl13 : Array (Option Value)} {oc13 kV13 dc13 pm13 cd13 ct13 : Value} {f14 : Addr} {od14 an14 : Option Addr} {sl14 : Array (Option Value)} {oc14 kV14 dc14 pm14 cd14 ct14 : Value} {f15 : Addr} {od15 an15 : Option Addr} {sl15 : Array (Option Value)} {oc15 kV15 dc15 pm15 cd15 ct15 : Value} {f16 : Addr} {od16 an16 : Option Addr} {sl16 : Array (Option Value)} {oc16 kV16 dc16 pm16 cd16 ct16 : Value} {f17 : Addr} {od17 an17 : Option Addr} {sl17 : Array (Option Value)} {oc17 kV17 dc17 pm17 cd17 ct17 : Value} {f18 : Addr} {od18 an18 : Option Addr} {sl18 : Array (Option Value)} {oc18 kV18 dc18 pm18 cd18 ct18 : Value} {f19 : Addr} {od19 an19 : Option Addr} {sl19 : Array (Option Value)} {oc19 kV19 dc19 pm19 cd19 ct19 : Value} {f20 : Addr} {od20 an20 : Option Addr} {sl20 : Array (Option Value)} {oc20 kV20 dc20 pm20 cd20 ct20 : Value} {f21 : Addr} {od21 an21 : Option Addr} {sl21 : Array (Option Value)} {oc21 kV21 dc21 pm21 cd21 ct21 : Value} {f22 : Addr} {od22 an22 : Option Addr} {sl22 : Array (Option Value)} {oc22 kV22 dc22 pm22 cd22 ct22 : Value} {f23 : Addr} {od23 an23 : Option Addr} {sl23 : Array (Option Value)} {oc23 kV23 dc23 pm23 cd23 ct23 : Value} {f24 : Addr} {od24 an24 : Option Addr} {sl24 : Array (Option Value)} {oc24 kV24 dc24 pm24 cd24 ct24 : Value} {f25 : Addr} {od25 an25 : Option Addr} {sl25 : Array (Option Value)} {oc25 kV25 dc25 pm25 cd25 ct25 : Value} {f26 : Addr} {od26 an26 : Option Addr} {sl26 : Array (Option Value)} {oc26 kV26 dc26 pm26 cd26 ct26 : Value} {f27 : Addr} {od27 an27 : Option Addr} {sl27 : Array (Option Value)} {oc27 kV27 dc27 pm27 cd27 ct27 : Value} {f28 : Addr} {od28 an28 : Option Addr} {sl28 : Array (Option Value)} {oc28 kV28 dc28 pm28 cd28 ct28 : Value} {f29 : Addr} {od29 an29 : Option Addr} {sl29 : Array (Option Value)} {oc29 kV29 dc29 pm29 cd29 ct29 : Value} {f30 : Addr} {od30 an30 : Option Addr} {sl30 : Array (Option Value)} {oc30 kV30 dc30 pm30 cd30 ct30 : Value} {f31 : Addr} {od31 an31 : Option Addr} {sl31 : Array (Option Value)} {oc31 kV31 dc31 pm31 cd31 ct31 : Value} {f32 : Addr} {od32 an32 : Option Addr} {sl32 : Array (Option Value)} {oc32 kV32 dc32 pm32 cd32 ct32 : Value} {f33 : Addr} {od33 an33 : Option Addr} {sl33 : Array (Option Value)} {oc33 kV33 dc33 pm33 cd33 ct33 : Value} {f34 : Addr} {od34 an34 : Option Addr} {sl34 : Array (Option Value)} {oc34 kV34 dc34 pm34 cd34 ct34 : Value} {f35 : Addr} {od35 an35 : Option Addr} {sl35 : Array (Option Value)} {oc35 kV35 dc35 pm35 cd35 ct35 : Value} {f36 : Addr} {od36 an36 : Option Addr} {sl36 : Array (Option Value)} {oc36 kV36 dc36 pm36 cd36 ct36 : Value} {f37 : Addr} {od37 an37 : Option Addr} {sl37 : Array (Option Value)} {oc37 kV37 dc37 pm37 cd37 ct37 : Value} {f38 : Addr} {od38 an38 : Option Addr} {sl38 : Array (Option Value)} {oc38 kV38 dc38 pm38 cd38 ct38 : Value} {f39 : Addr} {od39 an39 : Option Addr} {sl39 : Array (Option Value)} {oc39 kV39 dc39 pm39 cd39 ct39 : Value} {f40 : Addr} {od40 an40 : Option Addr} {sl40 : Array (Option Value)} {oc40 kV40 dc40 pm40 cd40 ct40 : Value} {f41 : Addr} {od41 an41 : Option Addr} {sl41 : Array (Option Value)} {oc41 kV41 dc41 pm41 cd41 ct41 : Value} {f42 : Addr} {od42 an42 : Option Addr} {sl42 : Array (Option Value)} {oc42 kV42 dc42 pm42 cd42 ct42 : Value} {f43 : Addr} {od43 an43 : Option Addr} {sl43 : Array (Option Value)} {oc43 kV43 dc43 pm43 cd43 ct43 : Value} {f44 : Addr} {od44 an44 : Option Addr} {sl44 : Array (Option Value)} {oc44 kV44 dc44 pm44 cd44 ct44 : Value} {f45 : Addr} {od45 an45 : Option Addr} {sl45 : Array (Option Value)} {oc45 kV45 dc45 pm45 cd45 ct45 : Value} {f46 : Addr} {od46 an46 : Option Addr} {sl46 : Array (Option Value)} {oc46 kV46 dc46 pm46 cd46 ct46 : Value} {f47 : Addr} {od47 an47 : Option Addr} {sl47 : Array (Option Value)} {oc47 kV47 dc47 pm47 cd47 ct47 : Value} {f48 : Addr} {od48 an48 : Option Addr} {sl48 : Array (Option Value)} {oc48 kV48 dc48 pm48 cd48 ct48 : Value} {f49 : Addr} {od49 an49 : Option Addr} {sl49 : Array (Option Value)} {oc49 kV49 dc49 pm49 cd49 ct49 : Value} {f50 : Addr} {od50 an50 : Option Addr} {sl50 : Array (Option Value)} {oc50 kV50 dc50 pm50 cd50 ct50 : Value} {f51 : Addr} {od51 an51 : Option Addr} {sl51 : Array (Option Value)} {oc51 kV51 dc51 pm51 cd51 ct51 : Value} {f52 : Addr} {od52 an52 : Option Addr} {sl52 : Array (Option Value)} {oc52 kV52 dc52 pm52 cd52 ct52 : Value} {f53 : Addr} {od53 an53 : Option Addr} {sl53 : Array (Option Value)} {oc53 kV53 dc53 pm53 cd53 ct53 : Value} {f54 : Addr} {od54 an54 : Option Addr} {sl54 : Array (Option Value)} {oc54 kV54 dc54 pm54 cd54 ct54 : Value} {f55 : Addr} {od55 an55 : Option Addr} {sl55 : Array (Option Value)} {oc55 kV55 dc55 pm55 cd55 ct55 : Value} {f56 : Addr} {od56 an56 : Option Addr} {sl56 : Array (Option Value)} {oc56 kV56 dc56 pm56 cd56 ct56 : Value} {f57 : Addr} {od57 an57 : Option Addr} {sl57 : Array (Option Value)} {oc57 kV57 dc57 pm57 cd57 ct57 : Value} {f58 : Addr} {od58 an58 : Option Addr} {sl58 : Array (Option Value)} {oc58 kV58 dc58 pm58 cd58 ct58 : Value} {f59 : Addr} {od59 an59 : Option Addr} {sl59 : Array (Option Value)} {oc59 kV59 dc59 pm59 cd59 ct59 : Value} {f60 : Addr} {od60 an60 : Option Addr} {sl60 : Array (Option Value)} {oc60 kV60 dc60 pm60 cd60 ct60 : Value} {f61 : Addr} {od61 an61 : Option Addr} {sl61 : Array (Option Value)} {oc61 kV61 dc61 pm61 cd61 ct61 : Value} {CPiece : Addr} {CLinedBar : Addr} {CReader : Addr} {CScore : Addr} {t_MOST_ITEMS : Tok} {t_MOST_KEYS : Tok} {t_HIGHEST_KEY : Tok} {t_REST : Tok} {t_BAR : Tok} {t_CUED_BAR : Tok} {t_NEITHER : Tok} {t_FIRST : Tok} {t_SECOND : Tok} {t_SAME : Tok} {t_CHORDS : Tok} {t_APART : Tok} {t_NO_LABEL : Tok} {t_MOST_LINES : Tok} {t_MOST_BARS : Tok} {t_LONGEST_BAR : Tok} {t_MOST_BREAKS : Tok} {t_MOST_STAVES : Tok} {a_CALLS : Addr} {od_CALLS : Option Addr} {n_CALLS : Nat} {sl_CALLS : Array (Option Value)} (X : K.In h) (G : h.Ns mainGlobals mg) (hfa : mg "answers" = some (.ref fa))
    (gPiece : PySem.W.nsIn K mainGlobals "Piece" = some (some (.ref CPiece)))
    (gLinedBar : PySem.W.nsIn K mainGlobals "LinedBar" = some (some (.ref CLinedBar)))
    (gReader : PySem.W.nsIn K mainGlobals "Reader" = some (some (.ref CReader)))
    (gScore : PySem.W.nsIn K mainGlobals "Score" = some (some (.ref CScore)))
    (a0 : PySem.W.nsIn K mainGlobals "read_bar" = some (some (.ref f0)))
    (l0 : K.lookup f0 = some ⟨oc0, od0, .func (PySem.W.fnOf "read_bar" "read_bar" (defArgs s_read_bar) (defBody s_read_bar) (defScope s_read_bar) .none kV0 dc0 pm0 an0 cd0 ct0), sl0⟩)
    (c0 : PySem.W.codeIn K cd0 "read_bar" = true)
    (k0 : PySem.W.keepIn K (.ref f0) = true)
    (a1 : PySem.W.nsIn K mainGlobals "read_bars" = some (some (.ref f1)))
    (l1 : K.lookup f1 = some ⟨oc1, od1, .func (PySem.W.fnOf "read_bars" "read_bars" (defArgs s_read_bars) (defBody s_read_bars) (defScope s_read_bars) .none kV1 dc1 pm1 an1 cd1 ct1), sl1⟩)
    (c1 : PySem.W.codeIn K cd1 "read_bars" = true)
    (k1 : PySem.W.keepIn K (.ref f1) = true)
    (a2 : PySem.W.nsIn K mainGlobals "bar_numbers" = some (some (.ref f2)))
    (l2 : K.lookup f2 = some ⟨oc2, od2, .func (PySem.W.fnOf "bar_numbers" "bar_numbers" (defArgs s_bar_numbers) (defBody s_bar_numbers) (defScope s_bar_numbers) .none kV2 dc2 pm2 an2 cd2 ct2), sl2⟩)
    (c2 : PySem.W.codeIn K cd2 "bar_numbers" = true)
    (k2 : PySem.W.keepIn K (.ref f2) = true)
    (a3 : PySem.W.nsIn K mainGlobals "bars_numbers" = some (some (.ref f3)))
    (l3 : K.lookup f3 = some ⟨oc3, od3, .func (PySem.W.fnOf "bars_numbers" "bars_numbers" (defArgs s_bars_numbers) (defBody s_bars_numbers) (defScope s_bars_numbers) .none kV3 dc3 pm3 an3 cd3 ct3), sl3⟩)
    (c3 : PySem.W.codeIn K cd3 "bars_numbers" = true)
    (k3 : PySem.W.keepIn K (.ref f3) = true)
    (a4 : PySem.W.nsIn K mainGlobals "keys_as_told" = some (some (.ref f4)))
    (l4 : K.lookup f4 = some ⟨oc4, od4, .func (PySem.W.fnOf "keys_as_told" "keys_as_told" (defArgs s_keys_as_told) (defBody s_keys_as_told) (defScope s_keys_as_told) .none kV4 dc4 pm4 an4 cd4 ct4), sl4⟩)
    (c4 : PySem.W.codeIn K cd4 "keys_as_told" = true)
    (k4 : PySem.W.keepIn K (.ref f4) = true)
    (a5 : PySem.W.nsIn K mainGlobals "bar_as_told" = some (some (.ref f5)))
    (l5 : K.lookup f5 = some ⟨oc5, od5, .func (PySem.W.fnOf "bar_as_told" "bar_as_told" (defArgs s_bar_as_told) (defBody s_bar_as_told) (defScope s_bar_as_told) .none kV5 dc5 pm5 an5 cd5 ct5), sl5⟩)
    (c5 : PySem.W.codeIn K cd5 "bar_as_told" = true)
    (k5 : PySem.W.keepIn K (.ref f5) = true)
    (a6 : PySem.W.nsIn K mainGlobals "bars_as_told" = some (some (.ref f6)))
    (l6 : K.lookup f6 = some ⟨oc6, od6, .func (PySem.W.fnOf "bars_as_told" "bars_as_told" (defArgs s_bars_as_told) (defBody s_bars_as_told) (defScope s_bars_as_told) .none kV6 dc6 pm6 an6 cd6 ct6), sl6⟩)
    (c6 : PySem.W.codeIn K cd6 "bars_as_told" = true)
    (k6 : PySem.W.keepIn K (.ref f6) = true)
    (a7 : PySem.W.nsIn K mainGlobals "bar_rests" = some (some (.ref f7)))
    (l7 : K.lookup f7 = some ⟨oc7, od7, .func (PySem.W.fnOf "bar_rests" "bar_rests" (defArgs s_bar_rests) (defBody s_bar_rests) (defScope s_bar_rests) .none kV7 dc7 pm7 an7 cd7 ct7), sl7⟩)
    (c7 : PySem.W.codeIn K cd7 "bar_rests" = true)
    (k7 : PySem.W.keepIn K (.ref f7) = true)
    (a8 : PySem.W.nsIn K mainGlobals "whole_rest" = some (some (.ref f8)))
    (l8 : K.lookup f8 = some ⟨oc8, od8, .func (PySem.W.fnOf "whole_rest" "whole_rest" (defArgs s_whole_rest) (defBody s_whole_rest) (defScope s_whole_rest) .none kV8 dc8 pm8 an8 cd8 ct8), sl8⟩)
    (c8 : PySem.W.codeIn K cd8 "whole_rest" = true)
    (k8 : PySem.W.keepIn K (.ref f8) = true)
    (a9 : PySem.W.nsIn K mainGlobals "kept_bar" = some (some (.ref f9)))
    (l9 : K.lookup f9 = some ⟨oc9, od9, .func (PySem.W.fnOf "kept_bar" "kept_bar" (defArgs s_kept_bar) (defBody s_kept_bar) (defScope s_kept_bar) .none kV9 dc9 pm9 an9 cd9 ct9), sl9⟩)
    (c9 : PySem.W.codeIn K cd9 "kept_bar" = true)
    (k9 : PySem.W.keepIn K (.ref f9) = true)
    (a10 : PySem.W.nsIn K mainGlobals "drawn_out" = some (some (.ref f10)))
    (l10 : K.lookup f10 = some ⟨oc10, od10, .func (PySem.W.fnOf "drawn_out" "drawn_out" (defArgs s_drawn_out) (defBody s_drawn_out) (defScope s_drawn_out) .none kV10 dc10 pm10 an10 cd10 ct10), sl10⟩)
    (c10 : PySem.W.codeIn K cd10 "drawn_out" = true)
    (k10 : PySem.W.keepIn K (.ref f10) = true)
    (a11 : PySem.W.nsIn K mainGlobals "part_rests" = some (some (.ref f11)))
    (l11 : K.lookup f11 = some ⟨oc11, od11, .func (PySem.W.fnOf "part_rests" "part_rests" (defArgs s_part_rests) (defBody s_part_rests) (defScope s_part_rests) .none kV11 dc11 pm11 an11 cd11 ct11), sl11⟩)
    (c11 : PySem.W.codeIn K cd11 "part_rests" = true)
    (k11 : PySem.W.keepIn K (.ref f11) = true)
    (a12 : PySem.W.nsIn K mainGlobals "rest_end" = some (some (.ref f12)))
    (l12 : K.lookup f12 = some ⟨oc12, od12, .func (PySem.W.fnOf "rest_end" "rest_end" (defArgs s_rest_end) (defBody s_rest_end) (defScope s_rest_end) .none kV12 dc12 pm12 an12 cd12 ct12), sl12⟩)
    (c12 : PySem.W.codeIn K cd12 "rest_end" = true)
    (k12 : PySem.W.keepIn K (.ref f12) = true)
    (a13 : PySem.W.nsIn K mainGlobals "bar_piece" = some (some (.ref f13)))
    (l13 : K.lookup f13 = some ⟨oc13, od13, .func (PySem.W.fnOf "bar_piece" "bar_piece" (defArgs s_bar_piece) (defBody s_bar_piece) (defScope s_bar_piece) .none kV13 dc13 pm13 an13 cd13 ct13), sl13⟩)
    (c13 : PySem.W.codeIn K cd13 "bar_piece" = true)
    (k13 : PySem.W.keepIn K (.ref f13) = true)
    (a14 : PySem.W.nsIn K mainGlobals "rest_pieces" = some (some (.ref f14)))
    (l14 : K.lookup f14 = some ⟨oc14, od14, .func (PySem.W.fnOf "rest_pieces" "rest_pieces" (defArgs s_rest_pieces) (defBody s_rest_pieces) (defScope s_rest_pieces) .none kV14 dc14 pm14 an14 cd14 ct14), sl14⟩)
    (c14 : PySem.W.codeIn K cd14 "rest_pieces" = true)
    (k14 : PySem.W.keepIn K (.ref f14) = true)
    (a15 : PySem.W.nsIn K mainGlobals "cue_staff" = some (some (.ref f15)))
    (l15 : K.lookup f15 = some ⟨oc15, od15, .func (PySem.W.fnOf "cue_staff" "cue_staff" (defArgs s_cue_staff) (defBody s_cue_staff) (defScope s_cue_staff) .none kV15 dc15 pm15 an15 cd15 ct15), sl15⟩)
    (c15 : PySem.W.codeIn K cd15 "cue_staff" = true)
    (k15 : PySem.W.keepIn K (.ref f15) = true)
    (a16 : PySem.W.nsIn K mainGlobals "read_piece" = some (some (.ref f16)))
    (l16 : K.lookup f16 = some ⟨oc16, od16, .func (PySem.W.fnOf "read_piece" "read_piece" (defArgs s_read_piece) (defBody s_read_piece) (defScope s_read_piece) .none kV16 dc16 pm16 an16 cd16 ct16), sl16⟩)
    (c16 : PySem.W.codeIn K cd16 "read_piece" = true)
    (k16 : PySem.W.keepIn K (.ref f16) = true)
    (a17 : PySem.W.nsIn K mainGlobals "read_pieces" = some (some (.ref f17)))
    (l17 : K.lookup f17 = some ⟨oc17, od17, .func (PySem.W.fnOf "read_pieces" "read_pieces" (defArgs s_read_pieces) (defBody s_read_pieces) (defScope s_read_pieces) .none kV17 dc17 pm17 an17 cd17 ct17), sl17⟩)
    (c17 : PySem.W.codeIn K cd17 "read_pieces" = true)
    (k17 : PySem.W.keepIn K (.ref f17) = true)
    (a18 : PySem.W.nsIn K mainGlobals "goes_over_break" = some (some (.ref f18)))
    (l18 : K.lookup f18 = some ⟨oc18, od18, .func (PySem.W.fnOf "goes_over_break" "goes_over_break" (defArgs s_goes_over_break) (defBody s_goes_over_break) (defScope s_goes_over_break) .none kV18 dc18 pm18 an18 cd18 ct18), sl18⟩)
    (c18 : PySem.W.codeIn K cd18 "goes_over_break" = true)
    (k18 : PySem.W.keepIn K (.ref f18) = true)
    (a19 : PySem.W.nsIn K mainGlobals "piece_as_told" = some (some (.ref f19)))
    (l19 : K.lookup f19 = some ⟨oc19, od19, .func (PySem.W.fnOf "piece_as_told" "piece_as_told" (defArgs s_piece_as_told) (defBody s_piece_as_told) (defScope s_piece_as_told) .none kV19 dc19 pm19 an19 cd19 ct19), sl19⟩)
    (c19 : PySem.W.codeIn K cd19 "piece_as_told" = true)
    (k19 : PySem.W.keepIn K (.ref f19) = true)
    (a20 : PySem.W.nsIn K mainGlobals "part_as_told" = some (some (.ref f20)))
    (l20 : K.lookup f20 = some ⟨oc20, od20, .func (PySem.W.fnOf "part_as_told" "part_as_told" (defArgs s_part_as_told) (defBody s_part_as_told) (defScope s_part_as_told) .none kV20 dc20 pm20 an20 cd20 ct20), sl20⟩)
    (c20 : PySem.W.codeIn K cd20 "part_as_told" = true)
    (k20 : PySem.W.keepIn K (.ref f20) = true)
    (a21 : PySem.W.nsIn K mainGlobals "put_back" = some (some (.ref f21)))
    (l21 : K.lookup f21 = some ⟨oc21, od21, .func (PySem.W.fnOf "put_back" "put_back" (defArgs s_put_back) (defBody s_put_back) (defScope s_put_back) .none kV21 dc21 pm21 an21 cd21 ct21), sl21⟩)
    (c21 : PySem.W.codeIn K cd21 "put_back" = true)
    (k21 : PySem.W.keepIn K (.ref f21) = true)
    (a22 : PySem.W.nsIn K mainGlobals "staff_put_back" = some (some (.ref f22)))
    (l22 : K.lookup f22 = some ⟨oc22, od22, .func (PySem.W.fnOf "staff_put_back" "staff_put_back" (defArgs s_staff_put_back) (defBody s_staff_put_back) (defScope s_staff_put_back) .none kV22 dc22 pm22 an22 cd22 ct22), sl22⟩)
    (c22 : PySem.W.codeIn K cd22 "staff_put_back" = true)
    (k22 : PySem.W.keepIn K (.ref f22) = true)
    (a23 : PySem.W.nsIn K mainGlobals "read_lined_bar" = some (some (.ref f23)))
    (l23 : K.lookup f23 = some ⟨oc23, od23, .func (PySem.W.fnOf "read_lined_bar" "read_lined_bar" (defArgs s_read_lined_bar) (defBody s_read_lined_bar) (defScope s_read_lined_bar) .none kV23 dc23 pm23 an23 cd23 ct23), sl23⟩)
    (c23 : PySem.W.codeIn K cd23 "read_lined_bar" = true)
    (k23 : PySem.W.keepIn K (.ref f23) = true)
    (a24 : PySem.W.nsIn K mainGlobals "read_lined_bars" = some (some (.ref f24)))
    (l24 : K.lookup f24 = some ⟨oc24, od24, .func (PySem.W.fnOf "read_lined_bars" "read_lined_bars" (defArgs s_read_lined_bars) (defBody s_read_lined_bars) (defScope s_read_lined_bars) .none kV24 dc24 pm24 an24 cd24 ct24), sl24⟩)
    (c24 : PySem.W.codeIn K cd24 "read_lined_bars" = true)
    (k24 : PySem.W.keepIn K (.ref f24) = true)
    (a25 : PySem.W.nsIn K mainGlobals "lined_bar_numbers" = some (some (.ref f25)))
    (l25 : K.lookup f25 = some ⟨oc25, od25, .func (PySem.W.fnOf "lined_bar_numbers" "lined_bar_numbers" (defArgs s_lined_bar_numbers) (defBody s_lined_bar_numbers) (defScope s_lined_bar_numbers) .none kV25 dc25 pm25 an25 cd25 ct25), sl25⟩)
    (c25 : PySem.W.codeIn K cd25 "lined_bar_numbers" = true)
    (k25 : PySem.W.keepIn K (.ref f25) = true)
    (a26 : PySem.W.nsIn K mainGlobals "items_chord" = some (some (.ref f26)))
    (l26 : K.lookup f26 = some ⟨oc26, od26, .func (PySem.W.fnOf "items_chord" "items_chord" (defArgs s_items_chord) (defBody s_items_chord) (defScope s_items_chord) .none kV26 dc26 pm26 an26 cd26 ct26), sl26⟩)
    (c26 : PySem.W.codeIn K cd26 "items_chord" = true)
    (k26 : PySem.W.keepIn K (.ref f26) = true)
    (a27 : PySem.W.nsIn K mainGlobals "bars_chord" = some (some (.ref f27)))
    (l27 : K.lookup f27 = some ⟨oc27, od27, .func (PySem.W.fnOf "bars_chord" "bars_chord" (defArgs s_bars_chord) (defBody s_bars_chord) (defScope s_bars_chord) .none kV27 dc27 pm27 an27 cd27 ct27), sl27⟩)
    (c27 : PySem.W.codeIn K cd27 "bars_chord" = true)
    (k27 : PySem.W.keepIn K (.ref f27) = true)
    (a28 : PySem.W.nsIn K mainGlobals "mode_of" = some (some (.ref f28)))
    (l28 : K.lookup f28 = some ⟨oc28, od28, .func (PySem.W.fnOf "mode_of" "mode_of" (defArgs s_mode_of) (defBody s_mode_of) (defScope s_mode_of) .none kV28 dc28 pm28 an28 cd28 ct28), sl28⟩)
    (c28 : PySem.W.codeIn K cd28 "mode_of" = true)
    (k28 : PySem.W.keepIn K (.ref f28) = true)
    (a29 : PySem.W.nsIn K mainGlobals "chords" = some (some (.ref f29)))
    (l29 : K.lookup f29 = some ⟨oc29, od29, .func (PySem.W.fnOf "chords" "chords" (defArgs s_chords) (defBody s_chords) (defScope s_chords) .none kV29 dc29 pm29 an29 cd29 ct29), sl29⟩)
    (c29 : PySem.W.codeIn K cd29 "chords" = true)
    (k29 : PySem.W.keepIn K (.ref f29) = true)
    (a30 : PySem.W.nsIn K mainGlobals "lines_of" = some (some (.ref f30)))
    (l30 : K.lookup f30 = some ⟨oc30, od30, .func (PySem.W.fnOf "lines_of" "lines_of" (defArgs s_lines_of) (defBody s_lines_of) (defScope s_lines_of) .none kV30 dc30 pm30 an30 cd30 ct30), sl30⟩)
    (c30 : PySem.W.codeIn K cd30 "lines_of" = true)
    (k30 : PySem.W.keepIn K (.ref f30) = true)
    (a31 : PySem.W.nsIn K mainGlobals "label_of" = some (some (.ref f31)))
    (l31 : K.lookup f31 = some ⟨oc31, od31, .func (PySem.W.fnOf "label_of" "label_of" (defArgs s_label_of) (defBody s_label_of) (defScope s_label_of) .none kV31 dc31 pm31 an31 cd31 ct31), sl31⟩)
    (c31 : PySem.W.codeIn K cd31 "label_of" = true)
    (k31 : PySem.W.keepIn K (.ref f31) = true)
    (a32 : PySem.W.nsIn K mainGlobals "put_on_one" = some (some (.ref f32)))
    (l32 : K.lookup f32 = some ⟨oc32, od32, .func (PySem.W.fnOf "put_on_one" "put_on_one" (defArgs s_put_on_one) (defBody s_put_on_one) (defScope s_put_on_one) .none kV32 dc32 pm32 an32 cd32 ct32), sl32⟩)
    (c32 : PySem.W.codeIn K cd32 "put_on_one" = true)
    (k32 : PySem.W.keepIn K (.ref f32) = true)
    (a33 : PySem.W.nsIn K mainGlobals "labels_in_force" = some (some (.ref f33)))
    (l33 : K.lookup f33 = some ⟨oc33, od33, .func (PySem.W.fnOf "labels_in_force" "labels_in_force" (defArgs s_labels_in_force) (defBody s_labels_in_force) (defScope s_labels_in_force) .none kV33 dc33 pm33 an33 cd33 ct33), sl33⟩)
    (c33 : PySem.W.codeIn K cd33 "labels_in_force" = true)
    (k33 : PySem.W.keepIn K (.ref f33) = true)
    (a34 : PySem.W.nsIn K mainGlobals "may_be_chords" = some (some (.ref f34)))
    (l34 : K.lookup f34 = some ⟨oc34, od34, .func (PySem.W.fnOf "may_be_chords" "may_be_chords" (defArgs s_may_be_chords) (defBody s_may_be_chords) (defScope s_may_be_chords) .none kV34 dc34 pm34 an34 cd34 ct34), sl34⟩)
    (c34 : PySem.W.codeIn K cd34 "may_be_chords" = true)
    (k34 : PySem.W.keepIn K (.ref f34) = true)
    (a35 : PySem.W.nsIn K mainGlobals "lined_bar_as_told" = some (some (.ref f35)))
    (l35 : K.lookup f35 = some ⟨oc35, od35, .func (PySem.W.fnOf "lined_bar_as_told" "lined_bar_as_told" (defArgs s_lined_bar_as_told) (defBody s_lined_bar_as_told) (defScope s_lined_bar_as_told) .none kV35 dc35 pm35 an35 cd35 ct35), sl35⟩)
    (c35 : PySem.W.codeIn K cd35 "lined_bar_as_told" = true)
    (k35 : PySem.W.keepIn K (.ref f35) = true)
    (a36 : PySem.W.nsIn K mainGlobals "lined_bars_as_told" = some (some (.ref f36)))
    (l36 : K.lookup f36 = some ⟨oc36, od36, .func (PySem.W.fnOf "lined_bars_as_told" "lined_bars_as_told" (defArgs s_lined_bars_as_told) (defBody s_lined_bars_as_told) (defScope s_lined_bars_as_told) .none kV36 dc36 pm36 an36 cd36 ct36), sl36⟩)
    (c36 : PySem.W.codeIn K cd36 "lined_bars_as_told" = true)
    (k36 : PySem.W.keepIn K (.ref f36) = true)
    (a37 : PySem.W.nsIn K mainGlobals "parted_line" = some (some (.ref f37)))
    (l37 : K.lookup f37 = some ⟨oc37, od37, .func (PySem.W.fnOf "parted_line" "parted_line" (defArgs s_parted_line) (defBody s_parted_line) (defScope s_parted_line) .none kV37 dc37 pm37 an37 cd37 ct37), sl37⟩)
    (c37 : PySem.W.codeIn K cd37 "parted_line" = true)
    (k37 : PySem.W.keepIn K (.ref f37) = true)
    (a38 : PySem.W.nsIn K mainGlobals "parted_bar" = some (some (.ref f38)))
    (l38 : K.lookup f38 = some ⟨oc38, od38, .func (PySem.W.fnOf "parted_bar" "parted_bar" (defArgs s_parted_bar) (defBody s_parted_bar) (defScope s_parted_bar) .none kV38 dc38 pm38 an38 cd38 ct38), sl38⟩)
    (c38 : PySem.W.codeIn K cd38 "parted_bar" = true)
    (k38 : PySem.W.keepIn K (.ref f38) = true)
    (a39 : PySem.W.nsIn K mainGlobals "parted_bars" = some (some (.ref f39)))
    (l39 : K.lookup f39 = some ⟨oc39, od39, .func (PySem.W.fnOf "parted_bars" "parted_bars" (defArgs s_parted_bars) (defBody s_parted_bars) (defScope s_parted_bars) .none kV39 dc39 pm39 an39 cd39 ct39), sl39⟩)
    (c39 : PySem.W.codeIn K cd39 "parted_bars" = true)
    (k39 : PySem.W.keepIn K (.ref f39) = true)
    (a40 : PySem.W.nsIn K mainGlobals "with_lists" = some (some (.ref f40)))
    (l40 : K.lookup f40 = some ⟨oc40, od40, .func (PySem.W.fnOf "with_lists" "with_lists" (defArgs s_with_lists) (defBody s_with_lists) (defScope s_with_lists) .none kV40 dc40 pm40 an40 cd40 ct40), sl40⟩)
    (c40 : PySem.W.codeIn K cd40 "with_lists" = true)
    (k40 : PySem.W.keepIn K (.ref f40) = true)
    (a41 : PySem.W.nsIn K mainGlobals "begins_as_told" = some (some (.ref f41)))
    (l41 : K.lookup f41 = some ⟨oc41, od41, .func (PySem.W.fnOf "begins_as_told" "begins_as_told" (defArgs s_begins_as_told) (defBody s_begins_as_told) (defScope s_begins_as_told) .none kV41 dc41 pm41 an41 cd41 ct41), sl41⟩)
    (c41 : PySem.W.codeIn K cd41 "begins_as_told" = true)
    (k41 : PySem.W.keepIn K (.ref f41) = true)
    (a42 : PySem.W.nsIn K mainGlobals "answer_begins" = some (some (.ref f42)))
    (l42 : K.lookup f42 = some ⟨oc42, od42, .func (PySem.W.fnOf "answer_begins" "answer_begins" (defArgs s_answer_begins) (defBody s_answer_begins) (defScope s_answer_begins) .none kV42 dc42 pm42 an42 cd42 ct42), sl42⟩)
    (c42 : PySem.W.codeIn K cd42 "answer_begins" = true)
    (k42 : PySem.W.keepIn K (.ref f42) = true)
    (a43 : PySem.W.nsIn K mainGlobals "staff_as_told" = some (some (.ref f43)))
    (l43 : K.lookup f43 = some ⟨oc43, od43, .func (PySem.W.fnOf "staff_as_told" "staff_as_told" (defArgs s_staff_as_told) (defBody s_staff_as_told) (defScope s_staff_as_told) .none kV43 dc43 pm43 an43 cd43 ct43), sl43⟩)
    (c43 : PySem.W.codeIn K cd43 "staff_as_told" = true)
    (k43 : PySem.W.keepIn K (.ref f43) = true)
    (a44 : PySem.W.nsIn K mainGlobals "answer_staff" = some (some (.ref f44)))
    (l44 : K.lookup f44 = some ⟨oc44, od44, .func (PySem.W.fnOf "answer_staff" "answer_staff" (defArgs s_answer_staff) (defBody s_answer_staff) (defScope s_answer_staff) .none kV44 dc44 pm44 an44 cd44 ct44), sl44⟩)
    (c44 : PySem.W.codeIn K cd44 "answer_staff" = true)
    (k44 : PySem.W.keepIn K (.ref f44) = true)
    (a45 : PySem.W.nsIn K mainGlobals "answer_staves" = some (some (.ref f45)))
    (l45 : K.lookup f45 = some ⟨oc45, od45, .func (PySem.W.fnOf "answer_staves" "answer_staves" (defArgs s_answer_staves) (defBody s_answer_staves) (defScope s_answer_staves) .none kV45 dc45 pm45 an45 cd45 ct45), sl45⟩)
    (c45 : PySem.W.codeIn K cd45 "answer_staves" = true)
    (k45 : PySem.W.keepIn K (.ref f45) = true)
    (a46 : PySem.W.nsIn K mainGlobals "answer_draw" = some (some (.ref f46)))
    (l46 : K.lookup f46 = some ⟨oc46, od46, .func (PySem.W.fnOf "answer_draw" "answer_draw" (defArgs s_answer_draw) (defBody s_answer_draw) (defScope s_answer_draw) .none kV46 dc46 pm46 an46 cd46 ct46), sl46⟩)
    (c46 : PySem.W.codeIn K cd46 "answer_draw" = true)
    (k46 : PySem.W.keepIn K (.ref f46) = true)
    (a47 : PySem.W.nsIn K mainGlobals "answer_back" = some (some (.ref f47)))
    (l47 : K.lookup f47 = some ⟨oc47, od47, .func (PySem.W.fnOf "answer_back" "answer_back" (defArgs s_answer_back) (defBody s_answer_back) (defScope s_answer_back) .none kV47 dc47 pm47 an47 cd47 ct47), sl47⟩)
    (c47 : PySem.W.codeIn K cd47 "answer_back" = true)
    (k47 : PySem.W.keepIn K (.ref f47) = true)
    (a48 : PySem.W.nsIn K mainGlobals "answer_two" = some (some (.ref f48)))
    (l48 : K.lookup f48 = some ⟨oc48, od48, .func (PySem.W.fnOf "answer_two" "answer_two" (defArgs s_answer_two) (defBody s_answer_two) (defScope s_answer_two) .none kV48 dc48 pm48 an48 cd48 ct48), sl48⟩)
    (c48 : PySem.W.codeIn K cd48 "answer_two" = true)
    (k48 : PySem.W.keepIn K (.ref f48) = true)
    (a49 : PySem.W.nsIn K mainGlobals "answer_parted" = some (some (.ref f49)))
    (l49 : K.lookup f49 = some ⟨oc49, od49, .func (PySem.W.fnOf "answer_parted" "answer_parted" (defArgs s_answer_parted) (defBody s_answer_parted) (defScope s_answer_parted) .none kV49 dc49 pm49 an49 cd49 ct49), sl49⟩)
    (c49 : PySem.W.codeIn K cd49 "answer_parted" = true)
    (k49 : PySem.W.keepIn K (.ref f49) = true)
    (a50 : PySem.W.nsIn K mainGlobals "answer_call" = some (some (.ref f50)))
    (l50 : K.lookup f50 = some ⟨oc50, od50, .func (PySem.W.fnOf "answer_call" "answer_call" (defArgs s_answer_call) (defBody s_answer_call) (defScope s_answer_call) .none kV50 dc50 pm50 an50 cd50 ct50), sl50⟩)
    (c50 : PySem.W.codeIn K cd50 "answer_call" = true)
    (k50 : PySem.W.keepIn K (.ref f50) = true)
    (a51 : PySem.W.nsIn K mainGlobals "answers" = some (some (.ref f51)))
    (l51 : K.lookup f51 = some ⟨oc51, od51, .func (PySem.W.fnOf "answers" "answers" (defArgs s_answers) (defBody s_answers) (defScope s_answers) .none kV51 dc51 pm51 an51 cd51 ct51), sl51⟩)
    (c51 : PySem.W.codeIn K cd51 "answers" = true)
    (k51 : PySem.W.keepIn K (.ref f51) = true)
    (a52 : PySem.W.findIn K (.ref CPiece) "__init__" = some (some (.ref f52)))
    (i52 : PySem.W.isFn K (.ref f52) = true)
    (l52 : K.lookup f52 = some ⟨oc52, od52, .func (PySem.W.fnOf "__init__" "Piece.__init__" (defArgs s_Piece_init) (defBody s_Piece_init) (defScope s_Piece_init) .none kV52 dc52 pm52 an52 cd52 ct52), sl52⟩)
    (c52 : PySem.W.codeIn K cd52 "Piece.__init__" = true)
    (k52 : PySem.W.keepIn K (.ref f52) = true)
    (a53 : PySem.W.findIn K (.ref CLinedBar) "__init__" = some (some (.ref f53)))
    (i53 : PySem.W.isFn K (.ref f53) = true)
    (l53 : K.lookup f53 = some ⟨oc53, od53, .func (PySem.W.fnOf "__init__" "LinedBar.__init__" (defArgs s_LinedBar_init) (defBody s_LinedBar_init) (defScope s_LinedBar_init) .none kV53 dc53 pm53 an53 cd53 ct53), sl53⟩)
    (c53 : PySem.W.codeIn K cd53 "LinedBar.__init__" = true)
    (k53 : PySem.W.keepIn K (.ref f53) = true)
    (a54 : PySem.W.findIn K (.ref CReader) "__init__" = some (some (.ref f54)))
    (i54 : PySem.W.isFn K (.ref f54) = true)
    (l54 : K.lookup f54 = some ⟨oc54, od54, .func (PySem.W.fnOf "__init__" "Reader.__init__" (defArgs s_Reader_init) (defBody s_Reader_init) (defScope s_Reader_init) .none kV54 dc54 pm54 an54 cd54 ct54), sl54⟩)
    (c54 : PySem.W.codeIn K cd54 "Reader.__init__" = true)
    (k54 : PySem.W.keepIn K (.ref f54) = true)
    (a55 : PySem.W.findIn K (.ref CReader) "at_end" = some (some (.ref f55)))
    (i55 : PySem.W.isFn K (.ref f55) = true)
    (l55 : K.lookup f55 = some ⟨oc55, od55, .func (PySem.W.fnOf "at_end" "Reader.at_end" (defArgs s_Reader_at_end) (defBody s_Reader_at_end) (defScope s_Reader_at_end) .none kV55 dc55 pm55 an55 cd55 ct55), sl55⟩)
    (c55 : PySem.W.codeIn K cd55 "Reader.at_end" = true)
    (k55 : PySem.W.keepIn K (.ref f55) = true)
    (a56 : PySem.W.findIn K (.ref CReader) "take" = some (some (.ref f56)))
    (i56 : PySem.W.isFn K (.ref f56) = true)
    (l56 : K.lookup f56 = some ⟨oc56, od56, .func (PySem.W.fnOf "take" "Reader.take" (defArgs s_Reader_take) (defBody s_Reader_take) (defScope s_Reader_take) .none kV56 dc56 pm56 an56 cd56 ct56), sl56⟩)
    (c56 : PySem.W.codeIn K cd56 "Reader.take" = true)
    (k56 : PySem.W.keepIn K (.ref f56) = true)
    (a57 : PySem.W.findIn K (.ref CReader) "take_row" = some (some (.ref f57)))
    (i57 : PySem.W.isFn K (.ref f57) = true)
    (l57 : K.lookup f57 = some ⟨oc57, od57, .func (PySem.W.fnOf "take_row" "Reader.take_row" (defArgs s_Reader_take_row) (defBody s_Reader_take_row) (defScope s_Reader_take_row) .none kV57 dc57 pm57 an57 cd57 ct57), sl57⟩)
    (c57 : PySem.W.codeIn K cd57 "Reader.take_row" = true)
    (k57 : PySem.W.keepIn K (.ref f57) = true)
    (a58 : PySem.W.findIn K (.ref CScore) "__init__" = some (some (.ref f58)))
    (i58 : PySem.W.isFn K (.ref f58) = true)
    (l58 : K.lookup f58 = some ⟨oc58, od58, .func (PySem.W.fnOf "__init__" "Score.__init__" (defArgs s_Score_init) (defBody s_Score_init) (defScope s_Score_init) .none kV58 dc58 pm58 an58 cd58 ct58), sl58⟩)
    (c58 : PySem.W.codeIn K cd58 "Score.__init__" = true)
    (k58 : PySem.W.keepIn K (.ref f58) = true)
    (a59 : PySem.W.findIn K (.ref CScore) "begin" = some (some (.ref f59)))
    (i59 : PySem.W.isFn K (.ref f59) = true)
    (l59 : K.lookup f59 = some ⟨oc59, od59, .func (PySem.W.fnOf "begin" "Score.begin" (defArgs s_Score_begin) (defBody s_Score_begin) (defScope s_Score_begin) .none kV59 dc59 pm59 an59 cd59 ct59), sl59⟩)
    (c59 : PySem.W.codeIn K cd59 "Score.begin" = true)
    (k59 : PySem.W.keepIn K (.ref f59) = true)
    (a60 : PySem.W.findIn K (.ref CScore) "add_staff" = some (some (.ref f60)))
    (i60 : PySem.W.isFn K (.ref f60) = true)
    (l60 : K.lookup f60 = some ⟨oc60, od60, .func (PySem.W.fnOf "add_staff" "Score.add_staff" (defArgs s_Score_add_staff) (defBody s_Score_add_staff) (defScope s_Score_add_staff) .none kV60 dc60 pm60 an60 cd60 ct60), sl60⟩)
    (c60 : PySem.W.codeIn K cd60 "Score.add_staff" = true)
    (k60 : PySem.W.keepIn K (.ref f60) = true)
    (a61 : PySem.W.findIn K (.ref CScore) "has_staff" = some (some (.ref f61)))
    (i61 : PySem.W.isFn K (.ref f61) = true)
    (l61 : K.lookup f61 = some ⟨oc61, od61, .func (PySem.W.fnOf "has_staff" "Score.has_staff" (defArgs s_Score_has_staff) (defBody s_Score_has_staff) (defScope s_Score_has_staff) .none kV61 dc61 pm61 an61 cd61 ct61), sl61⟩)
    (c61 : PySem.W.codeIn K cd61 "Score.has_staff" = true)
    (k61 : PySem.W.keepIn K (.ref f61) = true)
    (pgPiece : PySem.W.plainGet K CPiece Str.empty = true)
    (hdPiece : PySem.W.hasDictIn K CPiece = true)
    (poPiece : PySem.W.plainOver K CPiece = true)
    (saPiece : PySem.W.findIn K (.ref CPiece) "__setattr__" = some (some (.builtin "object.__setattr__")))
    (mkPiece : PySem.W.makesIn K CPiece = true)
    (kcPiece : PySem.W.keepIn K (.ref CPiece) = true)
    (nPiece_kind : PySem.W.findIn K (.ref CPiece) "kind" = some none)
    (nPiece_bar_count : PySem.W.findIn K (.ref CPiece) "bar_count" = some none)
    (nPiece_bars : PySem.W.findIn K (.ref CPiece) "bars" = some none)
    (pgLinedBar : PySem.W.plainGet K CLinedBar Str.empty = true)
    (hdLinedBar : PySem.W.hasDictIn K CLinedBar = true)
    (poLinedBar : PySem.W.plainOver K CLinedBar = true)
    (saLinedBar : PySem.W.findIn K (.ref CLinedBar) "__setattr__" = some (some (.builtin "object.__setattr__")))
    (mkLinedBar : PySem.W.makesIn K CLinedBar = true)
    (kcLinedBar : PySem.W.keepIn K (.ref CLinedBar) = true)
    (nLinedBar_label : PySem.W.findIn K (.ref CLinedBar) "label" = some none)
    (nLinedBar_lines : PySem.W.findIn K (.ref CLinedBar) "lines" = some none)
    (pgReader : PySem.W.plainGet K CReader Str.empty = true)
    (hdReader : PySem.W.hasDictIn K CReader = true)
    (poReader : PySem.W.plainOver K CReader = true)
    (saReader : PySem.W.findIn K (.ref CReader) "__setattr__" = some (some (.builtin "object.__setattr__")))
    (mkReader : PySem.W.makesIn K CReader = true)
    (kcReader : PySem.W.keepIn K (.ref CReader) = true)
    (nReader_numbers : PySem.W.findIn K (.ref CReader) "numbers" = some none)
    (nReader_place : PySem.W.findIn K (.ref CReader) "place" = some none)
    (pgScore : PySem.W.plainGet K CScore Str.empty = true)
    (hdScore : PySem.W.hasDictIn K CScore = true)
    (poScore : PySem.W.plainOver K CScore = true)
    (saScore : PySem.W.findIn K (.ref CScore) "__setattr__" = some (some (.builtin "object.__setattr__")))
    (mkScore : PySem.W.makesIn K CScore = true)
    (kcScore : PySem.W.keepIn K (.ref CScore) = true)
    (nScore_lengths : PySem.W.findIn K (.ref CScore) "lengths" = some none)
    (nScore_breaks : PySem.W.findIn K (.ref CScore) "breaks" = some none)
    (nScore_staves : PySem.W.findIn K (.ref CScore) "staves" = some none)
    (v_MOST_ITEMS : PySem.W.nsIn K mainGlobals "MOST_ITEMS" = some (some (.int 20 t_MOST_ITEMS)))
    (v_MOST_KEYS : PySem.W.nsIn K mainGlobals "MOST_KEYS" = some (some (.int 6 t_MOST_KEYS)))
    (v_HIGHEST_KEY : PySem.W.nsIn K mainGlobals "HIGHEST_KEY" = some (some (.int 127 t_HIGHEST_KEY)))
    (v_REST : PySem.W.nsIn K mainGlobals "REST" = some (some (.int 0 t_REST)))
    (v_BAR : PySem.W.nsIn K mainGlobals "BAR" = some (some (.int 1 t_BAR)))
    (v_CUED_BAR : PySem.W.nsIn K mainGlobals "CUED_BAR" = some (some (.int 2 t_CUED_BAR)))
    (v_NEITHER : PySem.W.nsIn K mainGlobals "NEITHER" = some (some (.int 0 t_NEITHER)))
    (v_FIRST : PySem.W.nsIn K mainGlobals "FIRST" = some (some (.int 1 t_FIRST)))
    (v_SECOND : PySem.W.nsIn K mainGlobals "SECOND" = some (some (.int 2 t_SECOND)))
    (v_SAME : PySem.W.nsIn K mainGlobals "SAME" = some (some (.int 3 t_SAME)))
    (v_CHORDS : PySem.W.nsIn K mainGlobals "CHORDS" = some (some (.int 4 t_CHORDS)))
    (v_APART : PySem.W.nsIn K mainGlobals "APART" = some (some (.int 5 t_APART)))
    (v_NO_LABEL : PySem.W.nsIn K mainGlobals "NO_LABEL" = some (some (.int 0 t_NO_LABEL)))
    (v_MOST_LINES : PySem.W.nsIn K mainGlobals "MOST_LINES" = some (some (.int 2 t_MOST_LINES)))
    (v_MOST_BARS : PySem.W.nsIn K mainGlobals "MOST_BARS" = some (some (.int 40 t_MOST_BARS)))
    (v_LONGEST_BAR : PySem.W.nsIn K mainGlobals "LONGEST_BAR" = some (some (.int 64 t_LONGEST_BAR)))
    (v_MOST_BREAKS : PySem.W.nsIn K mainGlobals "MOST_BREAKS" = some (some (.int 40 t_MOST_BREAKS)))
    (v_MOST_STAVES : PySem.W.nsIn K mainGlobals "MOST_STAVES" = some (some (.int 8 t_MOST_STAVES)))
    (v_CALLS : PySem.W.nsIn K mainGlobals "CALLS" = some (some (.ref a_CALLS)))
    (w_CALLS : K.lookup a_CALLS = some ⟨.type "tuple", od_CALLS, .seq #[.ref f42, .ref f44, .ref f45, .ref f46, .ref f47, .ref f48, .ref f49] n_CALLS, sl_CALLS⟩)
    (z_all : PySem.W.nsIn K mainGlobals "all" = some none)
    (z_enumerate : PySem.W.nsIn K mainGlobals "enumerate" = some none)
    (z_len : PySem.W.nsIn K mainGlobals "len" = some none)
    (z_range : PySem.W.nsIn K mainGlobals "range" = some none)
    (z_set : PySem.W.nsIn K mainGlobals "set" = some none)
    (z_zip : PySem.W.nsIn K mainGlobals "zip" = some none)
    : ∃ fd : FuncData, (∀ (s : Shared) (us : List Value), us.length = (["calls"] : List Str).length → BindsTo s fd ⟨us, []⟩ ((["calls"] : List Str).zip us)) ∧ ∀ base : Heap, K.In base → base.Ns mainGlobals mg → FnOk P w K mg base CX0 9 fa fd ["calls"] (sp_answers K) := by
  have e := hfa.symm.trans (PySem.W.mg_of X G a51)
  cases e
  have F0 := fun_mk (st := s_read_bar) l0 c0 k0
  have b0 := F0.binds (ps := ["reader"]) fun _ _ _ _ _ _ us hl => match us, hl with | [_], _ => rfl
  have F1 := fun_mk (st := s_read_bars) l1 c1 k1
  have b1 := F1.binds (ps := ["reader"]) fun _ _ _ _ _ _ us hl => match us, hl with | [_], _ => rfl
  have F2 := fun_mk (st := s_bar_numbers) l2 c2 k2
  have b2 := F2.binds (ps := ["bar"]) fun _ _ _ _ _ _ us hl => match us, hl with | [_], _ => rfl
  have F3 := fun_mk (st := s_bars_numbers) l3 c3 k3
  have b3 := F3.binds (ps := ["bars"]) fun _ _ _ _ _ _ us hl => match us, hl with | [_], _ => rfl
  have F4 := fun_mk (st := s_keys_as_told) l4 c4 k4
  have b4 := F4.binds (ps := ["keys"]) fun _ _ _ _ _ _ us hl => match us, hl with | [_], _ => rfl
  have F5 := fun_mk (st := s_bar_as_told) l5 c5 k5
  have b5 := F5.binds (ps := ["bar", "bar_length"]) fun _ _ _ _ _ _ us hl => match us, hl with | [_, _], _ => rfl
  have F6 := fun_mk (st := s_bars_as_told) l6 c6 k6
  have b6 := F6.binds (ps := ["bars", "bar_length"]) fun _ _ _ _ _ _ us hl => match us, hl with | [_, _], _ => rfl
  have F7 := fun_mk (st := s_bar_rests) l7 c7 k7
  have b7 := F7.binds (ps := ["bar"]) fun _ _ _ _ _ _ us hl => match us, hl with | [_], _ => rfl
  have F8 := fun_mk (st := s_whole_rest) l8 c8 k8
  have b8 := F8.binds (ps := ["bar_length"]) fun _ _ _ _ _ _ us hl => match us, hl with | [_], _ => rfl
  have F9 := fun_mk (st := s_kept_bar) l9 c9 k9
  have b9 := F9.binds (ps := ["bar", "bar_length"]) fun _ _ _ _ _ _ us hl => match us, hl with | [_, _], _ => rfl
  have F10 := fun_mk (st := s_drawn_out) l10 c10 k10
  have b10 := F10.binds (ps := ["score", "part", "least"]) fun _ _ _ _ _ _ us hl => match us, hl with | [_, _, _], _ => rfl
  have F11 := fun_mk (st := s_part_rests) l11 c11 k11
  have b11 := F11.binds (ps := ["score", "part", "place"]) fun _ _ _ _ _ _ us hl => match us, hl with | [_, _, _], _ => rfl
  have F12 := fun_mk (st := s_rest_end) l12 c12 k12
  have b12 := F12.binds (ps := ["score", "part", "start"]) fun _ _ _ _ _ _ us hl => match us, hl with | [_, _, _], _ => rfl
  have F13 := fun_mk (st := s_bar_piece) l13 c13 k13
  have b13 := F13.binds (ps := ["score", "part", "place"]) fun _ _ _ _ _ _ us hl => match us, hl with | [_, _, _], _ => rfl
  have F14 := fun_mk (st := s_rest_pieces) l14 c14 k14
  have b14 := F14.binds (ps := ["score", "part", "start", "end", "least"]) fun _ _ _ _ _ _ us hl => match us, hl with | [_, _, _, _, _], _ => rfl
  have F15 := fun_mk (st := s_cue_staff) l15 c15 k15
  have b15 := F15.binds (ps := ["score", "part", "place"]) fun _ _ _ _ _ _ us hl => match us, hl with | [_, _, _], _ => rfl
  have F16 := fun_mk (st := s_read_piece) l16 c16 k16
  have b16 := F16.binds (ps := ["reader"]) fun _ _ _ _ _ _ us hl => match us, hl with | [_], _ => rfl
  have F17 := fun_mk (st := s_read_pieces) l17 c17 k17
  have b17 := F17.binds (ps := ["reader"]) fun _ _ _ _ _ _ us hl => match us, hl with | [_], _ => rfl
  have F18 := fun_mk (st := s_goes_over_break) l18 c18 k18
  have b18 := F18.binds (ps := ["score", "start", "end"]) fun _ _ _ _ _ _ us hl => match us, hl with | [_, _, _], _ => rfl
  have F19 := fun_mk (st := s_piece_as_told) l19 c19 k19
  have b19 := F19.binds (ps := ["score", "staff_count", "piece", "place"]) fun _ _ _ _ _ _ us hl => match us, hl with | [_, _, _, _], _ => rfl
  have F20 := fun_mk (st := s_part_as_told) l20 c20 k20
  have b20 := F20.binds (ps := ["score", "staff_count", "pieces"]) fun _ _ _ _ _ _ us hl => match us, hl with | [_, _, _], _ => rfl
  have F21 := fun_mk (st := s_put_back) l21 c21 k21
  have b21 := F21.binds (ps := ["score", "staff_count", "pieces"]) fun _ _ _ _ _ _ us hl => match us, hl with | [_, _, _], _ => rfl
  have F22 := fun_mk (st := s_staff_put_back) l22 c22 k22
  have b22 := F22.binds (ps := ["score", "pieces", "number"]) fun _ _ _ _ _ _ us hl => match us, hl with | [_, _, _], _ => rfl
  have F23 := fun_mk (st := s_read_lined_bar) l23 c23 k23
  have b23 := F23.binds (ps := ["reader"]) fun _ _ _ _ _ _ us hl => match us, hl with | [_], _ => rfl
  have F24 := fun_mk (st := s_read_lined_bars) l24 c24 k24
  have b24 := F24.binds (ps := ["reader"]) fun _ _ _ _ _ _ us hl => match us, hl with | [_], _ => rfl
  have F25 := fun_mk (st := s_lined_bar_numbers) l25 c25 k25
  have b25 := F25.binds (ps := ["lined"]) fun _ _ _ _ _ _ us hl => match us, hl with | [_], _ => rfl
  have F26 := fun_mk (st := s_items_chord) l26 c26 k26
  have b26 := F26.binds (ps := ["first", "second"]) fun _ _ _ _ _ _ us hl => match us, hl with | [_, _], _ => rfl
  have F27 := fun_mk (st := s_bars_chord) l27 c27 k27
  have b27 := F27.binds (ps := ["first", "second"]) fun _ _ _ _ _ _ us hl => match us, hl with | [_, _], _ => rfl
  have F28 := fun_mk (st := s_mode_of) l28 c28 k28
  have b28 := F28.binds (ps := ["first", "second"]) fun _ _ _ _ _ _ us hl => match us, hl with | [_, _], _ => rfl
  have F29 := fun_mk (st := s_chords) l29 c29 k29
  have b29 := F29.binds (ps := ["first", "second"]) fun _ _ _ _ _ _ us hl => match us, hl with | [_, _], _ => rfl
  have F30 := fun_mk (st := s_lines_of) l30 c30 k30
  have b30 := F30.binds (ps := ["mode", "first", "second"]) fun _ _ _ _ _ _ us hl => match us, hl with | [_, _, _], _ => rfl
  have F31 := fun_mk (st := s_label_of) l31 c31 k31
  have b31 := F31.binds (ps := ["mode", "in_force"]) fun _ _ _ _ _ _ us hl => match us, hl with | [_, _], _ => rfl
  have F32 := fun_mk (st := s_put_on_one) l32 c32 k32
  have b32 := F32.binds (ps := ["first", "second"]) fun _ _ _ _ _ _ us hl => match us, hl with | [_, _], _ => rfl
  have F33 := fun_mk (st := s_labels_in_force) l33 c33 k33
  have b33 := F33.binds (ps := ["lined_bars"]) fun _ _ _ _ _ _ us hl => match us, hl with | [_], _ => rfl
  have F34 := fun_mk (st := s_may_be_chords) l34 c34 k34
  have b34 := F34.binds (ps := ["line"]) fun _ _ _ _ _ _ us hl => match us, hl with | [_], _ => rfl
  have F35 := fun_mk (st := s_lined_bar_as_told) l35 c35 k35
  have b35 := F35.binds (ps := ["lined", "in_force", "bar_length"]) fun _ _ _ _ _ _ us hl => match us, hl with | [_, _, _], _ => rfl
  have F36 := fun_mk (st := s_lined_bars_as_told) l36 c36 k36
  have b36 := F36.binds (ps := ["lined_bars", "lengths"]) fun _ _ _ _ _ _ us hl => match us, hl with | [_, _], _ => rfl
  have F37 := fun_mk (st := s_parted_line) l37 c37 k37
  have b37 := F37.binds (ps := ["line", "in_force", "bar_length"]) fun _ _ _ _ _ _ us hl => match us, hl with | [_, _, _], _ => rfl
  have F38 := fun_mk (st := s_parted_bar) l38 c38 k38
  have b38 := F38.binds (ps := ["lined", "in_force", "bar_length"]) fun _ _ _ _ _ _ us hl => match us, hl with | [_, _, _], _ => rfl
  have F39 := fun_mk (st := s_parted_bars) l39 c39 k39
  have b39 := F39.binds (ps := ["lined_bars", "lengths"]) fun _ _ _ _ _ _ us hl => match us, hl with | [_, _], _ => rfl
  have F40 := fun_mk (st := s_with_lists) l40 c40 k40
  have b40 := F40.binds (ps := ["number", "rows"]) fun _ _ _ _ _ _ us hl => match us, hl with | [_, _], _ => rfl
  have F41 := fun_mk (st := s_begins_as_told) l41 c41 k41
  have b41 := F41.binds (ps := ["lengths", "breaks"]) fun _ _ _ _ _ _ us hl => match us, hl with | [_, _], _ => rfl
  have F42 := fun_mk (st := s_answer_begins) l42 c42 k42
  have b42 := F42.binds (ps := ["score", "reader"]) fun _ _ _ _ _ _ us hl => match us, hl with | [_, _], _ => rfl
  have F43 := fun_mk (st := s_staff_as_told) l43 c43 k43
  have b43 := F43.binds (ps := ["bars", "lengths"]) fun _ _ _ _ _ _ us hl => match us, hl with | [_, _], _ => rfl
  have F44 := fun_mk (st := s_answer_staff) l44 c44 k44
  have b44 := F44.binds (ps := ["score", "reader"]) fun _ _ _ _ _ _ us hl => match us, hl with | [_, _], _ => rfl
  have F45 := fun_mk (st := s_answer_staves) l45 c45 k45
  have b45 := F45.binds (ps := ["score", "reader"]) fun _ _ _ _ _ _ us hl => match us, hl with | [_, _], _ => rfl
  have F46 := fun_mk (st := s_answer_draw) l46 c46 k46
  have b46 := F46.binds (ps := ["score", "reader"]) fun _ _ _ _ _ _ us hl => match us, hl with | [_, _], _ => rfl
  have F47 := fun_mk (st := s_answer_back) l47 c47 k47
  have b47 := F47.binds (ps := ["score", "reader"]) fun _ _ _ _ _ _ us hl => match us, hl with | [_, _], _ => rfl
  have F48 := fun_mk (st := s_answer_two) l48 c48 k48
  have b48 := F48.binds (ps := ["score", "reader"]) fun _ _ _ _ _ _ us hl => match us, hl with | [_, _], _ => rfl
  have F49 := fun_mk (st := s_answer_parted) l49 c49 k49
  have b49 := F49.binds (ps := ["score", "reader"]) fun _ _ _ _ _ _ us hl => match us, hl with | [_, _], _ => rfl
  have F50 := fun_mk (st := s_answer_call) l50 c50 k50
  have b50 := F50.binds (ps := ["score", "reader"]) fun _ _ _ _ _ _ us hl => match us, hl with | [_, _], _ => rfl
  have F51 := fun_mk (st := s_answers) l51 c51 k51
  have b51 := F51.binds (ps := ["calls"]) fun _ _ _ _ _ _ us hl => match us, hl with | [_], _ => rfl
  have F52 := fun_mk (st := s_Piece_init) l52 c52 k52
  have b52 := F52.binds (ps := ["self", "kind", "bar_count", "bars"]) fun _ _ _ _ _ _ us hl => match us, hl with | [_, _, _, _], _ => rfl
  have F53 := fun_mk (st := s_LinedBar_init) l53 c53 k53
  have b53 := F53.binds (ps := ["self", "label", "lines"]) fun _ _ _ _ _ _ us hl => match us, hl with | [_, _, _], _ => rfl
  have F54 := fun_mk (st := s_Reader_init) l54 c54 k54
  have b54 := F54.binds (ps := ["self", "numbers"]) fun _ _ _ _ _ _ us hl => match us, hl with | [_, _], _ => rfl
  have F55 := fun_mk (st := s_Reader_at_end) l55 c55 k55
  have b55 := F55.binds (ps := ["self"]) fun _ _ _ _ _ _ us hl => match us, hl with | [_], _ => rfl
  have F56 := fun_mk (st := s_Reader_take) l56 c56 k56
  have b56 := F56.binds (ps := ["self"]) fun _ _ _ _ _ _ us hl => match us, hl with | [_], _ => rfl
  have F57 := fun_mk (st := s_Reader_take_row) l57 c57 k57
  have b57 := F57.binds (ps := ["self"]) fun _ _ _ _ _ _ us hl => match us, hl with | [_], _ => rfl
  have F58 := fun_mk (st := s_Score_init) l58 c58 k58
  have b58 := F58.binds (ps := ["self"]) fun _ _ _ _ _ _ us hl => match us, hl with | [_], _ => rfl
  have F59 := fun_mk (st := s_Score_begin) l59 c59 k59
  have b59 := F59.binds (ps := ["self", "lengths", "breaks"]) fun _ _ _ _ _ _ us hl => match us, hl with | [_, _, _], _ => rfl
  have F60 := fun_mk (st := s_Score_add_staff) l60 c60 k60
  have b60 := F60.binds (ps := ["self", "bars"]) fun _ _ _ _ _ _ us hl => match us, hl with | [_, _], _ => rfl
  have F61 := fun_mk (st := s_Score_has_staff) l61 c61 k61
  have b61 := F61.binds (ps := ["self", "number"]) fun _ _ _ _ _ _ us hl => match us, hl with | [_, _], _ => rfl
  refine ⟨PySem.W.fnOf "answers" "answers" (defArgs s_answers) (defBody s_answers) (defScope s_answers) .none kV51 dc51 pm51 an51 cd51 ct51, fun s us hu => match us, hu with | [_], _ => .of_eq rfl, fun base _ _ => ?_⟩
  exact chain ⟨F0, b0, PySem.W.mg_of X G a0⟩ ⟨F1, b1, PySem.W.mg_of X G a1⟩ ⟨F2, b2, PySem.W.mg_of X G a2⟩ ⟨F3, b3, PySem.W.mg_of X G a3⟩ ⟨F4, b4, PySem.W.mg_of X G a4⟩ ⟨F5, b5, PySem.W.mg_of X G a5⟩ ⟨F6, b6, PySem.W.mg_of X G a6⟩ ⟨F7, b7, PySem.W.mg_of X G a7⟩ ⟨F8, b8, PySem.W.mg_of X G a8⟩ ⟨F9, b9, PySem.W.mg_of X G a9⟩ ⟨F10, b10, PySem.W.mg_of X G a10⟩ ⟨F11, b11, PySem.W.mg_of X G a11⟩ ⟨F12, b12, PySem.W.mg_of X G a12⟩ ⟨F13, b13, PySem.W.mg_of X G a13⟩ ⟨F14, b14, PySem.W.mg_of X G a14⟩ ⟨F15, b15, PySem.W.mg_of X G a15⟩ ⟨F16, b16, PySem.W.mg_of X G a16⟩ ⟨F17, b17, PySem.W.mg_of X G a17⟩ ⟨F18, b18, PySem.W.mg_of X G a18⟩ ⟨F19, b19, PySem.W.mg_of X G a19⟩ ⟨F20, b20, PySem.W.mg_of X G a20⟩ ⟨F21, b21, PySem.W.mg_of X G a21⟩ ⟨F22, b22, PySem.W.mg_of X G a22⟩ ⟨F23, b23, PySem.W.mg_of X G a23⟩ ⟨F24, b24, PySem.W.mg_of X G a24⟩ ⟨F25, b25, PySem.W.mg_of X G a25⟩ ⟨F26, b26, PySem.W.mg_of X G a26⟩ ⟨F27, b27, PySem.W.mg_of X G a27⟩ ⟨F28, b28, PySem.W.mg_of X G a28⟩ ⟨F29, b29, PySem.W.mg_of X G a29⟩ ⟨F30, b30, PySem.W.mg_of X G a30⟩ ⟨F31, b31, PySem.W.mg_of X G a31⟩ ⟨F32, b32, PySem.W.mg_of X G a32⟩ ⟨F33, b33, PySem.W.mg_of X G a33⟩ ⟨F34, b34, PySem.W.mg_of X G a34⟩ ⟨F35, b35, PySem.W.mg_of X G a35⟩ ⟨F36, b36, PySem.W.mg_of X G a36⟩ ⟨F37, b37, PySem.W.mg_of X G a37⟩ ⟨F38, b38, PySem.W.mg_of X G a38⟩ ⟨F39, b39, PySem.W.mg_of X G a39⟩ ⟨F40, b40, PySem.W.mg_of X G a40⟩ ⟨F41, b41, PySem.W.mg_of X G a41⟩ ⟨F42, b42, PySem.W.mg_of X G a42⟩ ⟨F43, b43, PySem.W.mg_of X G a43⟩ ⟨F44, b44, PySem.W.mg_of X G a44⟩ ⟨F45, b45, PySem.W.mg_of X G a45⟩ ⟨F46, b46, PySem.W.mg_of X G a46⟩ ⟨F47, b47, PySem.W.mg_of X G a47⟩ ⟨F48, b48, PySem.W.mg_of X G a48⟩ ⟨F49, b49, PySem.W.mg_of X G a49⟩ ⟨F50, b50, PySem.W.mg_of X G a50⟩ F51 ⟨pgPiece, hdPiece, poPiece, saPiece⟩ nPiece_kind nPiece_bar_count nPiece_bars (PySem.W.mg_of X G gPiece) F52 ⟨mkPiece, a52, i52, kcPiece⟩ b52 ⟨pgLinedBar, hdLinedBar, poLinedBar, saLinedBar⟩ nLinedBar_label nLinedBar_lines (PySem.W.mg_of X G gLinedBar) F53 ⟨mkLinedBar, a53, i53, kcLinedBar⟩ b53 ⟨pgReader, hdReader, poReader, saReader⟩ nReader_numbers nReader_place (PySem.W.mg_of X G gReader) F54 ⟨mkReader, a54, i54, kcReader⟩ b54 F55 ⟨a55, i55, k55⟩ b55 F56 ⟨a56, i56, k56⟩ b56 F57 ⟨a57, i57, k57⟩ b57 ⟨pgScore, hdScore, poScore, saScore⟩ nScore_lengths nScore_breaks nScore_staves (PySem.W.mg_of X G gScore) F58 ⟨mkScore, a58, i58, kcScore⟩ b58 F59 ⟨a59, i59, k59⟩ b59 F60 ⟨a60, i60, k60⟩ b60 F61 ⟨a61, i61, k61⟩ b61 ⟨_, PySem.W.mg_of X G v_MOST_ITEMS⟩ ⟨_, PySem.W.mg_of X G v_MOST_KEYS⟩ ⟨_, PySem.W.mg_of X G v_HIGHEST_KEY⟩ ⟨_, PySem.W.mg_of X G v_REST⟩ ⟨_, PySem.W.mg_of X G v_BAR⟩ ⟨_, PySem.W.mg_of X G v_CUED_BAR⟩ ⟨_, PySem.W.mg_of X G v_NEITHER⟩ ⟨_, PySem.W.mg_of X G v_FIRST⟩ ⟨_, PySem.W.mg_of X G v_SECOND⟩ ⟨_, PySem.W.mg_of X G v_SAME⟩ ⟨_, PySem.W.mg_of X G v_CHORDS⟩ ⟨_, PySem.W.mg_of X G v_APART⟩ ⟨_, PySem.W.mg_of X G v_NO_LABEL⟩ ⟨_, PySem.W.mg_of X G v_MOST_LINES⟩ ⟨_, PySem.W.mg_of X G v_MOST_BARS⟩ ⟨_, PySem.W.mg_of X G v_LONGEST_BAR⟩ ⟨_, PySem.W.mg_of X G v_MOST_BREAKS⟩ ⟨_, PySem.W.mg_of X G v_MOST_STAVES⟩ (PySem.W.mg_of X G v_CALLS) w_CALLS (PySem.W.mg_none_of X G z_all) (PySem.W.mg_none_of X G z_enumerate) (PySem.W.mg_none_of X G z_len) (PySem.W.mg_none_of X G z_range) (PySem.W.mg_none_of X G z_set) (PySem.W.mg_none_of X G z_zip)
/-! the arguments of chain, in order: read_bar; read_bars; bar_numbers; bars_numbers; keys_as_told; bar_as_told; bars_as_told; bar_rests; whole_rest; kept_bar; drawn_out; part_rests; rest_end; bar_piece; rest_pieces; cue_staff; read_piece; read_pieces; goes_over_break; piece_as_told; part_as_told; put_back; staff_put_back; read_lined_bar; read_lined_bars; lined_bar_numbers; items_chord; bars_chord; mode_of; chords; lines_of; label_of; put_on_one; labels_in_force; may_be_chords; lined_bar_as_told; lined_bars_as_told; parted_line; parted_bar; parted_bars; with_lists; begins_as_told; answer_begins; staff_as_told; answer_staff; answer_staves; answer_draw; answer_back; answer_two; answer_parted; answer_call; answers; Piece: cl, attributes ['kind', 'bar_count', 'bars'], gC, ['Piece.__init__']; LinedBar: cl, attributes ['label', 'lines'], gC, ['LinedBar.__init__']; Reader: cl, attributes ['numbers', 'place'], gC, ['Reader.__init__', 'Reader.at_end', 'Reader.take', 'Reader.take_row']; Score: cl, attributes ['lengths', 'breaks', 'staves'], gC, ['Score.__init__', 'Score.begin', 'Score.add_staff', 'Score.has_staff']; MOST_ITEMS; MOST_KEYS; HIGHEST_KEY; REST; BAR; CUED_BAR; NEITHER; FIRST; SECOND; SAME; CHORDS; APART; NO_LABEL; MOST_LINES; MOST_BARS; LONGEST_BAR; MOST_BREAKS; MOST_STAVES; CALLS; all; enumerate; len; range; set; zip -/
end Ps
open PySem PySem.W PyProof.Rows
set_option maxRecDepth 100000 in
set_option maxHeartbeats 0 in
theorem PySem.Challenge.cw_partscore_s01_answers_holds : PySem.Challenge.rw_partscore_s01_answers.Holds := by
  w_on; k_headS; (case hw => exact ⟨[.list [.int 0, .int 0, .int 0]], by decide +kernel, by decide +kernel⟩)
  k_fillS
  refine L2.walk_specK (r := PySem.Challenge.rw_partscore_s01_answers) (k := 9) (CX := L2.CX0) (ps := ["calls"]) (sp := Ps.sp_answers) (by decide +kernel) rfl rfl ⟨rfl, by decide, by decide⟩ (fun w h Y => PySem.W.kIn_of Y) ?F ?S (fun _ _ _ _ z => z)
  case F =>
    intro w mg fa h Y KX G hmg
    refine' Ps.all_mk KX G hmg ?gPiece ?gLinedBar ?gReader ?gScore ?a0 ?l0 ?c0 ?k0 ?a1 ?l1 ?c1 ?k1 ?a2 ?l2 ?c2 ?k2 ?a3 ?l3 ?c3 ?k3 ?a4 ?l4 ?c4 ?k4 ?a5 ?l5 ?c5 ?k5 ?a6 ?l6 ?c6 ?k6 ?a7 ?l7 ?c7 ?k7 ?a8 ?l8 ?c8 ?k8 ?a9 ?l9 ?c9 ?k9 ?a10 ?l10 ?c10 ?k10 ?a11 ?l11 ?c11 ?k11 ?a12 ?l12 ?c12 ?k12 ?a13 ?l13 ?c13 ?k13 ?a14 ?l14 ?c14 ?k14 ?a15 ?l15 ?c15 ?k15 ?a16 ?l16 ?c16 ?k16 ?a17 ?l17 ?c17 ?k17 ?a18 ?l18 ?c18 ?k18 ?a19 ?l19 ?c19 ?k19 ?a20 ?l20 ?c20 ?k20 ?a21 ?l21 ?c21 ?k21 ?a22 ?l22 ?c22 ?k22 ?a23 ?l23 ?c23 ?k23 ?a24 ?l24 ?c24 ?k24 ?a25 ?l25 ?c25 ?k25 ?a26 ?l26 ?c26 ?k26 ?a27 ?l27 ?c27 ?k27 ?a28 ?l28 ?c28 ?k28 ?a29 ?l29 ?c29 ?k29 ?a30 ?l30 ?c30 ?k30 ?a31 ?l31 ?c31 ?k31 ?a32 ?l32 ?c32 ?k32 ?a33 ?l33 ?c33 ?k33 ?a34 ?l34 ?c34 ?k34 ?a35 ?l35 ?c35 ?k35 ?a36 ?l36 ?c36 ?k36 ?a37 ?l37 ?c37 ?k37 ?a38 ?l38 ?c38 ?k38 ?a39 ?l39 ?c39 ?k39 ?a40 ?l40 ?c40 ?k40 ?a41 ?l41 ?c41 ?k41 ?a42 ?l42 ?c42 ?k42 ?a43 ?l43 ?c43 ?k43 ?a44 ?l44 ?c44 ?k44 ?a45 ?l45 ?c45 ?k45 ?a46 ?l46 ?c46 ?k46 ?a47 ?l47 ?c47 ?k47 ?a48 ?l48 ?c48 ?k48 ?a49 ?l49 ?c49 ?k49 ?a50 ?l50 ?c50 ?k50 ?a51 ?l51 ?c51 ?k51 ?a52 ?i52 ?l52 ?c52 ?k52 ?a53 ?i53 ?l53 ?c53 ?k53 ?a54 ?i54 ?l54 ?c54 ?k54 ?a55 ?i55 ?l55 ?c55 ?k55 ?a56 ?i56 ?l56 ?c56 ?k56 ?a57 ?i57 ?l57 ?c57 ?k57 ?a58 ?i58 ?l58 ?c58 ?k58 ?a59 ?i59 ?l59 ?c59 ?k59 ?a60 ?i60 ?l60 ?c60 ?k60 ?a61 ?i61 ?l61 ?c61 ?k61 ?pgPiece ?hdPiece ?poPiece ?saPiece ?mkPiece ?kcPiece ?nPiece_kind ?nPiece_bar_count ?nPiece_bars ?pgLinedBar ?hdLinedBar ?poLinedBar ?saLinedBar ?mkLinedBar ?kcLinedBar ?nLinedBar_label ?nLinedBar_lines ?pgReader ?hdReader ?poReader ?saReader ?mkReader ?kcReader ?nReader_numbers ?nReader_place ?pgScore ?hdScore ?poScore ?saScore ?mkScore ?kcScore ?nScore_lengths ?nScore_breaks ?nScore_staves ?v_MOST_ITEMS ?v_MOST_KEYS ?v_HIGHEST_KEY ?v_REST ?v_BAR ?v_CUED_BAR ?v_NEITHER ?v_FIRST ?v_SECOND ?v_SAME ?v_CHORDS ?v_APART ?v_NO_LABEL ?v_MOST_LINES ?v_MOST_BARS ?v_LONGEST_BAR ?v_MOST_BREAKS ?v_MOST_STAVES ?v_CALLS ?w_CALLS ?z_all ?z_enumerate ?z_len ?z_range ?z_set ?z_zip
    (case gPiece => k_is); (case gLinedBar => k_is); (case gReader => k_is); (case gScore => k_is); (case a0 => k_is); (case l0 => k_is); (case c0 => k_is); (case k0 => k_is)
    (case a1 => k_is); (case l1 => k_is); (case c1 => k_is); (case k1 => k_is); (case a2 => k_is); (case l2 => k_is); (case c2 => k_is); (case k2 => k_is)
    (case a3 => k_is); (case l3 => k_is); (case c3 => k_is); (case k3 => k_is); (case a4 => k_is); (case l4 => k_is); (case c4 => k_is); (case k4 => k_is)
    (case a5 => k_is); (case l5 => k_is); (case c5 => k_is); (case k5 => k_is); (case a6 => k_is); (case l6 => k_is); (case c6 => k_is); (case k6 => k_is)
    (case a7 => k_is); (case l7 => k_is); (case c7 => k_is); (case k7 => k_is); (case a8 => k_is); (case l8 => k_is); (case c8 => k_is); (case k8 => k_is)
    (case a9 => k_is); (case l9 => k_is); (case c9 => k_is); (case k9 => k_is); (case a10 => k_is); (case l10 => k_is); (case c10 => k_is); (case k10 => k_is)
    (case a11 => k_is); (case l11 => k_is); (case c11 => k_is); (case k11 => k_is); (case a12 => k_is); (case l12 => k_is); (case c12 => k_is); (case k12 => k_is)
    (case a13 => k_is); (case l13 => k_is); (case c13 => k_is); (case k13 => k_is); (case a14 => k_is); (case l14 => k_is); (case c14 => k_is); (case k14 => k_is)
    (case a15 => k_is); (case l15 => k_is); (case c15 => k_is); (case k15 => k_is); (case a16 => k_is); (case l16 => k_is); (case c16 => k_is); (case k16 => k_is)
    (case a17 => k_is); (case l17 => k_is); (case c17 => k_is); (case k17 => k_is); (case a18 => k_is); (case l18 => k_is); (case c18 => k_is); (case k18 => k_is)
    (case a19 => k_is); (case l19 => k_is); (case c19 => k_is); (case k19 => k_is); (case a20 => k_is); (case l20 => k_is); (case c20 => k_is); (case k20 => k_is)
    (case a21 => k_is); (case l21 => k_is); (case c21 => k_is); (case k21 => k_is); (case a22 => k_is); (case l22 => k_is); (case c22 => k_is); (case k22 => k_is)
    (case a23 => k_is); (case l23 => k_is); (case c23 => k_is); (case k23 => k_is); (case a24 => k_is); (case l24 => k_is); (case c24 => k_is); (case k24 => k_is)
    (case a25 => k_is); (case l25 => k_is); (case c25 => k_is); (case k25 => k_is); (case a26 => k_is); (case l26 => k_is); (case c26 => k_is); (case k26 => k_is)
    (case a27 => k_is); (case l27 => k_is); (case c27 => k_is); (case k27 => k_is); (case a28 => k_is); (case l28 => k_is); (case c28 => k_is); (case k28 => k_is)
    (case a29 => k_is); (case l29 => k_is); (case c29 => k_is); (case k29 => k_is); (case a30 => k_is); (case l30 => k_is); (case c30 => k_is); (case k30 => k_is)
    (case a31 => k_is); (case l31 => k_is); (case c31 => k_is); (case k31 => k_is); (case a32 => k_is); (case l32 => k_is); (case c32 => k_is); (case k32 => k_is)
    (case a33 => k_is); (case l33 => k_is); (case c33 => k_is); (case k33 => k_is); (case a34 => k_is); (case l34 => k_is); (case c34 => k_is); (case k34 => k_is)
    (case a35 => k_is); (case l35 => k_is); (case c35 => k_is); (case k35 => k_is); (case a36 => k_is); (case l36 => k_is); (case c36 => k_is); (case k36 => k_is)
    (case a37 => k_is); (case l37 => k_is); (case c37 => k_is); (case k37 => k_is); (case a38 => k_is); (case l38 => k_is); (case c38 => k_is); (case k38 => k_is)
    (case a39 => k_is); (case l39 => k_is); (case c39 => k_is); (case k39 => k_is); (case a40 => k_is); (case l40 => k_is); (case c40 => k_is); (case k40 => k_is)
    (case a41 => k_is); (case l41 => k_is); (case c41 => k_is); (case k41 => k_is); (case a42 => k_is); (case l42 => k_is); (case c42 => k_is); (case k42 => k_is)
    (case a43 => k_is); (case l43 => k_is); (case c43 => k_is); (case k43 => k_is); (case a44 => k_is); (case l44 => k_is); (case c44 => k_is); (case k44 => k_is)
    (case a45 => k_is); (case l45 => k_is); (case c45 => k_is); (case k45 => k_is); (case a46 => k_is); (case l46 => k_is); (case c46 => k_is); (case k46 => k_is)
    (case a47 => k_is); (case l47 => k_is); (case c47 => k_is); (case k47 => k_is); (case a48 => k_is); (case l48 => k_is); (case c48 => k_is); (case k48 => k_is)
    (case a49 => k_is); (case l49 => k_is); (case c49 => k_is); (case k49 => k_is); (case a50 => k_is); (case l50 => k_is); (case c50 => k_is); (case k50 => k_is)
    (case a51 => k_is); (case l51 => k_is); (case c51 => k_is); (case k51 => k_is); (case a52 => k_is); (case i52 => k_is); (case l52 => k_is); (case c52 => k_is)
    (case k52 => k_is); (case a53 => k_is); (case i53 => k_is); (case l53 => k_is); (case c53 => k_is); (case k53 => k_is); (case a54 => k_is); (case i54 => k_is)
    (case l54 => k_is); (case c54 => k_is); (case k54 => k_is); (case a55 => k_is); (case i55 => k_is); (case l55 => k_is); (case c55 => k_is); (case k55 => k_is)
    (case a56 => k_is); (case i56 => k_is); (case l56 => k_is); (case c56 => k_is); (case k56 => k_is); (case a57 => k_is); (case i57 => k_is); (case l57 => k_is)
    (case c57 => k_is); (case k57 => k_is); (case a58 => k_is); (case i58 => k_is); (case l58 => k_is); (case c58 => k_is); (case k58 => k_is); (case a59 => k_is)
    (case i59 => k_is); (case l59 => k_is); (case c59 => k_is); (case k59 => k_is); (case a60 => k_is); (case i60 => k_is); (case l60 => k_is); (case c60 => k_is)
    (case k60 => k_is); (case a61 => k_is); (case i61 => k_is); (case l61 => k_is); (case c61 => k_is); (case k61 => k_is); (case pgPiece => k_is); (case hdPiece => k_is)
    (case poPiece => k_is); (case saPiece => k_is); (case mkPiece => k_is); (case kcPiece => k_is); (case nPiece_kind => k_is); (case nPiece_bar_count => k_is); (case nPiece_bars => k_is); (case pgLinedBar => k_is)
    (case hdLinedBar => k_is); (case poLinedBar => k_is); (case saLinedBar => k_is); (case mkLinedBar => k_is); (case kcLinedBar => k_is); (case nLinedBar_label => k_is); (case nLinedBar_lines => k_is); (case pgReader => k_is)
    (case hdReader => k_is); (case poReader => k_is); (case saReader => k_is); (case mkReader => k_is); (case kcReader => k_is); (case nReader_numbers => k_is); (case nReader_place => k_is); (case pgScore => k_is)
    (case hdScore => k_is); (case poScore => k_is); (case saScore => k_is); (case mkScore => k_is); (case kcScore => k_is); (case nScore_lengths => k_is); (case nScore_breaks => k_is); (case nScore_staves => k_is)
    (case v_MOST_ITEMS => k_is); (case v_MOST_KEYS => k_is); (case v_HIGHEST_KEY => k_is); (case v_REST => k_is); (case v_BAR => k_is); (case v_CUED_BAR => k_is); (case v_NEITHER => k_is); (case v_FIRST => k_is)
    (case v_SECOND => k_is); (case v_SAME => k_is); (case v_CHORDS => k_is); (case v_APART => k_is); (case v_NO_LABEL => k_is); (case v_MOST_LINES => k_is); (case v_MOST_BARS => k_is); (case v_LONGEST_BAR => k_is)
    (case v_MOST_BREAKS => k_is); (case v_MOST_STAVES => k_is); (case v_CALLS => k_is); (case w_CALLS => k_is); (case z_all => k_is); (case z_enumerate => k_is); (case z_len => k_is); (case z_range => k_is)
    (case z_set => k_is); (case z_zip => k_is)
  case S =>
    intro K H xs a hO hwi hask hx
    cases hx with
    | cons h1 h2 =>
      cases h2
      cases h1 with
      | lst hs ha =>
        have e := L2.ints_dw a.1 _ ha
        subst e
        exact ⟨_, a.1, rfl, hs, hask, fun H' p hp => .lst (L2.SqL.of hp) (L2.dw_ints _)⟩
