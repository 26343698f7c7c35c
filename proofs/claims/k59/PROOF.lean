import PyProof.Rows.All
import Wide.All
import OpenK.AllK
import Wide.FinOn
import KE.KIntText
import KE.IntTextLaws
import KE.KMathGC
import PyProof.RangeFor
import PyProof.FString3
import HandS.Base
import HandS.Call
import HandS.Codes
import HandS.Gcd
import HandS.IntHex
import HandS.FStr
import PyProof.Rows.StrIntSpec
import HandS.StrMore
import HandS.ForExc
import HandS.ForMost
import HandS.Evl
import HandS.Walk
import HandS.WideBits
import HandS.TupAny
import HandS.SortInts
import HandS.DictComp
import PySem.Challenge.RW_finecloud_k59_whole_numbers
set_option Elab.async false
set_option linter.all false
set_option maxRecDepth 100000
/-! my own rules: int(t, 2), f"{n:b}", comb -/
namespace XA
open PySem PySem.Spec PyProof.Rows L2

namespace Bx
open PySem.NumText PySem.Calls
def IsB (c : Nat) : Prop := c = 48 ∨ c = 49
def bNum (l : List Nat) : Nat := l.foldl (fun a c => a * 2 + (c - 48)) 0
theorem dig {c : Nat} (h : IsB c) : digit? c = some (c - 48) := by
  rcases h with h | h <;> (subst h; rfl)
theorem step_b {ds : Array Nat} {b : Bool} {c : Nat} (h : IsB c) : PySem.NumText.step 2 (ds, b) c = some (ds.push (c - 48), true) := by
  rcases h with h | h <;> (subst h; rfl)
theorem foldl_b : ∀ (cs : List Nat) (ds : Array Nat), (∀ c ∈ cs, IsB c) → cs.foldlM (PySem.NumText.step 2) (ds, true) = some (cs.foldl (fun acc c => acc.push (c - 48)) ds, true)
  | [], _, _ => rfl
  | c :: cs, ds, h => by
    rw [List.foldlM_cons, step_b (h c (List.mem_cons_self ..))]
    show cs.foldlM (PySem.NumText.step 2) (ds.push (c - 48), true) = _
    exact foldl_b cs (ds.push (c - 48)) fun d hd => h d (List.mem_cons_of_mem _ hd)
theorem digits_b {cs : List Nat} (h : ∀ c ∈ cs, IsB c) (hne : cs ≠ []) : digits? 2 cs = some (cs.foldl (fun acc c => acc.push (c - 48)) #[]) := by
  cases cs with
  | nil => exact absurd rfl hne
  | cons c cs =>
    unfold digits?
    rw [List.foldlM_cons, step_b (h c (List.mem_cons_self ..))]
    show (cs.foldlM (PySem.NumText.step 2) ((#[] : Array Nat).push (c - 48), true)).bind _ = _
    rw [foldl_b cs _ fun d hd => h d (List.mem_cons_of_mem _ hd)]
    rfl
theorem push_b : ∀ (cs : List Nat) (ds : Array Nat), (cs.foldl (fun acc c => acc.push (c - 48)) ds).foldl (fun acc d => acc * 2 + d) 0 = cs.foldl (fun a c => a * 2 + (c - 48)) (ds.foldl (fun acc d => acc * 2 + d) 0)
  | [], _ => rfl
  | c :: cs, ds => by
    rw [List.foldl_cons, push_b cs (ds.push (c - 48)), List.foldl_cons]
    congr 1
    simp
theorem b_rng {c : Nat} (h : IsB c) : 48 ≤ c ∧ c ≤ 49 := by
  rcases h with h | h <;> omega
theorem dropB {cs : List Nat} (h : ∀ c ∈ cs, IsB c) : cs.dropWhile blank = cs := by
  cases cs with
  | nil => rfl
  | cons c cs => exact dropWhile_of (by have := b_rng (h c (List.mem_cons_self ..)); omega)
theorem signB {cs : List Nat} (h : ∀ c ∈ cs, IsB c) : sign cs = (false, cs) := by
  cases cs with
  | nil => rfl
  | cons c cs =>
    have := b_rng (h c (List.mem_cons_self ..))
    exact sign_of (by omega) (by omega)
theorem basedB {cs : List Nat} (h : ∀ c ∈ cs, IsB c) : based 2 cs = (2, false, cs) := by
  match cs, h with
  | [], _ => rfl
  | [a], h => rcases h a (List.mem_cons_self ..) with e | e <;> (subst e; rfl)
  | a :: c :: r, h =>
    have hc := h c (List.mem_cons_of_mem _ (List.mem_cons_self ..))
    have ha := h a (List.mem_cons_self ..)
    rcases ha with ha | ha <;> rcases hc with hc | hc <;> (subst ha; subst hc; rfl)
theorem read_b {cs : List Nat} (h : ∀ c ∈ cs, IsB c) (hne : cs ≠ []) : (int_private% "readNumeral") 0 2 cs = (int_private% "Numeral.value") ((bNum cs : Nat) : Int) := by
  have hr : ∀ c ∈ cs.reverse, IsB c := fun c hc => h c (List.mem_reverse.mp hc)
  refine (readNumeral_eq 0 2 cs).trans ?_
  rw [dropB h, signB h]
  show judge 0 false (based 2 cs).1 (based 2 cs).2.1 (digits? (based 2 cs).1 (((based 2 cs).2.2.reverse.dropWhile blank).reverse)) = _
  rw [basedB h]
  show judge 0 false 2 false (digits? 2 ((cs.reverse.dropWhile blank).reverse)) = _
  rw [dropB hr, List.reverse_reverse, digits_b h hne]
  show (int_private% "Numeral.value") (((cs.foldl (fun acc c => acc.push (c - 48)) (#[] : Array Nat)).foldl (fun acc d => acc * 2 + d) 0 : Nat) : Int) = _
  have z : (#[] : Array Nat).foldl (fun acc d => acc * 2 + d) 0 = 0 := by first | rfl | simp
  rw [push_b, z] <;> rfl
theorem seen_b {x : Str} (h : ∀ c ∈ x.cps.toList, IsB c) : numTextOf x = x.cps.toList ∧ numSeenOf x = x.cps.toList := by
  have e1 : numTextOf x = x.cps.toList := by
    refine if_pos ?_
    rw [← Array.all_toList, List.all_eq_true]
    intro c hc
    have := b_rng (h c hc)
    exact decide_eq_true (by omega)
  refine ⟨e1, ?_⟩
  show (numTextOf x).takeWhile _ = _
  rw [e1]
  refine takeWhile_all fun c hc => ?_
  have := b_rng (h c hc)
  exact bne_iff_ne.mpr (by omega)
set_option maxHeartbeats 4000000 in
theorem gives_b {x : PySem.Str} {u t : Tok} (hl : x.length ≤ 640) (h : ∀ c ∈ x.cps.toList, IsB c) (hne : x.cps.toList ≠ []) :
    Gives (Builtin.«int.__new__» ⟨[.type "int", .str x u, .int 2 t], []⟩) (.int ((bNum x.cps.toList : Nat) : Int)) :=
  .of_wp fun M A E s Q hQ => by
    obtain ⟨hp, g, d, tk, os⟩ := s
    have f1 := F.conv_sub_int
    have f2 := F.madeHere_int
    have f6 : typeOf (.str x u) = pure (.type "str") := rfl
    obtain ⟨e1, e2⟩ := seen_b h
    have hs : (numSeenOf x).length ≤ 640 := by
      rw [e2, Array.length_toList]
      exact hl
    have hr : (int_private% "readNumeral") 0 2 (numSeenOf x) = (int_private% "Numeral.value") ((bNum x.cps.toList : Nat) : Int) := by
      rw [e2]
      exact read_b h hne
    have ha : ((numSeenOf x).length == (numTextOf x).length) = true := by
      rw [e1, e2]
      exact beq_self_eq_true _
    have hk := Hx.Hid.mk (And.intro hs (And.intro hr ha))
    clear hs hr ha e1 e2 hl hne h
    repeat (any_goals (first
      | assumption
      | ((with_reducible show wpAny _ _ ((int_private% "intFromText") _ _ _) _ _ _); refine Hx.wp_textB hk.out.1 hk.out.2.1 hk.out.2.2 ?_)
      | wp_step))
    all_goals first | exact ⟨_, rfl, hQ⟩ | skip
theorem call_b {prog : Program} {w : World} {A : Around} {E : Value → Shared → Prop} {s : Shared} {Q : Value → Shared → Prop} {x : PySem.Str} {u t : Tok} (hl : x.length ≤ 640) (h : ∀ c ∈ x.cps.toList, IsB c) (hne : x.cps.toList ≠ [])
    (hQ : Q (.int ((bNum x.cps.toList : Nat) : Int) s.toks) { s with toks := s.toks + 1 }) : wpAny (model prog w) A (call (.type "int") [.str x u, .int 2 t]) Q E s :=
  callType_new F.called_int F.newNe_int (Hx.typeCall_int_2 _ _) (Hx.newCall_int_2 _ _) (fun obj => F.initArgs_range_2 obj _ _) F.entry_int_new (gives_b hl h hne).meets (show (Made.int ((bNum x.cps.toList : Nat) : Int)).post _ s from ⟨rfl, hQ⟩)

/-! f"{n:b}" -/
theorem spec_b : ∀ name, Builtin.Float.parseFormatSpec [98] name 62 = .ok { fill := 32, align := 62, type := some 98 } := fun name => by kernel_rfl
end Bx
end XA

set_option Elab.async false
set_option linter.all false
set_option maxRecDepth 100000
set_option maxHeartbeats 4000000
namespace XA
open PySem PySem.Spec PyProof.Rows L2
namespace Bx
open Builtin Builtin.Float
/-- the binary figures of a number, greatest first; 0 is one figure -/
def bCodes (n : Nat) : List Nat := (Nat.toDigits 2 n).map Char.toNat
theorem codes_ne (n : Nat) : Nat.toDigits 2 n ≠ [] := by
  intro h
  have := tDigits_len_ge 2 n
  rw [h] at this
  simp at this
section
variable {prog : Program} {w : World} {A : Around} {E : Value → Shared → Prop} {s : Shared}
theorem field_b {n : Nat} {t : Tok} {Q : Value → Shared → Prop} (hz : (bCodes n).length ≤ sizeLine)
    (h : Q (.str ⟨(bCodes n).toArray⟩ (s.toks + 1)) { s with toks := s.toks + 1 + 1 }) : wpAny (model prog w) A (formatField (.int (n : Int) t) ⟨#[98]⟩) Q E s := by
  show wpAny _ _ (holding [.int (n : Int) t] (pyFormat (.int (n : Int) t) ⟨#[98]⟩)) Q E s
  refine wpAny_holding ?_
  unfold pyFormat
  refine wpAny_bind (wpAny_mkStr ?_ (by decide))
  refine wpAny_bind (m := callSpecial? (.int (n : Int) t) (Str.ofString "__format__") [.str ⟨#[98]⟩ s.toks]) (wpAny_callSpecial?_slot (name := Str.ofString "__format__") (typeIs_int _ _ t) PyProof.Rows.slot_int_format ?_)
  refine wpAny_call (codeAny_call_builtin PyProof.Rows.slot_int_format.plain PyProof.Rows.entry_int_format (PyProof.Rows.slot_int_format.check _ _ _ _ _ _ _ _ (typeIs_int _ _ t) (PyProof.Rows.args_int_format _ _) ?_))
  unfold Builtin.«int.__format__»
  have hne : ((⟨#[98]⟩ : Str).length == 0) = false := by decide
  have hasc : (((⟨#[98]⟩ : Str).cps.toList.drop 1).any (· ≥ 128) || ((⟨#[98]⟩ : Str).cps.getD 0 0 ≥ 128 && !([60, 62, 61, 94] : List Nat).contains ((⟨#[98]⟩ : Str).cps.getD 1 0))) = false := by decide
  have hp := spec_b "int"
  simp only [selfAndOne, noKeywords, Int.intOfSelf, asInt?, asStr?, List.isEmpty_nil, if_true, pure_bind, bind_pure, bind_assoc, hne, hasc, Bool.false_eq_true, if_false,
    show (Value.str ⟨#[98]⟩ s.toks == Value.none) = false from rfl]
  refine wpAny_bind (wpAny_typeNameOf (T := "str") (typeIs_str _ _ _) (by decide) fun _ => ?_)
  first | refine wpAny_bind (wpAny_typeNameOfCut_int ?_) | refine wpAny_bind (wpAny_typeNameOf_int ?_)
  simp only [hp]
  refine wpAny_ite_true (by decide) ?_
  have key : ∀ l : List Nat, l ≠ [] → ∀ neg : Bool, neg = false → (⟨(List.replicate (((-1 : Int) - (((if neg = true then ([45] : List Nat) else []).length : Int) + (0 : Nat) + (0 : Nat)) - ((if l.isEmpty = true then ([] : List Nat) else List.replicate (Int.toNat 0 - l.length) 48 ++ l).length : Int)).toNat) 32 ++ (if neg = true then ([45] : List Nat) else []) ++ [] ++ List.replicate 0 32 ++ (if l.isEmpty = true then ([] : List Nat) else List.replicate (Int.toNat 0 - l.length) 48 ++ l) ++ [] ++ List.replicate 0 32).toArray⟩ : Str) = ⟨l.toArray⟩ := by
    intro l hl neg hn
    subst hn
    have e : l.isEmpty = false := by
      cases l with
      | nil => exact absurd rfl hl
      | cons _ _ => rfl
    rw [e]
    have z : ((-1 : Int) - (((if false = true then ([45] : List Nat) else []).length : Int) + (0 : Nat) + (0 : Nat)) - ((if false = true then ([] : List Nat) else List.replicate (Int.toNat 0 - l.length) 48 ++ l).length : Int)).toNat = 0 := by
      simp
    rw [z]
    simp
  have hd : ∀ l : List Char, (l.map fun c => (if (98 : Nat) == 88 then c.toUpper else c).toNat) = l.map Char.toNat := fun l => rfl
  have hneg : decide ((n : Int) < 0) = false := decide_eq_false (by omega)
  have hl : bCodes n ≠ [] := by
    unfold bCodes
    intro e
    exact codes_ne n (List.map_eq_nil_iff.mp e)
  show wpAny _ _ (retStr _) _ _ _
  unfold retStr
  refine wpAny_bind (wpAny_mkStr (wpAny_pure ?_) ?hs2)
  case hs2 =>
    show Str.length (⟨(List.replicate (((-1 : Int) - (((if decide ((n : Int) < 0) = true then ([45] : List Nat) else []).length : Int) + (0 : Nat) + (0 : Nat)) - ((if (bCodes n).isEmpty = true then ([] : List Nat) else List.replicate (Int.toNat 0 - (bCodes n).length) 48 ++ (bCodes n)).length : Int)).toNat) 32 ++ (if decide ((n : Int) < 0) = true then ([45] : List Nat) else []) ++ [] ++ List.replicate 0 32 ++ (if (bCodes n).isEmpty = true then ([] : List Nat) else List.replicate (Int.toNat 0 - (bCodes n).length) 48 ++ (bCodes n)) ++ [] ++ List.replicate 0 32).toArray⟩ : Str) ≤ _
    rw [key (bCodes n) hl _ hneg]
    simpa [Str.length] using hz
  dsimp only
  refine wpAny_bind (wpAny_isInstance (typeIs_str _ _ _) isSubtype_str_str (wpAny_pure ?_))
  show Q (.str (⟨(List.replicate (((-1 : Int) - (((if decide ((n : Int) < 0) = true then ([45] : List Nat) else []).length : Int) + (0 : Nat) + (0 : Nat)) - ((if (bCodes n).isEmpty = true then ([] : List Nat) else List.replicate (Int.toNat 0 - (bCodes n).length) 48 ++ (bCodes n)).length : Int)).toNat) 32 ++ (if decide ((n : Int) < 0) = true then ([45] : List Nat) else []) ++ [] ++ List.replicate 0 32 ++ (if (bCodes n).isEmpty = true then ([] : List Nat) else List.replicate (Int.toNat 0 - (bCodes n).length) 48 ++ (bCodes n)) ++ [] ++ List.replicate 0 32).toArray⟩ : Str) _) _
  rw [key (bCodes n) hl _ hneg]
  exact h
end
end Bx
/-- {x:b} of an int that is 0 or more -/
def tFmtB (te : TE) : TE := fun σ H Q => te σ H fun x H1 => ∃ n : Nat, x = .int (n : Int) ∧ (Bx.bCodes n).length ≤ sizeLine ∧ Q (.str (SX.S (Bx.bCodes n))) H1
theorem pe_fmtB {X : Cx} {e : Expr} {te : TE} {pos p1 p2 : Pos} {j : Nat} (he : PE X e te) :
    PE X (.FormattedValue e (-1) (some (.JoinedStr [.Constant (.str "b") j p1] p2)) pos) (tFmtB te) := by
  refine ⟨fun pins s σ H Q I h => ?_⟩
  refine wpAny_FormattedValue_spec (thn (he.run pins s σ H _ I h) fun v s1 hv => ?_)
  obtain ⟨x, H1, I1, r1, n, rfl, hz, q⟩ := hv
  obtain ⟨t, rfl⟩ := r1
  refine wpAny_JoinedStr_one ?_
  refine wpAny_Constant_str ?_
  exact ⟨_, _, rfl, Bx.field_b hz ⟨.str (SX.S (Bx.bCodes n)), H1, (I1.tok _).tok _, ⟨_, rfl⟩, q⟩⟩
end XA

set_option Elab.async false
set_option linter.all false
set_option maxRecDepth 100000
/-! data, and what readings make of them -/
namespace VL
open PySem PySem.Spec L2
open Evl (Ex)

inductive DV where
  | non | bl (b : Bool) | int (i : Int) | str (x : Str) | ty (n : String) | lst (xs : List DV) | tup (xs : List DV) | ins (c : Addr) (fs : List (Str × DV)) | adr (a : Addr)

mutual
/-- what a value stands for, its objects in the still part F -/
inductive Rel (K : PySem.W.Frag) (F : Hp) : V → DV → Prop where
  | non : Rel K F .non .non
  | bl (b : Bool) : Rel K F (.bl b) (.bl b)
  | int (i : Int) : Rel K F (.int i) (.int i)
  | str (x : Str) : Rel K F (.str x) (.str x)
  | ty (n : String) : Rel K F (.ty n) (.ty n)
  | adr (a : Addr) : Rel K F (.ref a) (.adr a)
  | lst {a : Addr} {xs : List V} {ds : List DV} : SqL K F a xs → RelA K F xs ds → Rel K F (.ref a) (.lst ds)
  | tup {a : Addr} {xs : List V} {ds : List DV} : SqT K F a xs → RelA K F xs ds → Rel K F (.ref a) (.tup ds)
  | ins {a C dx : Addr} {fs : List (Str × V)} {ds : List (Str × DV)} : F a = some (.ins C dx fs) → RelF K F fs ds → Rel K F (.ref a) (.ins C ds)
inductive RelA (K : PySem.W.Frag) (F : Hp) : List V → List DV → Prop where
  | nil : RelA K F [] []
  | cons {v : V} {vs : List V} {d : DV} {ds : List DV} : Rel K F v d → RelA K F vs ds → RelA K F (v :: vs) (d :: ds)
inductive RelF (K : PySem.W.Frag) (F : Hp) : List (Str × V) → List (Str × DV) → Prop where
  | nil : RelF K F [] []
  | cons {n : Str} {v : V} {vs : List (Str × V)} {d : DV} {ds : List (Str × DV)} : Rel K F v d → RelF K F vs ds → RelF K F ((n, v) :: vs) ((n, d) :: ds)
end

section
variable {K : PySem.W.Frag} {F F' : Hp}
mutual
theorem Rel.mono (e : Ex F F') : ∀ {v d}, Rel K F v d → Rel K F' v d
  | _, _, .non => .non
  | _, _, .bl b => .bl b
  | _, _, .int i => .int i
  | _, _, .str x => .str x
  | _, _, .ty n => .ty n
  | _, _, .adr a => .adr a
  | _, _, .lst h r => .lst (Evl.ex_l e h) (RelA.mono e r)
  | _, _, .tup h r => .tup (Evl.ex_t e h) (RelA.mono e r)
  | _, _, .ins h r => .ins (e _ _ h) (RelF.mono e r)
theorem RelA.mono (e : Ex F F') : ∀ {vs ds}, RelA K F vs ds → RelA K F' vs ds
  | _, _, .nil => .nil
  | _, _, .cons h r => .cons (Rel.mono e h) (RelA.mono e r)
theorem RelF.mono (e : Ex F F') : ∀ {vs ds}, RelF K F vs ds → RelF K F' vs ds
  | _, _, .nil => .nil
  | _, _, .cons h r => .cons (Rel.mono e h) (RelF.mono e r)
end
theorem RelA.len : ∀ {vs ds}, RelA K F vs ds → vs.length = ds.length
  | _, _, .nil => rfl
  | _, _, .cons _ r => congrArg (· + 1) r.len
theorem RelA.get : ∀ {vs : List V} {ds : List DV} {i : Nat} {d : DV}, RelA K F vs ds → ds[i]? = some d → ∃ v, vs[i]? = some v ∧ Rel K F v d
  | _, _, _, _, .nil, e => by simp at e
  | _, _, 0, _, .cons h _, e => ⟨_, rfl, by simp at e; subst e; exact h⟩
  | _, _, i + 1, d, .cons _ r, e => by
    obtain ⟨v, h1, h2⟩ := RelA.get (i := i) (d := d) r (by simpa using e)
    exact ⟨v, by simpa using h1, h2⟩
theorem RelA.getV : ∀ {vs : List V} {ds : List DV} {i : Nat} {v : V}, RelA K F vs ds → vs[i]? = some v → ∃ d, ds[i]? = some d ∧ Rel K F v d
  | _, _, _, _, .nil, e => by simp at e
  | _, _, 0, _, .cons h _, e => ⟨_, rfl, by simp at e; subst e; exact h⟩
  | _, _, i + 1, d, .cons _ r, e => by
    obtain ⟨v, h1, h2⟩ := RelA.getV (i := i) (v := d) r (by simpa using e)
    exact ⟨v, by simpa using h1, h2⟩
theorem RelA.app : ∀ {vs ws : List V} {ds es : List DV}, RelA K F vs ds → RelA K F ws es → RelA K F (vs ++ ws) (ds ++ es)
  | _, _, _, _, .nil, s => s
  | _, _, _, _, .cons h r, s => .cons h (r.app s)
theorem RelA.snoc {vs : List V} {ds : List DV} {v : V} {d : DV} (r : RelA K F vs ds) (h : Rel K F v d) : RelA K F (vs ++ [v]) (ds ++ [d]) := r.app (.cons h .nil)
theorem RelA.take : ∀ {vs : List V} {ds : List DV} (n : Nat), RelA K F vs ds → RelA K F (vs.take n) (ds.take n)
  | _, _, 0, _ => .nil
  | _, _, _ + 1, .nil => .nil
  | _, _, n + 1, .cons h r => .cons h (r.take n)
theorem RelA.drop : ∀ {vs : List V} {ds : List DV} (n : Nat), RelA K F vs ds → RelA K F (vs.drop n) (ds.drop n)
  | _, _, 0, r => r
  | _, _, _ + 1, .nil => .nil
  | _, _, n + 1, .cons _ r => r.drop n
theorem RelA.set {v : V} {d : DV} (h : Rel K F v d) : ∀ {vs : List V} {ds : List DV} (i : Nat), RelA K F vs ds → RelA K F (vs.set i v) (ds.set i d)
  | _, _, _, .nil => .nil
  | _, _, 0, .cons _ r => .cons h r
  | _, _, i + 1, .cons g r => .cons g (RelA.set h i r)
theorem RelF.look {f : Str} : ∀ {vs ds} {d : DV}, RelF K F vs ds → ds.lookup f = some d → ∃ v, vs.lookup f = some v ∧ Rel K F v d
  | _, _, _, .nil, e => by cases e
  | (n, v) :: vs, (_, d) :: ds, d', .cons h r, e => by
    unfold List.lookup at e ⊢
    cases q : f == n with
    | true =>
      rw [q] at e
      simp at e
      subst e
      exact ⟨v, rfl, h⟩
    | false =>
      rw [q] at e
      exact r.look e
theorem RelF.no {f : Str} : ∀ {vs ds}, RelF K F vs ds → ds.lookup f = none → vs.lookup f = none
  | _, _, .nil, _ => rfl
  | (n, v) :: vs, (_, d) :: ds, .cons h r, e => by
    unfold List.lookup at e ⊢
    cases q : f == n with
    | true =>
      rw [q] at e
      cases e
    | false =>
      rw [q] at e
      exact r.no e
end

/-- what may change (T), what holds of it (M) -/
structure Cfg where
  T : Addr → Prop
  M : Hp → Hp → Prop
  st : ∀ F H F' H', (∀ a o, T a → H a = some o → H' a = some o) → (∀ a, T a → F a = none → F' a = none) → M F H → M F' H'
  al : ∀ F H a, M F H → T a → H a ≠ none

/-- on from the still part F of the heap H to F' of H' -/
structure Go (c : Cfg) (F H F' H' : Hp) : Prop where
  ff : Ex F F'
  fh : Ex F' H'
  hh : ∀ a o, H a = some o → ¬ c.T a → H' a = some o
  dom : ∀ a o, H a = some o → H' a ≠ none
  fr : ∀ a o, H a = some o → F a = none → F' a = none
  m : c.M F' H'
theorem Go.refl {c : Cfg} {F H : Hp} (e : Ex F H) (m : c.M F H) : Go c F H F H := ⟨Evl.Ex.refl F, e, fun _ _ h _ => h, fun a o h z => (by rw [h] at z; cases z), fun _ _ _ h => h, m⟩
theorem Go.trans {c : Cfg} {F H F1 H1 F2 H2 : Hp} (a : Go c F H F1 H1) (b : Go c F1 H1 F2 H2) : Go c F H F2 H2 := by
  refine ⟨a.ff.trans b.ff, b.fh, fun x o h t => b.hh x o (a.hh x o h t) t, fun x o h => ?_, fun x o h z => ?_, b.m⟩
  · cases q : H1 x with
    | none => exact absurd q (a.dom x o h)
    | some o1 => exact b.dom x o1 q
  · cases q : H1 x with
    | none => exact absurd q (a.dom x o h)
    | some o1 => exact b.fr x o1 q (a.fr x o h z)
/-- a new still object -/
theorem Go.new {c : Cfg} {F H : Hp} {p : Addr} {o : HO} (e : Ex F H) (m : c.M F H) (h : H p = none) : Go c F H (upd F p o) (upd H p o) := by
  have hf : F p = none := by
    cases q : F p with
    | none => rfl
    | some o1 => rw [e p o1 q] at h; cases h
  refine ⟨Evl.Ex.new hf, fun a u q => ?_, fun a u q _ => ?_, fun a u q => ?_, fun a u q z => ?_, c.st _ _ _ _ (fun a u _ q => Evl.Ex.new h a u q) (fun a ta q => ?_) m⟩
  · unfold upd at q ⊢
    split at q
    · rename_i z
      rw [if_pos z]
      exact q
    · rename_i z
      rw [if_neg z]
      exact e a u q
  · rw [upd_ne (ne_of_none q h)]
    exact q
  · rw [upd_ne (ne_of_none q h), q]
    exact fun z => nomatch z
  · rw [upd_ne (ne_of_none q h)]
    exact z
  · rw [upd_ne (show a ≠ p from fun z => c.al F H a m ta (by rw [z]; exact h))]
    exact q
/-- a new object that is not still -/
theorem Go.newM {c : Cfg} {F H : Hp} {p : Addr} {o : HO} (e : Ex F H) (m : c.M F H) (h : H p = none) : Go c F H F (upd H p o) := by
  refine ⟨Evl.Ex.refl F, e.trans (Evl.Ex.new h), fun a u q _ => ?_, fun a u q => ?_, fun a u q z => z, c.st _ _ _ _ (fun a u _ q => Evl.Ex.new h a u q) (fun _ _ q => q) m⟩
  · rw [upd_ne (ne_of_none q h)]
    exact q
  · rw [upd_ne (ne_of_none q h), q]
    exact fun z => nomatch z

/-- what a slot holds: nothing, data, a list of one's own, anything -/
inductive OV where
  | lst (xs : List DV) | obj (C : Addr) (fs : List (Str × DV)) | dK (kvs : List (Key × DV))
inductive SV where
  | non | d (x : DV) | own (o : OV) | any
def RelKV (K : PySem.W.Frag) (F : Hp) : List (Key × V) → List (Key × DV) → Prop := Paired fun p q => p.1 = q.1 ∧ Rel K F p.2 q.2
def RelO (K : PySem.W.Frag) (F : Hp) : HO → OV → Prop
  | .lst vs, .lst ds => RelA K F vs ds
  | .ins C _ fs, .obj C' ds => C = C' ∧ RelF K F fs ds
  | .dK kvs, .dK ds => RelKV K F kvs ds
  | _, _ => False
theorem RelKV.mono {K : PySem.W.Frag} {F F' : Hp} (e : Ex F F') : ∀ {vs : List (Key × V)} {ds : List (Key × DV)}, RelKV K F vs ds → RelKV K F' vs ds
  | _, _, .nil => .nil
  | _, _, .cons h r => .cons ⟨h.1, h.2.mono e⟩ (RelKV.mono e r)
theorem RelO.mono {K : PySem.W.Frag} {F F' : Hp} (e : Ex F F') {o : HO} {x : OV} (h : RelO K F o x) : RelO K F' o x := by
  cases x with
  | lst ds =>
    cases o with
    | lst vs => exact RelA.mono e h
    | _ => exact h
  | obj C ds =>
    cases o with
    | ins C' dx fs => exact ⟨h.1, RelF.mono e h.2⟩
    | _ => exact h
  | dK ds =>
    cases o with
    | dK kvs => exact RelKV.mono e h
    | _ => exact h

def SlotOk (K : PySem.W.Frag) (c : Cfg) (B : Addr → Prop) (F H : Hp) : Option V → SV → Prop
  | v, .non => v = none
  | _, .any => True
  | v, .d x => ∃ y, v = some y ∧ Rel K F y x
  | v, .own x => ∃ l o, v = some (.ref l) ∧ H l = some o ∧ F l = none ∧ ¬ c.T l ∧ B l ∧ RelO K F o x
structure Slots (K : PySem.W.Frag) (c : Cfg) (B : Addr → Prop) (F H : Hp) (σ : St) (ρ : List SV) : Prop where
  len : σ.length = ρ.length
  ok : ∀ (i : Nat) (s : SV), ρ[i]? = some s → ∃ v, σ[i]? = some v ∧ SlotOk K c B F H v s
  dj : ∀ (i j : Nat) (xs ys : OV), i ≠ j → ρ[i]? = some (.own xs) → ρ[j]? = some (.own ys) → σ[i]? ≠ σ[j]?
section
variable {K : PySem.W.Frag} {c : Cfg} {B : Addr → Prop} {F H F' H' : Hp} {σ : St} {ρ : List SV}
theorem SlotOk.go (g : Go c F H F' H') : ∀ {v : Option V} {s : SV}, SlotOk K c B F H v s → SlotOk K c B F' H' v s
  | _, .non, h => h
  | _, .any, _ => trivial
  | _, .d _, h => by
    obtain ⟨y, e, r⟩ := h
    exact ⟨y, e, r.mono g.ff⟩
  | _, .own _, h => by
    obtain ⟨l, vs, e, h1, h2, h3, h4, r⟩ := h
    exact ⟨l, vs, e, g.hh l _ h1 h3, g.fr l _ h1 h2, h3, h4, r.mono g.ff⟩
theorem Slots.go (S : Slots K c B F H σ ρ) (g : Go c F H F' H') : Slots K c B F' H' σ ρ :=
  ⟨S.len, fun i s e => by
    obtain ⟨v, e1, h⟩ := S.ok i s e
    exact ⟨v, e1, h.go g⟩, S.dj⟩
theorem Slots.dat (S : Slots K c B F H σ ρ) {i : Nat} {x : DV} (e : ρ[i]? = some (.d x)) : ∃ v, σ[i]? = some (some v) ∧ Rel K F v x := by
  obtain ⟨v, e1, y, rfl, r⟩ := S.ok i _ e
  exact ⟨y, e1, r⟩
/-- data into a slot -/
theorem Slots.put (S : Slots K c B F H σ ρ) (i : Nat) {v : V} {x : DV} (r : Rel K F v x) : Slots K c B F H (σ.set i (some v)) (ρ.set i (.d x)) := by
  refine ⟨by rw [List.length_set, List.length_set]; exact S.len, fun j s e => ?_, fun j k xs ys hjk e1 e2 => ?_⟩
  · by_cases h : i = j
    · subst h
      have hl : i < ρ.length := by
        have := (List.getElem?_eq_some_iff.mp e).1
        rw [List.length_set] at this
        exact this
      rw [List.getElem?_set_self hl] at e
      refine ⟨some v, List.getElem?_set_self (by rw [S.len]; exact hl), ?_⟩
      cases e
      exact ⟨v, rfl, r⟩
    · rw [List.getElem?_set_ne h] at e
      obtain ⟨w, e1, q⟩ := S.ok j s e
      exact ⟨w, by rw [List.getElem?_set_ne h]; exact e1, q⟩
  · have n1 : i ≠ j := by
      intro z
      subst z
      have hl := (List.getElem?_eq_some_iff.mp e1).1
      rw [List.length_set] at hl
      rw [List.getElem?_set_self hl] at e1
      cases e1
    have n2 : i ≠ k := by
      intro z
      subst z
      have hl := (List.getElem?_eq_some_iff.mp e2).1
      rw [List.length_set] at hl
      rw [List.getElem?_set_self hl] at e2
      cases e2
    rw [List.getElem?_set_ne n1] at e1 ⊢
    rw [List.getElem?_set_ne n2] at e2 ⊢
    exact S.dj j k xs ys hjk e1 e2
/-- a slot forgotten -/
theorem Slots.wipe1 (S : Slots K c B F H σ ρ) (i : Nat) : Slots K c B F H (σ.set i none) (ρ.set i .non) := by
  refine ⟨by rw [List.length_set, List.length_set]; exact S.len, fun j s e => ?_, fun j k xs ys hjk e1 e2 => ?_⟩
  · by_cases h : i = j
    · subst h
      have hl : i < ρ.length := by
        have := (List.getElem?_eq_some_iff.mp e).1
        rw [List.length_set] at this
        exact this
      rw [List.getElem?_set_self hl] at e
      refine ⟨none, List.getElem?_set_self (by rw [S.len]; exact hl), ?_⟩
      cases e
      rfl
    · rw [List.getElem?_set_ne h] at e
      obtain ⟨w, e1, q⟩ := S.ok j s e
      exact ⟨w, by rw [List.getElem?_set_ne h]; exact e1, q⟩
  · have n1 : i ≠ j := by
      intro z
      subst z
      have hl := (List.getElem?_eq_some_iff.mp e1).1
      rw [List.length_set] at hl
      rw [List.getElem?_set_self hl] at e1
      cases e1
    have n2 : i ≠ k := by
      intro z
      subst z
      have hl := (List.getElem?_eq_some_iff.mp e2).1
      rw [List.length_set] at hl
      rw [List.getElem?_set_self hl] at e2
      cases e2
    rw [List.getElem?_set_ne n1] at e1 ⊢
    rw [List.getElem?_set_ne n2] at e2 ⊢
    exact S.dj j k xs ys hjk e1 e2
def wipeR (ρ : List SV) : List Nat → List SV
  | [] => ρ
  | v :: vs => (wipeR ρ vs).set v .non
theorem Slots.wipes (S : Slots K c B F H σ ρ) : ∀ vs : List Nat, Slots K c B F H (wipe σ vs) (wipeR ρ vs)
  | [] => S
  | v :: vs => (S.wipes vs).wipe1 v
end

/-! ### expressions -/
def Ev (K : PySem.W.Frag) (c : Cfg) (t : TE) (ρ : List SV) (P : DV → Prop) : Prop := ∀ (B : Addr → Prop) (σ : St) (F H : Hp), Slots K c B F H σ ρ → Ex F H → c.M F H → ∀ Q : VK, (∀ v d F' H', Go c F H F' H' → Rel K F' v d → P d → Q v H') → t σ H Q
def EvT (K : PySem.W.Frag) (c : Cfg) (t : TT) (ρ : List SV) (P : Bool → Prop) : Prop := ∀ (B : Addr → Prop) (σ : St) (F H : Hp), Slots K c B F H σ ρ → Ex F H → c.M F H → ∀ Q : Bool → Hp → Prop, (∀ b F' H', Go c F H F' H' → P b → Q b H') → t σ H Q
def EvA (K : PySem.W.Frag) (c : Cfg) (t : TA) (ρ : List SV) (P : List DV → Prop) : Prop := ∀ (B : Addr → Prop) (σ : St) (F H : Hp), Slots K c B F H σ ρ → Ex F H → c.M F H → ∀ Q : List V → Hp → Prop, (∀ vs ds F' H', Go c F H F' H' → RelA K F' vs ds → P ds → Q vs H') → t σ H Q
def EvO (K : PySem.W.Frag) (c : Cfg) (t : TO) (ρ : List SV) (P : Option Int → Prop) : Prop := ∀ (B : Addr → Prop) (σ : St) (F H : Hp), Slots K c B F H σ ρ → Ex F H → c.M F H → ∀ Q : Option Int → Hp → Prop, (∀ o F' H', Go c F H F' H' → P o → Q o H') → t σ H Q
def RV1 (K : PySem.W.Frag) (c : Cfg) (r : V → Hp → VK → Prop) (x : DV) (P : DV → Prop) : Prop := ∀ (F H : Hp) (v : V), Rel K F v x → Ex F H → c.M F H → ∀ Q : VK, (∀ v d F' H', Go c F H F' H' → Rel K F' v d → P d → Q v H') → r v H Q
def RV2 (K : PySem.W.Frag) (c : Cfg) (r : R2) (x y : DV) (P : DV → Prop) : Prop := ∀ (F H : Hp) (v w : V), Rel K F v x → Rel K F w y → Ex F H → c.M F H → ∀ Q : VK, (∀ v d F' H', Go c F H F' H' → Rel K F' v d → P d → Q v H') → r v w H Q
def RVA (K : PySem.W.Frag) (c : Cfg) (r : List V → Hp → VK → Prop) (xs : List DV) (P : DV → Prop) : Prop := ∀ (F H : Hp) (vs : List V), RelA K F vs xs → Ex F H → c.M F H → ∀ Q : VK, (∀ v d F' H', Go c F H F' H' → Rel K F' v d → P d → Q v H') → r vs H Q
def RVM (K : PySem.W.Frag) (c : Cfg) (r : V → List V → Hp → VK → Prop) (x : DV) (xs : List DV) (P : DV → Prop) : Prop := ∀ (F H : Hp) (v : V) (vs : List V), Rel K F v x → RelA K F vs xs → Ex F H → c.M F H → ∀ Q : VK, (∀ v d F' H', Go c F H F' H' → Rel K F' v d → P d → Q v H') → r v vs H Q

section
variable {K : PySem.W.Frag} {c : Cfg} {ρ : List SV} {P P' : DV → Prop} {t ta tb tc : TE}
theorem Ev.imp (h : Ev K c t ρ P) (k : ∀ d, P d → P' d) : Ev K c t ρ P' := fun B σ F H S e m Q q => h B σ F H S e m Q fun v d F' H' g r p => q v d F' H' g r (k d p)
theorem EvT.imp {t : TT} {P P' : Bool → Prop} (h : EvT K c t ρ P) (k : ∀ d, P d → P' d) : EvT K c t ρ P' := fun B σ F H S e m Q q => h B σ F H S e m Q fun b F' H' g p => q b F' H' g (k b p)
theorem ev_var {i : Nat} {x : DV} (e : ρ[i]? = some (.d x)) (h : P x) : Ev K c (tVar i) ρ P := fun B σ F H S ex m Q q => by
  obtain ⟨v, e1, r⟩ := S.dat e
  exact ⟨v, e1, q v x F H (Go.refl ex m) r h⟩
theorem ev_int {i : Int} (h : P (.int i)) : Ev K c (tC (.int i)) ρ P := fun _ _ F H _ ex m Q q => q _ _ F H (Go.refl ex m) (.int i) h
theorem ev_bl {b : Bool} (h : P (.bl b)) : Ev K c (tC (.bl b)) ρ P := fun _ _ F H _ ex m Q q => q _ _ F H (Go.refl ex m) (.bl b) h
theorem ev_str {x : Str} (h : P (.str x)) : Ev K c (tC (.str x)) ρ P := fun _ _ F H _ ex m Q q => q _ _ F H (Go.refl ex m) (.str x) h
theorem ev_non (h : P .non) : Ev K c (tC .non) ρ P := fun _ _ F H _ ex m Q q => q _ _ F H (Go.refl ex m) .non h
theorem ev_ty {n : String} (h : P (.ty n)) : Ev K c (tC (.ty n)) ρ P := fun _ _ F H _ ex m Q q => q _ _ F H (Go.refl ex m) (.ty n) h
theorem ev_adr {a : Addr} (h : P (.adr a)) : Ev K c (tC (.ref a)) ρ P := fun _ _ F H _ ex m Q q => q _ _ F H (Go.refl ex m) (.adr a) h
theorem ev_op {r : R2} (h : Ev K c ta ρ fun x => Ev K c tb ρ fun y => RV2 K c r x y P) : Ev K c (tOp r ta tb) ρ P := fun B σ F H S ex m Q q =>
  h B σ F H S ex m _ fun v x F1 H1 g1 r1 h1 => h1 B σ F1 H1 (S.go g1) g1.fh g1.m _ fun w y F2 H2 g2 r2 h2 =>
    h2 F2 H2 v w (r1.mono g2.ff) r2 g2.fh g2.m Q fun z d F3 H3 g3 r3 p => q z d F3 H3 ((g1.trans g2).trans g3) r3 p
theorem ev_un {r : V → Hp → VK → Prop} (h : Ev K c ta ρ fun x => RV1 K c r x P) : Ev K c (tUn r ta) ρ P := fun B σ F H S ex m Q q =>
  h B σ F H S ex m _ fun v x F1 H1 g1 r1 h1 => h1 F1 H1 v r1 g1.fh g1.m Q fun z d F3 H3 g3 r3 p => q z d F3 H3 (g1.trans g3) r3 p
theorem ev_chain {r r' : R2} (h : Ev K c ta ρ fun x => Ev K c tb ρ fun y => RV2 K c r x y fun z => ∃ k, z = .bl k ∧ if k = true then Ev K c tc ρ fun w => RV2 K c r' y w P else P (.bl false)) : Ev K c (tChain r r' ta tb tc) ρ P := fun B σ F H S ex m Q q =>
  h B σ F H S ex m _ fun v x F1 H1 g1 r1 h1 => h1 B σ F1 H1 (S.go g1) g1.fh g1.m _ fun w y F2 H2 g2 r2 h2 =>
    h2 F2 H2 v w (r1.mono g2.ff) r2 g2.fh g2.m _ fun z d F3 H3 g3 r3 p => by
      obtain ⟨k, rfl, p⟩ := p
      cases r3
      refine ⟨k, rfl, ?_⟩
      have g := (g1.trans g2).trans g3
      cases k with
      | true => exact p B σ F3 H3 (S.go g) g3.fh g3.m _ fun z2 d2 F4 H4 g4 r4 h4 => h4 F4 H4 w z2 (r2.mono (g3.ff.trans g4.ff)) r4 g4.fh g4.m Q fun z3 d3 F5 H5 g5 r5 p5 => q z3 d3 F5 H5 (g.trans (g4.trans g5)) r5 p5
      | false => exact q _ _ F3 H3 g (.bl false) p
theorem ev_andV (h : Ev K c ta ρ fun x => ∃ k, x = .bl k ∧ if k = true then Ev K c tb ρ P else P (.bl false)) : Ev K c (tAndV ta tb) ρ P := fun B σ F H S ex m Q q =>
  h B σ F H S ex m _ fun v x F1 H1 g1 r1 h1 => by
    obtain ⟨k, rfl, p⟩ := h1
    cases r1
    refine ⟨k, rfl, ?_⟩
    cases k with
    | true => exact p B σ F1 H1 (S.go g1) g1.fh g1.m Q fun z d F2 H2 g2 r2 p2 => q z d F2 H2 (g1.trans g2) r2 p2
    | false => exact q _ _ F1 H1 g1 (.bl false) p
theorem ev_orV (h : Ev K c ta ρ fun x => ∃ k, x = .bl k ∧ if k = true then P (.bl true) else Ev K c tb ρ P) : Ev K c (tOrV ta tb) ρ P := fun B σ F H S ex m Q q =>
  h B σ F H S ex m _ fun v x F1 H1 g1 r1 h1 => by
    obtain ⟨k, rfl, p⟩ := h1
    cases r1
    refine ⟨k, rfl, ?_⟩
    cases k with
    | true => exact q _ _ F1 H1 g1 (.bl true) p
    | false => exact p B σ F1 H1 (S.go g1) g1.fh g1.m Q fun z d F2 H2 g2 r2 p2 => q z d F2 H2 (g1.trans g2) r2 p2
theorem ev_notV (h : Ev K c ta ρ fun x => ∃ k, x = .bl k ∧ P (.bl (!k))) : Ev K c (tNotV ta) ρ P := fun B σ F H S ex m Q q =>
  h B σ F H S ex m _ fun v x F1 H1 g1 r1 h1 => by
    obtain ⟨k, rfl, p⟩ := h1
    cases r1
    exact ⟨k, rfl, q _ _ F1 H1 g1 (.bl _) p⟩
theorem ev_if {t : TT} (h : EvT K c t ρ fun k => if k = true then Ev K c ta ρ P else Ev K c tb ρ P) : Ev K c (tIf t ta tb) ρ P := fun B σ F H S ex m Q q =>
  h B σ F H S ex m _ fun k F1 H1 g1 h1 => by
    cases k with
    | true => exact h1 B σ F1 H1 (S.go g1) g1.fh g1.m Q fun z d F2 H2 g2 r2 p2 => q z d F2 H2 (g1.trans g2) r2 p2
    | false => exact h1 B σ F1 H1 (S.go g1) g1.fh g1.m Q fun z d F2 H2 g2 r2 p2 => q z d F2 H2 (g1.trans g2) r2 p2
/-! tests -/
theorem et_test {P : Bool → Prop} (h : Ev K c ta ρ fun x => ∃ k, x = .bl k ∧ P k) : EvT K c (tTest ta) ρ P := fun B σ F H S ex m Q q =>
  h B σ F H S ex m _ fun v x F1 H1 g1 r1 h1 => by
    obtain ⟨k, rfl, p⟩ := h1
    cases r1
    exact ⟨k, rfl, q k F1 H1 g1 p⟩
theorem et_B {P : Bool → Prop} (h : Ev K c ta ρ fun x => ∃ k, x = .bl k ∧ P k) : EvT K c (tB ta) ρ P := et_test h
theorem et_and {t u : TT} {P : Bool → Prop} (h : EvT K c t ρ fun k => if k = true then EvT K c u ρ P else P false) : EvT K c (tAnd t u) ρ P := fun B σ F H S ex m Q q =>
  h B σ F H S ex m _ fun k F1 H1 g1 h1 => by
    cases k with
    | true => exact h1 B σ F1 H1 (S.go g1) g1.fh g1.m Q fun b F2 H2 g2 p2 => q b F2 H2 (g1.trans g2) p2
    | false => exact q false F1 H1 g1 h1
theorem et_or {t u : TT} {P : Bool → Prop} (h : EvT K c t ρ fun k => if k = true then P true else EvT K c u ρ P) : EvT K c (tOr t u) ρ P := fun B σ F H S ex m Q q =>
  h B σ F H S ex m _ fun k F1 H1 g1 h1 => by
    cases k with
    | true => exact q true F1 H1 g1 h1
    | false => exact h1 B σ F1 H1 (S.go g1) g1.fh g1.m Q fun b F2 H2 g2 p2 => q b F2 H2 (g1.trans g2) p2
theorem et_not {t : TT} {P : Bool → Prop} (h : EvT K c t ρ fun k => P (!k)) : EvT K c (tNot t) ρ P := fun B σ F H S ex m Q q =>
  h B σ F H S ex m _ fun k F1 H1 g1 h1 => q _ F1 H1 g1 h1
theorem et_yes {P : Bool → Prop} (h : P true) : EvT K c tYes ρ P := fun _ _ F H _ ex m Q q => q true F H (Go.refl ex m) h
/-! arguments, tuples, lists -/
theorem ea_nil {P : List DV → Prop} (h : P []) : EvA K c tNil ρ P := fun _ _ F H _ ex m Q q => q [] [] F H (Go.refl ex m) .nil h
theorem ea_cons {tr : TA} {P : List DV → Prop} (h : Ev K c ta ρ fun x => EvA K c tr ρ fun xs => P (x :: xs)) : EvA K c (tCons ta tr) ρ P := fun B σ F H S ex m Q q =>
  h B σ F H S ex m _ fun v x F1 H1 g1 r1 h1 => h1 B σ F1 H1 (S.go g1) g1.fh g1.m _ fun vs xs F2 H2 g2 r2 p => q (v :: vs) (x :: xs) F2 H2 (g1.trans g2) (.cons (r1.mono g2.ff) r2) p
theorem new_tup {F H : Hp} {Q : VK} {vs : List V} {ds : List DV} {p : Addr} (r : RelA K F vs ds) (ex : Ex F H) (m : c.M F H) (hp : H p = none) (q : ∀ v d F' H', Go c F H F' H' → Rel K F' v d → P d → Q v H') (h : P (.tup ds)) : Q (.ref p) (upd H p (.tup vs)) := by
  have g : Go c F H (upd F p (.tup vs)) (upd H p (.tup vs)) := Go.new ex m hp
  exact q _ _ _ _ g (.tup (Evl.st_of upd_same) (r.mono g.ff)) h
theorem new_lst {F H : Hp} {Q : VK} {vs : List V} {ds : List DV} {p : Addr} (r : RelA K F vs ds) (ex : Ex F H) (m : c.M F H) (hp : H p = none) (q : ∀ v d F' H', Go c F H F' H' → Rel K F' v d → P d → Q v H') (h : P (.lst ds)) : Q (.ref p) (upd H p (.lst vs)) := by
  have g : Go c F H (upd F p (.lst vs)) (upd H p (.lst vs)) := Go.new ex m hp
  exact q _ _ _ _ g (.lst (Evl.sq_of upd_same) (r.mono g.ff)) h
theorem ev_tup {t : TA} (h : EvA K c t ρ fun xs => xs.length ≤ 1000000 ∧ P (.tup xs)) : Ev K c (tTup t) ρ P := fun B σ F H S ex m Q q =>
  h B σ F H S ex m _ fun vs xs F1 H1 g1 r1 h1 => ⟨by rw [r1.len]; exact Nat.le_trans h1.1 (by decide), fun p hp => new_tup r1 g1.fh g1.m hp (fun v d F' H' g r p => q v d F' H' (g1.trans g) r p) h1.2⟩
theorem ev_lst {t : TA} (h : EvA K c t ρ fun xs => xs.length ≤ 1000000 ∧ P (.lst xs)) : Ev K c (tLst t) ρ P := fun B σ F H S ex m Q q =>
  h B σ F H S ex m _ fun vs xs F1 H1 g1 r1 h1 => ⟨by rw [r1.len]; exact Nat.le_trans h1.1 (by decide), fun p hp => new_lst r1 g1.fh g1.m hp (fun v d F' H' g r p => q v d F' H' (g1.trans g) r p) h1.2⟩
theorem ev_cb {r : List V → Hp → VK → Prop} {t : TA} (h : EvA K c t ρ fun xs => RVA K c r xs P) : Ev K c (tCB r t) ρ P := fun B σ F H S ex m Q q =>
  h B σ F H S ex m _ fun vs xs F1 H1 g1 r1 h1 => h1 F1 H1 vs r1 g1.fh g1.m Q fun z d F3 H3 g3 r3 p => q z d F3 H3 (g1.trans g3) r3 p
/-! attributes -/
theorem ev_fld {f : Str} {C : Addr} (hc : Cls K C) (hn : NoAttr K C f) (h : Ev K c ta ρ fun x => ∃ fs d, x = .ins C fs ∧ fs.lookup f = some d ∧ P d) : Ev K c (tFld K ta f) ρ P := fun B σ F H S ex m Q q =>
  h B σ F H S ex m _ fun v x F1 H1 g1 r1 h1 => by
    obtain ⟨fs, d, rfl, hl, p⟩ := h1
    cases r1 with
    | ins ha rf =>
      obtain ⟨w, e, r⟩ := rf.look hl
      exact ⟨_, C, _, _, w, rfl, g1.fh _ _ ha, hc, hn, e, q w d F1 H1 g1 r p⟩
/-! operators on scalars -/
theorem rv_I0i {f : Int → Int → Int} {i j : Int} (h : P (.int (f i j))) : RV2 K c (rI0 fun i j => .int (f i j)) (.int i) (.int j) P := fun F H v w r1 r2 ex m Q q => by
  cases r1
  cases r2
  exact ⟨i, j, rfl, rfl, q _ _ F H (Go.refl ex m) (.int _) h⟩
theorem rv_I0b {f : Int → Int → Bool} {i j : Int} (h : P (.bl (f i j))) : RV2 K c (rI0 fun i j => .bl (f i j)) (.int i) (.int j) P := fun F H v w r1 r2 ex m Q q => by
  cases r1
  cases r2
  exact ⟨i, j, rfl, rfl, q _ _ F H (Go.refl ex m) (.bl _) h⟩
theorem rv_Ii {C : Int → Int → Prop} {f : Int → Int → Int} {i j : Int} (hc : C i j) (h : P (.int (f i j))) : RV2 K c (rI C fun i j => .int (f i j)) (.int i) (.int j) P := fun F H v w r1 r2 ex m Q q => by
  cases r1
  cases r2
  exact ⟨i, j, rfl, rfl, hc, q _ _ F H (Go.refl ex m) (.int _) h⟩
theorem rv_eqI {i j : Int} (h : P (.bl (decide (i = j)))) : RV2 K c rEq (.int i) (.int j) P := fun F H v w r1 r2 ex m Q q => by
  cases r1
  cases r2
  refine ⟨rfl, q _ _ F H (Go.refl ex m) (.bl _) ?_⟩
  have e : decide (V.int i = V.int j) = decide (i = j) := by
    by_cases z : i = j
    · subst z; simp
    · rw [decide_eq_false z, decide_eq_false (fun y => z (V.int.inj y))]
  rw [e]
  exact h
theorem rv_neI {i j : Int} (h : P (.bl (!decide (i = j)))) : RV2 K c rNe (.int i) (.int j) P := fun F H v w r1 r2 ex m Q q => by
  cases r1
  cases r2
  refine ⟨rfl, q _ _ F H (Go.refl ex m) (.bl _) ?_⟩
  have e : decide (V.int i = V.int j) = decide (i = j) := by
    by_cases z : i = j
    · subst z; simp
    · rw [decide_eq_false z, decide_eq_false (fun y => z (V.int.inj y))]
  rw [e]
  exact h
end
/-- a branch, by what the test says -/
theorem if_b {b : Bool} {A B : Prop} (h1 : b = true → A) (h2 : b = false → B) : if b = true then A else B := by
  cases b with
  | true => exact h1 rfl
  | false => exact h2 rfl
theorem if_d {p : Prop} [Decidable p] {A B : Prop} (h1 : p → A) (h2 : ¬ p → B) : if decide p = true then A else B := if_b (fun h => h1 (of_decide_eq_true h)) (fun h => h2 (of_decide_eq_false h))
theorem if_nd {p : Prop} [Decidable p] {A B : Prop} (h1 : ¬ p → A) (h2 : p → B) : if (!decide p) = true then A else B := if_b (fun h => h1 (fun y => by rw [decide_eq_true y] at h; cases h)) (fun h => h2 (by cases z : decide p with | true => exact of_decide_eq_true z | false => rw [z] at h; cases h))
end VL

set_option Elab.async false
set_option linter.all false
set_option maxRecDepth 100000
namespace VL
open PySem PySem.Spec L2
open Evl (Ex)
section
variable {K : PySem.W.Frag} {c : Cfg} {ρ : List SV} {P : DV → Prop}

/-! ### what is walked -/
structure Walks (K : PySem.W.Frag) (c : Cfg) (F : Hp) (J : It) (xs : List DV) : Prop where
  go : ∀ i H, i < xs.length → Ex F H → J.go i H
  stop : ∀ H, Ex F H → J.stop xs.length H
  yld : ∀ i x H H' F1, i < xs.length → Ex F F1 → Ex F1 H → c.M F1 H → J.yld i H x H' → ∃ F' d, xs[i]? = some d ∧ Go c F1 H F' H' ∧ Rel K F' x d
def EvI (K : PySem.W.Frag) (c : Cfg) (wi : TI) (ρ : List SV) (P : List DV → Prop) : Prop := ∀ (B : Addr → Prop) (σ : St) (F H : Hp), Slots K c B F H σ ρ → Ex F H → c.M F H → ∀ R : It → Hp → Prop, (∀ J xs F' H', Go c F H F' H' → Walks K c F' J xs → P xs → R J H') → wi σ H R
theorem walks_at {F : Hp} {J : It} {vs : List V} {ds : List DV} {G : Hp → Prop} (w : Walk J vs.length G (YAt vs)) (hG : ∀ H, Ex F H → G H) (r : RelA K F vs ds) : Walks K c F J ds := by
  refine ⟨fun i H hi e => w.goes i H (by rw [r.len]; exact hi) (hG H e), fun H e => by rw [← r.len]; exact w.stops H (hG H e), fun i x H H' F1 hi e1 e2 m y => ?_⟩
  obtain ⟨rfl, hx⟩ := w.yields i H x H' (by rw [r.len]; exact hi) (hG H (e1.trans e2)) y
  obtain ⟨d, hd, rd⟩ := r.getV hx
  exact ⟨F1, d, hd, Go.refl e2 m, rd.mono e1⟩
theorem ei_list {tl : TE} {P : List DV → Prop} (h : Ev K c tl ρ fun x => ∃ ds, x = .lst ds ∧ P ds) : EvI K c (iList K tl) ρ P := fun B σ F H S ex m R q =>
  h B σ F H S ex m _ fun v x F1 H1 g1 r1 h1 => by
    obtain ⟨ds, rfl, p⟩ := h1
    cases r1 with
    | lst hs ra => exact ⟨_, rfl, ⟨_, Evl.ex_l g1.fh hs⟩, q _ ds F1 H1 g1 (walks_at walk_list (fun H e => Evl.ex_l e hs) ra) p⟩
theorem ei_tup {tl : TE} {P : List DV → Prop} (h : Ev K c tl ρ fun x => ∃ ds, x = .tup ds ∧ P ds) : EvI K c (iTup K tl) ρ P := fun B σ F H S ex m R q =>
  h B σ F H S ex m _ fun v x F1 H1 g1 r1 h1 => by
    obtain ⟨ds, rfl, p⟩ := h1
    cases r1 with
    | tup hs ra => exact ⟨_, rfl, ⟨_, Evl.ex_t g1.fh hs⟩, q _ ds F1 H1 g1 (walks_at walk_tup (fun H e => Evl.ex_t e hs) ra) p⟩
/-- the ints lo, lo + 1, .. -/
def rngD (lo : Int) (n : Nat) : List DV := (List.range n).map fun i => .int (lo + (i : Nat))
theorem rngD_get {lo : Int} {n i : Nat} (h : i < n) : (rngD lo n)[i]? = some (.int (lo + (i : Nat))) := by
  unfold rngD
  rw [List.getElem?_map, List.getElem?_range h]
  rfl
theorem rngD_of {lo : Int} {n i : Nat} {x : DV} (h : (rngD lo n)[i]? = some x) : i < n ∧ x = .int (lo + (i : Nat)) := by
  have hl : i < n := by
    have := (List.getElem?_eq_some_iff.mp h).1
    unfold rngD at this
    rw [List.length_map, List.length_range] at this
    exact this
  rw [rngD_get hl] at h
  exact ⟨hl, (Option.some.inj h).symm⟩
theorem rngD_len {lo : Int} {n : Nat} : (rngD lo n).length = n := by
  unfold rngD
  rw [List.length_map, List.length_range]
theorem walks_rng {F : Hp} {lo : Int} {n : Nat} : Walks K c F (Itr lo n) (rngD lo n) := by
  refine ⟨fun i H hi _ => walk_range.goes i H (by rw [rngD_len] at hi; exact hi) trivial, fun H _ => by rw [rngD_len]; exact walk_range.stops H trivial, fun i x H H' F1 hi e1 e2 m y => ?_⟩
  rw [rngD_len] at hi
  obtain ⟨rfl, hx⟩ := walk_range.yields i H x H' hi trivial y
  exact ⟨F1, _, rngD_get hi, Go.refl e2 m, by rw [hx]; exact .int _⟩
theorem ei_rng1 {ta : TA} {P : List DV → Prop} (h : EvA K c ta ρ fun xs => ∃ n : Int, xs = [.int n] ∧ -(2 ^ 62) ≤ n ∧ n < 2 ^ 62 ∧ P (rngD 0 n.toNat)) : EvI K c (iRng1 ta) ρ P := fun B σ F H S ex m R q =>
  h B σ F H S ex m _ fun vs xs F1 H1 g1 r1 h1 => by
    obtain ⟨n, rfl, a1, a2, p⟩ := h1
    cases r1 with
    | cons ra rb =>
      cases ra
      cases rb
      exact ⟨n, rfl, a1, a2, q _ _ F1 H1 g1 walks_rng p⟩
theorem ei_rng2 {ta : TA} {P : List DV → Prop} (h : EvA K c ta ρ fun xs => ∃ i n : Int, xs = [.int i, .int n] ∧ (-(2 ^ 62) ≤ i ∧ i < 2 ^ 62 ∧ -(2 ^ 62) ≤ n ∧ n < 2 ^ 62) ∧ P (rngD i (n - i).toNat)) : EvI K c (iRng2 ta) ρ P := fun B σ F H S ex m R q =>
  h B σ F H S ex m _ fun vs xs F1 H1 g1 r1 h1 => by
    obtain ⟨i, n, rfl, a1, p⟩ := h1
    cases r1 with
    | cons ra rb =>
      cases ra
      cases rb with
      | cons rc rd =>
        cases rc
        cases rd
        exact ⟨i, n, rfl, a1, q _ _ F1 H1 g1 walks_rng p⟩
/-- the signs of a text, each a text -/
def signsD (z : List Nat) : List DV := z.map fun c => .str ⟨#[c]⟩
theorem ei_str {te : TE} {P : List DV → Prop} (h : Ev K c te ρ fun x => ∃ z, x = .str z ∧ P (signsD z.cps.toList)) : EvI K c (iStr te) ρ P := fun B σ F H S ex m R q =>
  h B σ F H S ex m _ fun v x F1 H1 g1 r1 h1 => by
    obtain ⟨z, rfl, p⟩ := h1
    cases r1
    have hl : (signsD z.cps.toList).length = z.cps.size := by simp [signsD]
    refine ⟨z, rfl, q _ _ F1 H1 g1 ⟨fun i H hi _ => walk_str.goes i H (by rw [← hl]; exact hi) trivial, fun H _ => by rw [hl]; exact walk_str.stops H trivial, fun i x H H' F1 hi e1 e2 m y => ?_⟩ p⟩
    obtain ⟨rfl, k, hk, rfl⟩ := walk_str.yields i H x H' (by rw [← hl]; exact hi) trivial y
    refine ⟨F1, .str ⟨#[k]⟩, ?_, Go.refl e2 m, .str _⟩
    unfold signsD
    rw [List.getElem?_map, Array.getElem?_toList, hk]
    rfl

/-! ### targets -/
def EvG (K : PySem.W.Frag) (c : Cfg) (g : TG) (x : DV) (ρ : List SV) (N : List SV → Prop) : Prop := ∀ (B : Addr → Prop) (σ : St) (F H : Hp) (v : V), Slots K c B F H σ ρ → Ex F H → c.M F H → Rel K F v x → ∀ Q : St → Hp → Prop, (∀ σ' ρ' F' H', Go c F H F' H' → Slots K c B F' H' σ' ρ' → N ρ' → Q σ' H') → g v σ H Q
def EvGs (K : PySem.W.Frag) (c : Cfg) (g : TGs) (xs : List DV) (ρ : List SV) (N : List SV → Prop) : Prop := ∀ (B : Addr → Prop) (σ : St) (F H : Hp) (vs : List V), Slots K c B F H σ ρ → Ex F H → c.M F H → RelA K F vs xs → ∀ Q : St → Hp → Prop, (∀ σ' ρ' F' H', Go c F H F' H' → Slots K c B F' H' σ' ρ' → N ρ' → Q σ' H') → g vs σ H Q
theorem eg_name {i : Nat} {x : DV} {N : List SV → Prop} (h : N (ρ.set i (.d x))) : EvG K c (gName i) x ρ N := fun B σ F H v S ex m r Q q => q _ _ F H (Go.refl ex m) (S.put i r) h
theorem egs_nil {N : List SV → Prop} (h : N ρ) : EvGs K c gNil [] ρ N := fun B σ F H v S ex m r Q q => by
  cases r
  exact ⟨rfl, q _ _ F H (Go.refl ex m) S h⟩
theorem egs_cons {t : TG} {u : TGs} {x : DV} {xs : List DV} {N : List SV → Prop} (h : EvG K c t x ρ fun ρ1 => EvGs K c u xs ρ1 N) : EvGs K c (gCons t u) (x :: xs) ρ N := fun B σ F H vs S ex m r Q q => by
  cases r with
  | cons r1 r2 =>
    exact ⟨_, _, rfl, h B σ F H _ S ex m r1 _ fun σ1 ρ1 F1 H1 g1 S1 h1 => h1 B σ1 F1 H1 _ S1 g1.fh g1.m (r2.mono g1.ff) Q fun σ2 ρ2 F2 H2 g2 S2 h2 => q σ2 ρ2 F2 H2 (g1.trans g2) S2 h2⟩
theorem eg_tup {t : TGs} {n : Nat} {x : DV} {N : List SV → Prop} (h : ∃ xs, x = .tup xs ∧ xs.length = n ∧ EvGs K c t xs ρ N) : EvG K c (gTup K n t) x ρ N := fun B σ F H v S ex m r Q q => by
  obtain ⟨xs, rfl, hl, h⟩ := h
  cases r with
  | tup hs ra => exact ⟨_, _, rfl, Evl.ex_t ex hs, by rw [ra.len, hl], h B σ F H _ S ex m ra Q q⟩

/-! ### comprehensions -/
theorem wipe_set (σ : St) (i : Nat) (x : Option V) : ∀ vs : List Nat, i ∈ vs → wipe (σ.set i x) vs = wipe σ vs
  | [], h => nomatch h
  | v :: vs, h => by
    show (wipe (σ.set i x) vs).set v none = (wipe σ vs).set v none
    by_cases e : i ∈ vs
    · rw [wipe_set σ i x vs e]
    · have hv : i = v := by
        cases h with
        | head => rfl
        | tail _ h => exact absurd h e
      subst hv
      clear h
      have key : ∀ (vs : List Nat) (σ : St), i ∉ vs → wipe (σ.set i x) vs = (wipe σ vs).set i x := by
        intro vs
        induction vs with
        | nil => intro σ _; rfl
        | cons w vs ih =>
          intro σ hn
          show (wipe (σ.set i x) vs).set w none = ((wipe σ vs).set w none).set i x
          rw [ih σ (fun z => hn (List.mem_cons_of_mem _ z))]
          exact List.set_comm _ _ (fun z => hn (by rw [z]; exact List.mem_cons_self))
      rw [key vs σ e, List.set_set]
theorem wipe_wipe (σ : St) : ∀ vs : List Nat, wipe (wipe σ vs) vs = wipe σ vs := by
  have key : ∀ (ws vs : List Nat), (∀ v ∈ ws, v ∈ vs) → wipe (wipe σ ws) vs = wipe σ vs := by
    intro ws
    induction ws with
    | nil => intro vs _; rfl
    | cons w ws ih =>
      intro vs hv
      show wipe ((wipe σ ws).set w none) vs = wipe σ vs
      rw [wipe_set _ _ _ _ (hv w List.mem_cons_self), ih vs fun v h => hv v (List.mem_cons_of_mem _ h)]
  exact fun vs => key vs vs fun _ h => h
/-- a target that stores in these slots alone -/
def OwnG (g : TG) (vs : List Nat) : Prop := ∀ v (σ : St) (H : Hp) (Q : St → Hp → Prop), g v σ H Q → g v σ H fun σ2 H2 => wipe σ2 vs = wipe σ vs ∧ Q σ2 H2
def OwnGs (g : TGs) (vs : List Nat) : Prop := ∀ v (σ : St) (H : Hp) (Q : St → Hp → Prop), g v σ H Q → g v σ H fun σ2 H2 => wipe σ2 vs = wipe σ vs ∧ Q σ2 H2
theorem own_name {i : Nat} {vs : List Nat} (h : i ∈ vs) : OwnG (gName i) vs := fun _ σ _ _ q => ⟨wipe_set σ i _ vs h, q⟩
theorem own_nil {vs : List Nat} : OwnGs gNil vs := fun _ _ _ _ q => ⟨q.1, rfl, q.2⟩
theorem own_cons {t : TG} {u : TGs} {vs : List Nat} (h1 : OwnG t vs) (h2 : OwnGs u vs) (m1 : ∀ v σ H (Q Q' : St → Hp → Prop), (∀ σ' H', Q σ' H' → Q' σ' H') → t v σ H Q → t v σ H Q')
    (m2 : ∀ v σ H (Q Q' : St → Hp → Prop), (∀ σ' H', Q σ' H' → Q' σ' H') → u v σ H Q → u v σ H Q') : OwnGs (gCons t u) vs := fun xs σ H Q q => by
  obtain ⟨v, r, e, q⟩ := q
  refine ⟨v, r, e, ?_⟩
  refine m1 _ _ _ _ _ (fun σ' H' z => ?_) (h1 _ _ _ _ q)
  obtain ⟨z1, z2⟩ := z
  exact m2 _ _ _ _ _ (fun σ2 H2 y => ⟨y.1.trans z1, y.2⟩) (h2 _ _ _ _ z2)
theorem mono_name {i : Nat} : ∀ v σ H (Q Q' : St → Hp → Prop), (∀ σ' H', Q σ' H' → Q' σ' H') → gName i v σ H Q → gName i v σ H Q' := fun _ _ _ _ _ k q => k _ _ q
theorem mono_nil : ∀ v σ H (Q Q' : St → Hp → Prop), (∀ σ' H', Q σ' H' → Q' σ' H') → gNil v σ H Q → gNil v σ H Q' := fun _ _ _ _ _ k q => ⟨q.1, k _ _ q.2⟩
theorem mono_cons {t : TG} {u : TGs} (m1 : ∀ v σ H (Q Q' : St → Hp → Prop), (∀ σ' H', Q σ' H' → Q' σ' H') → t v σ H Q → t v σ H Q')
    (m2 : ∀ v σ H (Q Q' : St → Hp → Prop), (∀ σ' H', Q σ' H' → Q' σ' H') → u v σ H Q → u v σ H Q') : ∀ v σ H (Q Q' : St → Hp → Prop), (∀ σ' H', Q σ' H' → Q' σ' H') → gCons t u v σ H Q → gCons t u v σ H Q' := fun xs σ H Q Q' k q => by
  obtain ⟨v, r, e, q⟩ := q
  exact ⟨v, r, e, m1 _ _ _ _ _ (fun σ' H' z => m2 _ _ _ _ _ k z) q⟩
theorem own_tup {t : TGs} {n : Nat} {vs : List Nat} (h : OwnGs t vs) : OwnG (gTup K n t) vs := fun v σ H Q q => by
  obtain ⟨a, xs, e, h1, h2, q⟩ := q
  exact ⟨a, xs, e, h1, h2, h _ _ _ _ q⟩
theorem mono_tup {t : TGs} {n : Nat} (m : ∀ v σ H (Q Q' : St → Hp → Prop), (∀ σ' H', Q σ' H' → Q' σ' H') → t v σ H Q → t v σ H Q') : ∀ v σ H (Q Q' : St → Hp → Prop), (∀ σ' H', Q σ' H' → Q' σ' H') → gTup K n t v σ H Q → gTup K n t v σ H Q' := fun v σ H Q Q' k q => by
  obtain ⟨a, xs, e, h1, h2, q⟩ := q
  exact ⟨a, xs, e, h1, h2, m _ _ _ _ _ k q⟩
theorem ev_lc {wi : TI} {g : TG} {tt : TT} {te : TE} {vs : List Nat} (ho : OwnG g vs)
    (h : EvI K c wi ρ fun xs => xs.length ≤ 1000000 ∧ ∃ Inv : Nat → List DV → Prop, Inv 0 [] ∧
      (∀ i x acc, xs[i]? = some x → Inv i acc → acc.length ≤ i → EvG K c g x (wipeR ρ vs) fun ρ2 => EvT K c tt ρ2 fun b => if b = true then Ev K c te ρ2 fun y => Inv (i + 1) (acc ++ [y]) else Inv (i + 1) acc) ∧
      ∀ acc, Inv xs.length acc → acc.length ≤ xs.length → P (.lst acc)) : Ev K c (tLc wi g tt te vs) ρ P := fun B σ F H S ex m Q q =>
  h B σ F H S ex m _ fun J xs F1 H1 g1 w h1 => by
    obtain ⟨hz, Inv, i0, hs, hd⟩ := h1
    intro D hD
    have hT : ¬ c.T D := fun t => c.al F1 H1 D g1.m t hD
    have hFn : F1 D = none := by
      cases z : F1 D with
      | none => rfl
      | some o => exact absurd (g1.fh D o z) (by rw [hD]; exact fun y => nomatch y)
    refine ⟨fun i n H2 => n = xs.length - i ∧ i ≤ xs.length ∧ ∃ F2 ws acc, Go c F1 H1 F2 H2 ∧ H2 D = some (.lst ws) ∧ F2 D = none ∧ RelA K F2 ws acc ∧ Inv i acc ∧ acc.length ≤ i, ⟨xs.length, by simp, Nat.zero_le _, F1, [], [], Go.newM g1.fh g1.m hD, upd_same, hFn, .nil, i0, Nat.le_refl _⟩, ?_⟩
    rintro i n H2 ⟨rfl, hi, F2, ws, acc, g2, hl, hf2, ra, hI, hlen⟩
    by_cases hlt : i < xs.length
    · refine .inr ⟨w.go i H2 hlt (g2.ff.trans g2.fh), fun H3 => ∃ F2 ws acc, Go c F1 H1 F2 H3 ∧ H3 D = some (.lst ws) ∧ F2 D = none ∧ RelA K F2 ws acc ∧ Inv (i + 1) acc ∧ acc.length ≤ i + 1, fun H3 p => ⟨xs.length - (i + 1), by omega, rfl, hlt, p⟩, fun x H3 y => ?_⟩
      obtain ⟨F3, d, hx, g3, rx⟩ := w.yld i x H2 H3 F2 hlt g2.ff g2.fh g2.m y
      have hW : Slots K c B F3 H3 (wipe σ vs) (wipeR ρ vs) := ((S.go g1).go (g2.trans g3)).wipes vs
      have e1 := hs i d acc hx hI hlen B (wipe σ vs) F3 H3 x hW g3.fh g3.m rx (fun σ2 H4 => tt σ2 H4 fun b H5 => if b = true then te σ2 H5 fun y H6 => ∃ acc, H6 D = some (.lst acc) ∧ acc.length < sizeLine ∧ (∃ F2 ws acc_1, Go c F1 H1 F2 (upd H6 D (.lst (acc ++ [y]))) ∧ (upd H6 D (.lst (acc ++ [y]))) D = some (.lst ws) ∧ F2 D = none ∧ RelA K F2 ws acc_1 ∧ Inv (i + 1) acc_1 ∧ acc_1.length ≤ i + 1) else ∃ F2 ws acc, Go c F1 H1 F2 H5 ∧ H5 D = some (.lst ws) ∧ F2 D = none ∧ RelA K F2 ws acc ∧ Inv (i + 1) acc ∧ acc.length ≤ i + 1) fun σ2 ρ2 F4 H4 g4 S4 h4 => ?_
      · have e2 := ho x (wipe σ vs) H3 _ e1
        rw [wipe_wipe] at e2
        exact e2
      · refine h4 B σ2 F4 H4 S4 g4.fh g4.m _ fun b F5 H5 g5 h5 => ?_
        have g35 := (g3.trans g4).trans g5
        cases b with
        | true =>
          refine h5 B σ2 F5 H5 (S4.go g5) g5.fh g5.m _ fun y dy F6 H6 g6 ry hI2 => ?_
          have g36 := g35.trans g6
          have hl6 := g36.hh D _ hl hT
          have hf6 := g36.fr D _ hl hf2
          refine ⟨ws, hl6, ?_, F6, ws ++ [y], acc ++ [dy], ?_, upd_same, hf6, (ra.mono g36.ff).snoc ry, hI2, by rw [List.length_append]; simp; omega⟩
          · rw [ra.len]
            exact Nat.lt_of_le_of_lt (Nat.le_trans hlen (Nat.le_trans hi hz)) (by decide)
          · have gg := g2.trans g36
            refine ⟨gg.ff, fun a u e => ?_, fun a u e t => ?_, fun a u e => ?_, gg.fr, ?_⟩
            · rw [upd_ne (ne_of_none e hf6)]
              exact gg.fh a u e
            · rw [upd_ne (ne_of_none e hD)]
              exact gg.hh a u e t
            · rw [upd_ne (ne_of_none e hD)]
              exact gg.dom a u e
            · refine c.st _ _ _ _ (fun a u ta q => ?_) (fun _ _ q => q) gg.m
              rw [upd_ne (show a ≠ D from fun z => hT (by rw [← z]; exact ta))]
              exact q
        | false => exact ⟨F5, ws, acc, g2.trans g35, g35.hh D _ hl hT, g35.fr D _ hl hf2, ra.mono g35.ff, h5, by omega⟩
    · have ei : i = xs.length := by omega
      subst ei
      refine .inl ⟨w.stop H2 (g2.ff.trans g2.fh), ?_⟩
      have gN : Go c F1 H1 (upd F2 D (.lst ws)) H2 := by
        refine ⟨fun a u e => ?_, fun a u e => ?_, g2.hh, g2.dom, fun a u e z => ?_, c.st _ _ _ _ (fun _ _ _ q => q) (fun a ta q => ?_) g2.m⟩
        · rw [upd_ne (ne_of_none e hFn)]
          exact g2.ff a u e
        · unfold upd at e
          split at e
          · rename_i z
            subst z
            cases e
            exact hl
          · exact g2.fh a u e
        · rw [upd_ne (ne_of_none e hD)]
          exact g2.fr a u e z
        · rw [upd_ne (show a ≠ D from fun z => hT (by rw [← z]; exact ta))]
          exact q
      refine q _ _ _ _ (g1.trans gN) (.lst (Evl.sq_of upd_same) (ra.mono (Evl.Ex.new hf2))) (hd acc hI hlen)
end
end VL

set_option Elab.async false
set_option linter.all false
set_option maxRecDepth 100000
namespace VL
open PySem PySem.Spec L2
open Evl (Ex)
/-! ### statements, from the def's start (F0, H0) on; S: what else may change -/
structure Gs (c : Cfg) (S : Addr → Prop) (F0 H0 F H : Hp) : Prop where
  ff : Ex F0 F
  fh : Ex F H
  hh : ∀ a o, H0 a = some o → ¬ c.T a → ¬ S a → H a = some o
  dom : ∀ a o, H0 a = some o → H a ≠ none
  fr : ∀ a o, H0 a = some o → F0 a = none → F a = none
  m : c.M F H
theorem Gs.refl {c : Cfg} {S : Addr → Prop} {F H : Hp} (e : Ex F H) (m : c.M F H) : Gs c S F H F H := ⟨Evl.Ex.refl F, e, fun _ _ h _ _ => h, fun a o h z => (by rw [h] at z; cases z), fun _ _ _ h => h, m⟩
theorem Gs.go {c : Cfg} {S : Addr → Prop} {F0 H0 F H F' H' : Hp} (a : Gs c S F0 H0 F H) (b : Go c F H F' H') : Gs c S F0 H0 F' H' := by
  refine ⟨a.ff.trans b.ff, b.fh, fun x o h t s => b.hh x o (a.hh x o h t s) t, fun x o h => ?_, fun x o h z => ?_, b.m⟩
  · cases q : H x with
    | none => exact absurd q (a.dom x o h)
    | some o1 => exact b.dom x o1 q
  · cases q : H x with
    | none => exact absurd q (a.dom x o h)
    | some o1 => exact b.fr x o1 q (a.fr x o h z)
theorem Gs.toGo {c : Cfg} {F0 H0 F H : Hp} (a : Gs c (fun _ => False) F0 H0 F H) : Go c F0 H0 F H := ⟨a.ff, a.fh, fun x o h t => a.hh x o h t id, a.dom, a.fr, a.m⟩
def Own (S : Addr → Prop) (H0 : Hp) : Addr → Prop := fun a => H0 a = none ∨ S a
structure At (K : PySem.W.Frag) (c : Cfg) (S : Addr → Prop) (F0 H0 F H : Hp) (σ : St) (ρ : List SV) : Prop where
  g : Gs c S F0 H0 F H
  s : Slots K c (Own S H0) F H σ ρ
structure Fi where
  nx : List SV → Prop
  rt : DV → Prop := fun _ => False
  bk : List SV → Prop := fun _ => False
  ct : List SV → Prop := fun _ => False
def Sx (K : PySem.W.Frag) (c : Cfg) (S : Addr → Prop) (F0 H0 : Hp) (t : TS) (ρ : List SV) (N : Fi) : Prop :=
  ∀ (σ : St) (F H : Hp) (D : Ends), At K c S F0 H0 F H σ ρ →
    (∀ σ' ρ' F' H', At K c S F0 H0 F' H' σ' ρ' → Ex F F' → N.nx ρ' → D.nx σ' H') →
    (∀ v d F' H', Gs c S F0 H0 F' H' → Rel K F' v d → N.rt d → D.rt v H') →
    (∀ σ' ρ' F' H', At K c S F0 H0 F' H' σ' ρ' → Ex F F' → N.bk ρ' → D.bk σ' H') →
    (∀ σ' ρ' F' H', At K c S F0 H0 F' H' σ' ρ' → Ex F F' → N.ct ρ' → D.ct σ' H') → t D σ H
section
variable {K : PySem.W.Frag} {c : Cfg} {S : Addr → Prop} {F0 H0 : Hp} {ρ : List SV} {N : Fi} {t u : TS} {te : TE}
theorem At.go {F H F' H' : Hp} {σ : St} (a : At K c S F0 H0 F H σ ρ) (g : Go c F H F' H') : At K c S F0 H0 F' H' σ ρ := ⟨a.g.go g, a.s.go g⟩
theorem Ex.rfl' (F : Hp) : Ex F F := fun _ _ h => h
theorem sx_next (h : N.nx ρ) : Sx K c S F0 H0 tNext ρ N := fun σ F H D a k1 _ _ _ => k1 σ ρ F H a (Ex.rfl' F) h
theorem sx_break (h : N.bk ρ) : Sx K c S F0 H0 tBreak ρ N := fun σ F H D a _ _ k3 _ => k3 σ ρ F H a (Ex.rfl' F) h
theorem sx_cont (h : N.ct ρ) : Sx K c S F0 H0 tCont ρ N := fun σ F H D a _ _ _ k4 => k4 σ ρ F H a (Ex.rfl' F) h
theorem sx_seq (h : Sx K c S F0 H0 t ρ { N with nx := fun ρ' => Sx K c S F0 H0 u ρ' N }) : Sx K c S F0 H0 (tSeq t u) ρ N := fun σ F H D a k1 k2 k3 k4 =>
  h σ F H { D with nx := u D } a (fun σ' ρ' F' H' a' e q => q σ' F' H' D a' (fun σ2 ρ2 F2 H2 a2 e2 q2 => k1 σ2 ρ2 F2 H2 a2 (e.trans e2) q2) k2 (fun σ2 ρ2 F2 H2 a2 e2 q2 => k3 σ2 ρ2 F2 H2 a2 (e.trans e2) q2) (fun σ2 ρ2 F2 H2 a2 e2 q2 => k4 σ2 ρ2 F2 H2 a2 (e.trans e2) q2)) k2 k3 k4
/-- what holds between two statements -/
theorem sx_mid (Mid : List SV → Prop) (h : Sx K c S F0 H0 t ρ { N with nx := Mid }) (k : ∀ ρ', Mid ρ' → Sx K c S F0 H0 u ρ' N) : Sx K c S F0 H0 (tSeq t u) ρ N := sx_seq fun σ F H D a k1 k2 k3 k4 => h σ F H D a (fun σ' ρ' F' H' a' e q => k1 σ' ρ' F' H' a' e (k ρ' q)) k2 k3 k4
theorem sx_ret (h : Ev K c te ρ N.rt) : Sx K c S F0 H0 (tRet te) ρ N := fun σ F H D a _ k2 _ _ =>
  h _ σ F H a.s a.g.fh a.g.m _ fun v d F' H' g r p => k2 v d F' H' (a.g.go g) r p
theorem sx_retN (h : N.rt .non) : Sx K c S F0 H0 tRetN ρ N := fun σ F H D a _ k2 _ _ => k2 .non .non F H a.g .non h
theorem sx_drop (h : Ev K c te ρ fun _ => N.nx ρ) : Sx K c S F0 H0 (tDrop te) ρ N := fun σ F H D a k1 _ _ _ =>
  h _ σ F H a.s a.g.fh a.g.m _ fun v d F' H' g r p => k1 σ ρ F' H' (a.go g) g.ff p
theorem sx_asg {g : TG} (h : Ev K c te ρ fun x => EvG K c g x ρ N.nx) : Sx K c S F0 H0 (tAsg te g) ρ N := fun σ F H D a k1 _ _ _ =>
  h _ σ F H a.s a.g.fh a.g.m _ fun v d F1 H1 g1 r p => p _ σ F1 H1 v (a.go g1).s g1.fh g1.m r _ fun σ2 ρ2 F2 H2 g2 S2 q => k1 σ2 ρ2 F2 H2 ⟨a.g.go (g1.trans g2), S2⟩ (g1.ff.trans g2.ff) q
theorem sx_if {tc : TT} (h : EvT K c tc ρ fun b => if b = true then Sx K c S F0 H0 t ρ N else Sx K c S F0 H0 u ρ N) : Sx K c S F0 H0 (tIfS tc t u) ρ N := fun σ F H D a k1 k2 k3 k4 =>
  h _ σ F H a.s a.g.fh a.g.m _ fun b F1 H1 g1 p => by
    have l1 : ∀ σ' ρ' F' H', At K c S F0 H0 F' H' σ' ρ' → Ex F1 F' → N.nx ρ' → D.nx σ' H' := fun σ2 ρ2 F2 H2 a2 e2 q2 => k1 σ2 ρ2 F2 H2 a2 (g1.ff.trans e2) q2
    have l3 : ∀ σ' ρ' F' H', At K c S F0 H0 F' H' σ' ρ' → Ex F1 F' → N.bk ρ' → D.bk σ' H' := fun σ2 ρ2 F2 H2 a2 e2 q2 => k3 σ2 ρ2 F2 H2 a2 (g1.ff.trans e2) q2
    have l4 : ∀ σ' ρ' F' H', At K c S F0 H0 F' H' σ' ρ' → Ex F1 F' → N.ct ρ' → D.ct σ' H' := fun σ2 ρ2 F2 H2 a2 e2 q2 => k4 σ2 ρ2 F2 H2 a2 (g1.ff.trans e2) q2
    cases b with
    | true => exact p σ F1 H1 D (a.go g1) l1 k2 l3 l4
    | false => exact p σ F1 H1 D (a.go g1) l1 k2 l3 l4
/-- if test: .., where the test is known to fail -/
theorem sx_guard {tc : TT} (h : EvT K c tc ρ fun b => b = false) (k : N.nx ρ) : Sx K c S F0 H0 (tIfS tc t tNext) ρ N := sx_if (h.imp fun b hb => by
  subst hb
  rw [if_neg Bool.false_ne_true]
  exact sx_next k)
theorem sx_guardq {tc : TT} (h : EvT K c tc ρ fun b => b = false) (k : Sx K c S F0 H0 u ρ N) : Sx K c S F0 H0 (tSeq (tIfS tc t tNext) u) ρ N := sx_seq (sx_guard (N := { N with nx := fun ρ' => Sx K c S F0 H0 u ρ' N }) h k)
/-- x, y = a, b -/
theorem sx_par {i j : Nat} {ta : TA} (h : EvA K c ta ρ fun ds => ∃ x y, ds = [x, y] ∧ N.nx ((ρ.set i (.d x)).set j (.d y))) : Sx K c S F0 H0 (tPar i j ta) ρ N := fun σ F H D a k1 _ _ _ =>
  h _ σ F H a.s a.g.fh a.g.m _ fun vs ds F1 H1 g1 r1 p => by
    obtain ⟨x, y, rfl, p⟩ := p
    cases r1 with
    | cons rx r2 =>
      cases r2 with
      | cons ry r3 =>
        cases r3
        exact ⟨_, _, rfl, k1 _ _ F1 H1 ⟨a.g.go g1, ((a.s.go g1).put i rx).put j ry⟩ g1.ff p⟩
theorem sx_aug {i : Nat} {ti : TIp} (h : ∃ x, ρ[i]? = some (.d x) ∧ Ev K c te ρ fun y => RV2 K c ti x y fun z => N.nx (ρ.set i (.d z))) : Sx K c S F0 H0 (tAug i te ti) ρ N := fun σ F H D a k1 _ _ _ => by
  obtain ⟨x, e, h⟩ := h
  obtain ⟨v, e1, r⟩ := a.s.dat e
  exact ⟨v, e1, h _ σ F H a.s a.g.fh a.g.m _ fun w y F1 H1 g1 r1 p => p F1 H1 v w (r.mono g1.ff) r1 g1.fh g1.m _ fun z d F2 H2 g2 r2 q =>
    k1 _ _ F2 H2 ⟨(a.g.go g1).go g2, ((a.s.go g1).go g2).put i r2⟩ (g1.ff.trans g2.ff) q⟩
theorem sx_for {wi : TI} {g : TG} {tb : TS}
    (h : EvI K c wi ρ fun xs => ∃ Inv : Nat → List SV → Prop, Inv 0 ρ ∧
      (∀ i x ρ', xs[i]? = some x → Inv i ρ' → EvG K c g x ρ' fun ρ2 => Sx K c S F0 H0 tb ρ2 { N with nx := Inv (i + 1), ct := Inv (i + 1), bk := N.nx }) ∧ ∀ ρ', Inv xs.length ρ' → N.nx ρ') :
    Sx K c S F0 H0 (tFor wi g tb) ρ N := fun σ F H D a k1 k2 k3 k4 =>
  h _ σ F H a.s a.g.fh a.g.m _ fun J xs F1 H1 g1 w h1 => by
    obtain ⟨Inv, i0, hs, hd⟩ := h1
    refine ⟨fun i n σ2 H2 => n = xs.length - i ∧ i ≤ xs.length ∧ ∃ F2 ρ2, At K c S F0 H0 F2 H2 σ2 ρ2 ∧ Ex F1 F2 ∧ Inv i ρ2, ⟨xs.length, by simp, Nat.zero_le _, F1, ρ, a.go g1, Ex.rfl' F1, i0⟩, ?_⟩
    rintro i n σ2 H2 ⟨rfl, hi, F2, ρ2, a2, e2, hI⟩
    by_cases hlt : i < xs.length
    · refine .inr ⟨w.go i H2 hlt (e2.trans a2.g.fh), fun σ3 H3 => ∃ F3 ρ3, At K c S F0 H0 F3 H3 σ3 ρ3 ∧ Ex F1 F3 ∧ Inv (i + 1) ρ3, fun σ3 H3 p => ⟨xs.length - (i + 1), by omega, rfl, hlt, p⟩, fun x H3 y => ?_⟩
      obtain ⟨F3, d, hx, g3, rx⟩ := w.yld i x H2 H3 F2 hlt e2 a2.g.fh a2.g.m y
      refine hs i d ρ2 hx hI _ σ2 F3 H3 x (a2.go g3).s g3.fh g3.m rx _ fun σ4 ρ4 F4 H4 g4 S4 p => ?_
      have e14 : Ex F1 F4 := e2.trans (g3.ff.trans g4.ff)
      exact p σ4 F4 H4 _ ⟨(a2.g.go g3).go g4, S4⟩ (fun σ5 ρ5 F5 H5 a5 e5 q => ⟨F5, ρ5, a5, e14.trans e5, q⟩) k2
        (fun σ5 ρ5 F5 H5 a5 e5 q => k1 σ5 ρ5 F5 H5 a5 ((g1.ff.trans e14).trans e5) q) (fun σ5 ρ5 F5 H5 a5 e5 q => ⟨F5, ρ5, a5, e14.trans e5, q⟩)
    · have ei : i = xs.length := by omega
      subst ei
      exact .inl ⟨w.stop H2 (e2.trans a2.g.fh), k1 σ2 ρ2 F2 H2 a2 (g1.ff.trans e2) (hd ρ2 hI)⟩
theorem sx_while {tc : TT} {tb : TS} (Inv : Nat → List SV → Prop) (h0 : ∃ m, Inv m ρ)
    (hs : ∀ m ρ', Inv m ρ' → EvT K c tc ρ' fun b => if b = true then Sx K c S F0 H0 tb ρ' { N with nx := fun ρ2 => ∃ m', m' < m ∧ Inv m' ρ2, ct := fun ρ2 => ∃ m', m' < m ∧ Inv m' ρ2, bk := N.nx } else N.nx ρ') :
    Sx K c S F0 H0 (tWhile tc tb) ρ N := fun σ F H D a k1 k2 k3 k4 => by
  obtain ⟨m0, h0⟩ := h0
  refine ⟨fun m σ2 H2 => ∃ F2 ρ2, At K c S F0 H0 F2 H2 σ2 ρ2 ∧ Ex F F2 ∧ Inv m ρ2, ⟨m0, F, ρ, a, Ex.rfl' F, h0⟩, ?_⟩
  rintro m σ2 H2 ⟨F2, ρ2, a2, e2, hI⟩
  refine hs m ρ2 hI _ σ2 F2 H2 a2.s a2.g.fh a2.g.m _ fun b F3 H3 g3 p => ?_
  cases b with
  | true =>
    refine ⟨fun σ3 H3 => ∃ m', m' < m ∧ ∃ F3 ρ3, At K c S F0 H0 F3 H3 σ3 ρ3 ∧ Ex F F3 ∧ Inv m' ρ3, fun σ3 H3 q => q, ?_⟩
    have e3 : Ex F F3 := e2.trans g3.ff
    exact p σ2 F3 H3 _ (a2.go g3) (fun σ5 ρ5 F5 H5 a5 e5 ⟨m', l, q⟩ => ⟨m', l, F5, ρ5, a5, e3.trans e5, q⟩) k2
      (fun σ5 ρ5 F5 H5 a5 e5 q => k1 σ5 ρ5 F5 H5 a5 (e3.trans e5) q) (fun σ5 ρ5 F5 H5 a5 e5 ⟨m', l, q⟩ => ⟨m', l, F5, ρ5, a5, e3.trans e5, q⟩)
  | false => exact k1 σ2 ρ2 F3 H3 (a2.go g3) (e2.trans g3.ff) p
theorem Sx.imp {N' : Fi} (h : Sx K c S F0 H0 t ρ N) (k1 : ∀ ρ', N.nx ρ' → N'.nx ρ') (k2 : ∀ d, N.rt d → N'.rt d) (k3 : ∀ ρ', N.bk ρ' → N'.bk ρ') (k4 : ∀ ρ', N.ct ρ' → N'.ct ρ') : Sx K c S F0 H0 t ρ N' := fun σ F H D a l1 l2 l3 l4 =>
  h σ F H D a (fun σ' ρ' F' H' a e q => l1 σ' ρ' F' H' a e (k1 _ q)) (fun v d F' H' g r q => l2 v d F' H' g r (k2 _ q)) (fun σ' ρ' F' H' a e q => l3 σ' ρ' F' H' a e (k3 _ q)) (fun σ' ρ' F' H' a e q => l4 σ' ρ' F' H' a e (k4 _ q))

/-! ### lists of one's own -/
/-- a list of one's own becomes still -/
theorem Slots.freeze {F H : Hp} {σ : St} {B : Addr → Prop} (s : Slots K c B F H σ ρ) {i : Nat} {ds : List DV} (e : ρ[i]? = some (.own (.lst ds))) :
    ∃ l vs, σ[i]? = some (some (.ref l)) ∧ H l = some (.lst vs) ∧ F l = none ∧ B l ∧ ¬ c.T l ∧ Slots K c B (upd F l (.lst vs)) H σ (ρ.set i (.d (.lst ds))) := by
  obtain ⟨v, e1, l, o, rfl, hl, hf, hT, hB, r⟩ := s.ok i _ e
  cases o with
  | lst vs =>
    have r : RelA K F vs ds := r
    have ex : Ex F (upd F l (.lst vs)) := Evl.Ex.new hf
    refine ⟨l, vs, e1, hl, hf, hB, hT, by rw [List.length_set]; exact s.len, fun j x q => ?_, fun j k xs ys hjk q1 q2 => ?_⟩
    · by_cases z : i = j
      · subst z
        have hlt : i < ρ.length := (List.getElem?_eq_some_iff.mp e).1
        rw [List.getElem?_set_self hlt] at q
        cases q
        exact ⟨_, e1, _, rfl, .lst (Evl.sq_of upd_same) (r.mono ex)⟩
      · rw [List.getElem?_set_ne z] at q
        obtain ⟨w, e2, q2⟩ := s.ok j x q
        refine ⟨w, e2, ?_⟩
        cases x with
        | non => exact q2
        | any => trivial
        | d y =>
          obtain ⟨y1, y2, y3⟩ := q2
          exact ⟨y1, y2, y3.mono ex⟩
        | own y =>
          obtain ⟨l2, o2, f1, f2, f3, f4, f5, f6⟩ := q2
          refine ⟨l2, o2, f1, f2, ?_, f4, f5, f6.mono ex⟩
          have hne : l2 ≠ l := by
            intro y
            have := s.dj i j _ _ z e q
            rw [e1, e2, f1, y] at this
            exact this rfl
          rw [upd_ne hne]
          exact f3
    · have n1 : i ≠ j := by
        intro z
        subst z
        have hlt : i < ρ.length := (List.getElem?_eq_some_iff.mp e).1
        rw [List.getElem?_set_self hlt] at q1
        cases q1
      have n2 : i ≠ k := by
        intro z
        subst z
        have hlt : i < ρ.length := (List.getElem?_eq_some_iff.mp e).1
        rw [List.getElem?_set_self hlt] at q2
        cases q2
      rw [List.getElem?_set_ne n1] at q1
      rw [List.getElem?_set_ne n2] at q2
      exact s.dj j k xs ys hjk q1 q2
  | _ => exact absurd r (fun z => z)
theorem sx_freeze {i : Nat} {ds : List DV} (e : ρ[i]? = some (.own (.lst ds))) (h : Sx K c (fun _ => False) F0 H0 t (ρ.set i (.d (.lst ds))) N) : Sx K c (fun _ => False) F0 H0 t ρ N := fun σ F H D a k1 k2 k3 k4 => by
  obtain ⟨l, vs, e1, hl, hf, hB, hT, s⟩ := a.s.freeze e
  have hB0 : H0 l = none := by
    rcases hB with h | h
    · exact h
    · exact h.elim
  have ex : Ex F (upd F l (.lst vs)) := Evl.Ex.new hf
  have g : Gs c (fun _ => False) F0 H0 (upd F l (.lst vs)) H := by
    refine ⟨a.g.ff.trans ex, fun x o q => ?_, a.g.hh, a.g.dom, fun x o q z => ?_, c.st _ _ _ _ (fun _ _ _ q => q) (fun x tx q => ?_) a.g.m⟩
    · unfold upd at q
      split at q
      · rename_i z
        subst z
        cases q
        exact hl
      · exact a.g.fh x o q
    · rw [upd_ne (ne_of_none q hB0)]
      exact a.g.fr x o q z
    · rw [upd_ne (show x ≠ l from fun z => hT (by rw [← z]; exact tx))]
      exact q
  exact h σ _ H D ⟨g, s⟩ (fun σ' ρ' F' H' a' e' q => k1 σ' ρ' F' H' a' (ex.trans e') q) k2 (fun σ' ρ' F' H' a' e' q => k3 σ' ρ' F' H' a' (ex.trans e') q) (fun σ' ρ' F' H' a' e' q => k4 σ' ρ' F' H' a' (ex.trans e') q)
end
end VL

set_option Elab.async false
set_option linter.all false
set_option maxRecDepth 100000
namespace VL
open PySem PySem.Spec L2
open Evl (Ex)
section
variable {K : PySem.W.Frag} {c : Cfg} {S : Addr → Prop} {F0 H0 : Hp} {ρ : List SV} {N : Fi} {t u : TS} {te ta tb : TE} {P : DV → Prop}
/-! ### new objects that may still change -/
def EvN (K : PySem.W.Frag) (c : Cfg) (t : TE) (ρ : List SV) (P : OV → Prop) : Prop := ∀ (B : Addr → Prop) (σ : St) (F H : Hp), Slots K c B F H σ ρ → Ex F H → c.M F H → ∀ Q : VK,
  (∀ l o x F' H', Go c F H F' H' → H' l = some o → H l = none → F' l = none → RelO K F' o x → P x → Q (.ref l) H') → t σ H Q
theorem none_of_ex {F H : Hp} {a : Addr} (e : Ex F H) (h : H a = none) : F a = none := by
  cases z : F a with
  | none => rfl
  | some o => exact absurd (e a o z) (by rw [h]; exact fun y => nomatch y)
theorem Go.back {F H F' H' : Hp} (g : Go c F H F' H') {a : Addr} (h : H' a = none) : H a = none := by
  cases z : H a with
  | none => rfl
  | some o => exact absurd h (g.dom a o z)
theorem en_lst {tl : TA} {P : OV → Prop} (h : EvA K c tl ρ fun xs => xs.length ≤ 1000000 ∧ P (.lst xs)) : EvN K c (tLst tl) ρ P := fun B σ F H S ex m Q q =>
  h B σ F H S ex m _ fun vs xs F1 H1 g1 r1 h1 => ⟨by rw [r1.len]; exact Nat.le_trans h1.1 (by decide), fun p hp =>
    q p _ (.lst xs) F1 _ (g1.trans (Go.newM g1.fh g1.m hp)) upd_same (g1.back hp) (none_of_ex g1.fh hp) r1 h1.2⟩
theorem en_lc {wi : TI} {g : TG} {tt : TT} {te : TE} {vs : List Nat} {P : OV → Prop} (ho : OwnG g vs)
    (h : EvI K c wi ρ fun xs => xs.length ≤ 1000000 ∧ ∃ Inv : Nat → List DV → Prop, Inv 0 [] ∧
      (∀ i x acc, xs[i]? = some x → Inv i acc → acc.length ≤ i → EvG K c g x (wipeR ρ vs) fun ρ2 => EvT K c tt ρ2 fun b => if b = true then Ev K c te ρ2 fun y => Inv (i + 1) (acc ++ [y]) else Inv (i + 1) acc) ∧
      ∀ acc, Inv xs.length acc → acc.length ≤ xs.length → P (.lst acc)) : EvN K c (tLc wi g tt te vs) ρ P := fun B σ F H S ex m Q q =>
  h B σ F H S ex m _ fun J xs F1 H1 g1 w h1 => by
    obtain ⟨hz, Inv, i0, hs, hd⟩ := h1
    intro D hD
    have hT : ¬ c.T D := fun t => c.al F1 H1 D g1.m t hD
    have hFn : F1 D = none := none_of_ex g1.fh hD
    refine ⟨fun i n H2 => n = xs.length - i ∧ i ≤ xs.length ∧ ∃ F2 ws acc, Go c F1 H1 F2 H2 ∧ H2 D = some (.lst ws) ∧ F2 D = none ∧ RelA K F2 ws acc ∧ Inv i acc ∧ acc.length ≤ i, ⟨xs.length, by simp, Nat.zero_le _, F1, [], [], Go.newM g1.fh g1.m hD, upd_same, hFn, .nil, i0, Nat.le_refl _⟩, ?_⟩
    rintro i n H2 ⟨rfl, hi, F2, ws, acc, g2, hl, hf2, ra, hI, hlen⟩
    by_cases hlt : i < xs.length
    · refine .inr ⟨w.go i H2 hlt (g2.ff.trans g2.fh), fun H3 => ∃ F2 ws acc, Go c F1 H1 F2 H3 ∧ H3 D = some (.lst ws) ∧ F2 D = none ∧ RelA K F2 ws acc ∧ Inv (i + 1) acc ∧ acc.length ≤ i + 1, fun H3 p => ⟨xs.length - (i + 1), by omega, rfl, hlt, p⟩, fun x H3 y => ?_⟩
      obtain ⟨F3, d, hx, g3, rx⟩ := w.yld i x H2 H3 F2 hlt g2.ff g2.fh g2.m y
      have hW : Slots K c B F3 H3 (wipe σ vs) (wipeR ρ vs) := ((S.go g1).go (g2.trans g3)).wipes vs
      have e1 := hs i d acc hx hI hlen B (wipe σ vs) F3 H3 x hW g3.fh g3.m rx (fun σ2 H4 => tt σ2 H4 fun b H5 => if b = true then te σ2 H5 fun y H6 => ∃ acc, H6 D = some (.lst acc) ∧ acc.length < sizeLine ∧ (∃ F2 ws acc_1, Go c F1 H1 F2 (upd H6 D (.lst (acc ++ [y]))) ∧ (upd H6 D (.lst (acc ++ [y]))) D = some (.lst ws) ∧ F2 D = none ∧ RelA K F2 ws acc_1 ∧ Inv (i + 1) acc_1 ∧ acc_1.length ≤ i + 1) else ∃ F2 ws acc, Go c F1 H1 F2 H5 ∧ H5 D = some (.lst ws) ∧ F2 D = none ∧ RelA K F2 ws acc ∧ Inv (i + 1) acc ∧ acc.length ≤ i + 1) fun σ2 ρ2 F4 H4 g4 S4 h4 => ?_
      · have e2 := ho x (wipe σ vs) H3 _ e1
        rw [wipe_wipe] at e2
        exact e2
      · refine h4 B σ2 F4 H4 S4 g4.fh g4.m _ fun b F5 H5 g5 h5 => ?_
        have g35 := (g3.trans g4).trans g5
        cases b with
        | true =>
          refine h5 B σ2 F5 H5 (S4.go g5) g5.fh g5.m _ fun y dy F6 H6 g6 ry hI2 => ?_
          have g36 := g35.trans g6
          have hl6 := g36.hh D _ hl hT
          have hf6 := g36.fr D _ hl hf2
          refine ⟨ws, hl6, ?_, F6, ws ++ [y], acc ++ [dy], ?_, upd_same, hf6, (ra.mono g36.ff).snoc ry, hI2, by rw [List.length_append]; simp; omega⟩
          · rw [ra.len]
            exact Nat.lt_of_le_of_lt (Nat.le_trans hlen (Nat.le_trans hi hz)) (by decide)
          · have gg := g2.trans g36
            refine ⟨gg.ff, fun a u e => ?_, fun a u e t => ?_, fun a u e => ?_, gg.fr, ?_⟩
            · rw [upd_ne (ne_of_none e hf6)]
              exact gg.fh a u e
            · rw [upd_ne (ne_of_none e hD)]
              exact gg.hh a u e t
            · rw [upd_ne (ne_of_none e hD)]
              exact gg.dom a u e
            · refine c.st _ _ _ _ (fun a u ta q => ?_) (fun _ _ q => q) gg.m
              rw [upd_ne (show a ≠ D from fun z => hT (by rw [← z]; exact ta))]
              exact q
        | false => exact ⟨F5, ws, acc, g2.trans g35, g35.hh D _ hl hT, g35.fr D _ hl hf2, ra.mono g35.ff, h5, by omega⟩
    · have ei : i = xs.length := by omega
      subst ei
      exact .inl ⟨w.stop H2 (g2.ff.trans g2.fh), q D _ (.lst acc) F2 H2 (g1.trans g2) hl (g1.back hD) hf2 ra (hd acc hI hlen)⟩
theorem go_still {F H F' H' : Hp} {l : Addr} {o : HO} (m : c.M F H) (g : Go c F H F' H') (hl : H' l = some o) (h0 : H l = none) (hf : F' l = none) : Go c F H (upd F' l o) H' := by
  refine ⟨g.ff.trans (Evl.Ex.new hf), fun a u e => ?_, g.hh, g.dom, fun a u e z => ?_, c.st _ _ _ _ (fun _ _ _ q => q) (fun a ta q => ?_) g.m⟩
  · unfold upd at e
    split at e
    · rename_i z
      subst z
      cases e
      exact hl
    · exact g.fh a u e
  · rw [upd_ne (ne_of_none e h0)]
    exact g.fr a u e z
  · rw [upd_ne (show a ≠ l from fun z => c.al F H a m ta (by rw [z]; exact h0))]
    exact q
/-- a new list as data -/
theorem ev_en (h : EvN K c te ρ fun x => ∃ ds, x = .lst ds ∧ P (.lst ds)) : Ev K c te ρ P := fun B σ F H S ex m Q q =>
  h B σ F H S ex m Q fun l o x F' H' g hl h0 hf r p => by
    obtain ⟨ds, rfl, p⟩ := p
    cases o with
    | lst vs => exact q _ _ _ _ (go_still m g hl h0 hf) (.lst (Evl.sq_of upd_same) (RelA.mono (Evl.Ex.new hf) r)) p
    | _ => exact absurd r (fun z => z)
/-- the deterministic cases of a comprehension -/
theorem en_lcMap {wi : TI} {g : TG} {te : TE} {vs : List Nat} {P : OV → Prop} (ho : OwnG g vs) 
    (h : EvI K c wi ρ fun xs => xs.length ≤ 1000000 ∧ ∃ f : DV → DV, (∀ x ∈ xs, EvG K c g x (wipeR ρ vs) fun ρ2 => Ev K c te ρ2 fun y => y = f x) ∧ P (.lst (xs.map f))) : EvN K c (tLc wi g tYes te vs) ρ P :=
  en_lc ho fun B σ F H S ex m R q => h B σ F H S ex m R fun J xs F' H' g' w p => by
    obtain ⟨hz, f, hf, p⟩ := p
    refine q J xs F' H' g' w ⟨hz, fun i acc => acc = (xs.take i).map f, rfl, fun i x acc hx e _ => ?_, fun acc e _ => ?_⟩
    · intro B σ F H v S ex m r Q q
      refine hf x (List.mem_of_getElem? hx) B σ F H v S ex m r Q fun σ2 ρ2 F2 H2 g2 S2 k => q σ2 ρ2 F2 H2 g2 S2 (et_yes ?_)
      show Ev K c te ρ2 _
      refine k.imp fun y hy => ?_
      show acc ++ [y] = (xs.take (i + 1)).map f
      rw [e, hy, List.take_add_one, hx, List.map_append]
      rfl
    · rw [e, List.take_length]
      exact p
/-- .. with a test -/
theorem en_lcFil {wi : TI} {g : TG} {tt : TT} {te : TE} {vs : List Nat} {P : OV → Prop} (ho : OwnG g vs) 
    (h : EvI K c wi ρ fun xs => xs.length ≤ 1000000 ∧ ∃ (p : DV → Bool) (f : DV → DV), (∀ x ∈ xs, EvG K c g x (wipeR ρ vs) fun ρ2 => EvT K c tt ρ2 fun b => b = p x ∧ (b = true → Ev K c te ρ2 fun y => y = f x)) ∧ P (.lst ((xs.filter p).map f))) : EvN K c (tLc wi g tt te vs) ρ P :=
  en_lc ho fun B σ F H S ex m R q => h B σ F H S ex m R fun J xs F' H' g' w pp => by
    obtain ⟨hz, p, f, hf, pp⟩ := pp
    refine q J xs F' H' g' w ⟨hz, fun i acc => acc = ((xs.take i).filter p).map f, rfl, fun i x acc hx e _ => ?_, fun acc e _ => ?_⟩
    · intro B σ F H v S ex m r Q q
      refine hf x (List.mem_of_getElem? hx) B σ F H v S ex m r Q fun σ2 ρ2 F2 H2 g2 S2 k => q σ2 ρ2 F2 H2 g2 S2 (k.imp fun b hb => ?_)
      obtain ⟨rfl, hb⟩ := hb
      cases hp : p x with
      | true =>
        show Ev K c te ρ2 _
        refine (hb hp).imp fun y hy => ?_
        show acc ++ [y] = ((xs.take (i + 1)).filter p).map f
        rw [e, hy, List.take_add_one, hx]
        simp [hp]
      | false =>
        show acc = ((xs.take (i + 1)).filter p).map f
        rw [e, List.take_add_one, hx]
        simp [hp]
    · rw [e, List.take_length]
      exact pp

/-! ### calls -/
def SpD (K : PySem.W.Frag) (f : Cfg → List DV → (DV → Prop) → Prop) : Sp := fun vs H Q _ => ∃ (c : Cfg) (F : Hp) (ds : List DV) (P : DV → Prop), Ex F H ∧ c.M F H ∧ RelA K F vs ds ∧ f c ds P ∧ ∀ v d F' H', Go c F H F' H' → Rel K F' v d → P d → Q v H'
theorem ev_call {f : Cfg → List DV → (DV → Prop) → Prop} {E : XK} {tl : TA} (h : EvA K c tl ρ fun ds => f c ds P) : Ev K c (tCall (SpD K f) [] E tl) ρ P := fun B σ F H S ex m Q q =>
  h B σ F H S ex m _ fun vs ds F1 H1 g1 r1 h1 => ⟨c, F1, ds, P, g1.fh, g1.m, by rw [List.append_nil]; exact r1, h1, fun v d F2 H2 g2 r2 p => q v d F2 H2 (g1.trans g2) r2 p⟩
theorem ev_meth {f : Cfg → List DV → (DV → Prop) → Prop} {E : XK} {tl : TA} {C : Addr} {m : Str} (h : Ev K c ta ρ fun x => ∃ fs, x = .ins C fs ∧ fs.lookup m = none ∧ EvA K c tl ρ fun ds => f c (x :: ds) P) : Ev K c (tMeth C m (SpD K f) [] E ta tl) ρ P := fun B σ F H S ex mm Q q =>
  h B σ F H S ex mm _ fun v x F1 H1 g1 r1 h1 => by
    obtain ⟨fs, rfl, hl, h2⟩ := h1
    cases r1 with
    | ins ha rf => exact ⟨_, _, _, rfl, g1.fh _ _ ha, rf.no hl, h2 B σ F1 H1 (S.go g1) g1.fh g1.m _ fun vs ds F2 H2 g2 r2 h3 =>
        ⟨c, F2, _ :: ds, P, g2.fh, g2.m, by rw [List.append_nil]; exact .cons (.ins (g2.ff _ _ ha) (rf.mono g2.ff)) r2, h3, fun v d F3 H3 g3 r3 p => q v d F3 H3 ((g1.trans g2).trans g3) r3 p⟩⟩
/-- a def's slots at its start -/
def slots0 (n : Nat) (ds : List DV) : List SV := ds.map .d ++ List.replicate (n - ds.length) .non
theorem slots_start {B : Addr → Prop} {F H : Hp} {N : List Str} {vs : List V} {ds : List DV} (r : RelA K F vs ds) : Slots K c B F H (L2.start N vs) (slots0 N.length ds) := by
  have hlen := r.len
  have hno : ∀ (j : Nat) (x : OV), (slots0 N.length ds)[j]? ≠ some (.own x) := by
    intro j x e
    unfold slots0 at e
    rw [List.getElem?_append] at e
    split at e
    · rw [List.getElem?_map] at e
      cases z : ds[j]? with
      | none => rw [z] at e; cases e
      | some y => rw [z] at e; cases e
    · rw [List.getElem?_replicate] at e
      split at e <;> cases e
  refine ⟨by unfold L2.start slots0; simp [hlen], fun i s e => ?_, fun i j xs ys _ e1 => absurd e1 (hno i xs)⟩
  unfold slots0 at e
  unfold L2.start
  rw [List.getElem?_append] at e ⊢
  rw [List.length_map] at e ⊢
  rw [hlen]
  split at e
  · rename_i hi
    rw [if_pos hi]
    rw [List.getElem?_map] at e ⊢
    cases z : ds[i]? with
    | none => rw [z] at e; cases e
    | some y =>
      rw [z] at e
      cases e
      obtain ⟨v, e1, r1⟩ := r.get z
      exact ⟨some v, by rw [e1]; rfl, v, rfl, r1⟩
  · rename_i hi
    rw [if_neg hi]
    rw [List.getElem?_replicate] at e ⊢
    split at e
    · rename_i h2
      cases e
      exact ⟨none, by rw [if_pos h2], rfl⟩
    · cases e
theorem fn_pure {Pg : Program} {w : World} {mg : Str → Option Value} {base : Heap} {x qual : Str} {st : Stmt} {fa : Addr} {fd : FuncData} {Ns ps : List Str} {k : Nat} {f : Cfg → List DV → (DV → Prop) → Prop} (F : Fun K x qual st fa fd) (S : FnScope Ns ps (defScope st)) (len : ∀ c ds P, f c ds P → ds.length = ps.length)
    (hbody : ∀ (cdv : Value) (A : Around) (outer : List Env) (s : Shared) (H : Hp) (E : XK), Room k (A.deeper (PyProof.Rows.envOfC qual (defScope st) s.heap.objs.size fa cdv)) →
      ∃ t, PSs (cxOf CX0 Pg w K mg base Ns qual (defScope st) fa cdv A outer s H E).nox (defBody st) t ∧ ∀ (c : Cfg) (F : Hp) (ds : List DV) (P : DV → Prop), f c ds P → Sx K c (fun _ => False) F H t (slots0 Ns.length ds) { nx := fun _ => P .non, rt := P }) :
    FnOk Pg w K mg base CX0 (k + 1) fa fd ps (SpD K f) := by
  refine F.ok S (fun vs H Q E h => ?_) (fun cdv A outer s H vs Q E hr h => ?_)
  · obtain ⟨c, Fr, ds, P, _, _, r, h, _⟩ := h
    rw [r.len]
    exact len c ds P h
  · obtain ⟨c, Fr, ds, P, ex, m, r, h, q⟩ := h
    obtain ⟨t, ht, hs⟩ := hbody cdv A outer s H E hr
    refine ⟨t, ht, ?_⟩
    refine hs c Fr ds P h (L2.start Ns vs) Fr H _ ⟨Gs.refl ex m, slots_start r⟩ (fun σ' ρ' F' H' a _ p => ?_) (fun v d F' H' g r p => q v d F' H' g.toGo r p) (fun _ _ _ _ _ _ p => p.elim) (fun _ _ _ _ _ _ p => p.elim)
    exact q .non .non F' H' a.g.toGo .non p
end
/-- a def that may be called by its name -/
structure Cal (Pg : Program) (w : World) (K : PySem.W.Frag) (mg : Str → Option Value) (base : Heap) (k : Nat) (x : Str) (sp : Sp) : Prop where
  ex : ∃ (f : Addr) (fd : FuncData) (ps : List Str), FnOk Pg w K mg base CX0 k f fd ps sp ∧ mg x = some (.ref f) ∧ PySem.W.keepIn K (.ref f) = true ∧ Binds K fd ps []
/-- a method of the class at C -/
structure Met (Pg : Program) (w : World) (K : PySem.W.Frag) (mg : Str → Option Value) (base : Heap) (k : Nat) (C : Addr) (m : Str) (sp : Sp) : Prop where
  ex : ∃ (f : Addr) (fd : FuncData) (ps : List Str), Cls K C ∧ Meth K C m f ∧ FnOk Pg w K mg base CX0 k f fd ps sp ∧ Binds K fd ps []
section
variable {X : Cx} {k j : Nat} {C : Addr} {x m : Str} {sp : Sp} {p pos apos : Pos} {e o : Expr} {es : List Expr} {ta : TE} {t : TA}
theorem pe_cal (c : Cal X.prog X.w X.K X.mg X.base k x sp) (hr : Room j X.A) (hk : k ≤ j) (hg : Gl X x) (ha : PA X (e :: es) t) (hdb : (x == ("__debug__" : Str)) = false := by decide)
    (h1 : starEach (e :: es) X.env = (false, eval e X.env) :: starEach es X.env := by rfl) (h2 : (backTo pos (starEach es X.env)).any (·.1) = false := by rfl) : PE X (.Call (.Name x p) (e :: es) [] pos) (tCall sp [] E0 t) := by
  obtain ⟨f, fd, ps, F, hm, kp, b⟩ := c.ex
  exact pe_call F (hr.mono hk) hg hm kp b .nil pass0 ha hdb h1 h2
end
end VL

set_option Elab.async false
set_option linter.all false
set_option maxRecDepth 10000
/-! the mathematics of numbers -/
namespace NM
open PySem
/-! ### choices -/
def ch : Nat → Nat → Nat
  | _, 0 => 1
  | 0, _ + 1 => 0
  | n + 1, k + 1 => ch n k + ch n (k + 1)
theorem ch_zero (n : Nat) : ch n 0 = 1 := by cases n <;> rfl
theorem ch_gt : ∀ (n k : Nat), n < k → ch n k = 0
  | 0, k + 1, _ => rfl
  | n + 1, k + 1, h => by
    show ch n k + ch n (k + 1) = 0
    rw [ch_gt n k (by omega), ch_gt n (k + 1) (by omega)]
theorem ch_self : ∀ n : Nat, ch n n = 1
  | 0 => rfl
  | n + 1 => by
    show ch n n + ch n (n + 1) = 1
    rw [ch_self n, ch_gt n (n + 1) (by omega)]
theorem ch_sym : ∀ (n k : Nat), k ≤ n → ch n k = ch n (n - k)
  | 0, 0, _ => rfl
  | n + 1, 0, _ => by
    rw [Nat.sub_zero, ch_self, ch_zero]
  | n + 1, k + 1, h => by
    by_cases e : k = n
    · subst e
      rw [Nat.sub_self, ch_self, ch_zero]
    · have h1 := ch_sym n k (by omega)
      have h2 := ch_sym n (k + 1) (by omega)
      have e1 : n + 1 - (k + 1) = (n - (k + 1)) + 1 := by omega
      rw [e1]
      show ch n k + ch n (k + 1) = ch n (n - (k + 1)) + ch n (n - (k + 1) + 1)
      rw [show n - (k + 1) + 1 = n - k by omega, ← h1, ← h2, Nat.add_comm]
/-- (k + 1) C(n, k + 1) = (n - k) C(n, k) -/
theorem ch_step : ∀ (n k : Nat), (k + 1) * ch n (k + 1) = (n - k) * ch n k
  | 0, k => by
    show (k + 1) * 0 = (0 - k) * ch 0 k
    rw [Nat.zero_sub, Nat.zero_mul, Nat.mul_zero]
  | n + 1, 0 => by
    have := ch_step n 0
    rw [ch_zero, Nat.sub_zero] at this
    show (0 + 1) * (ch n 0 + ch n (0 + 1)) = (n + 1 - 0) * ch (n + 1) 0
    rw [Nat.mul_add, this, ch_zero, ch_zero]
    omega
  | n + 1, k + 1 => by
    have h1 := ch_step n k
    have h2 := ch_step n (k + 1)
    show (k + 1 + 1) * (ch n (k + 1) + ch n (k + 1 + 1)) = (n + 1 - (k + 1)) * (ch n k + ch n (k + 1))
    rw [Nat.mul_add, h2]
    by_cases h : k + 1 ≤ n
    · obtain ⟨m, rfl⟩ : ∃ m, n = k + 1 + m := ⟨n - (k + 1), by omega⟩
      rw [show k + 1 + m - k = m + 1 by omega] at h1
      rw [show k + 1 + m - (k + 1) = m by omega, show k + 1 + m + 1 - (k + 1) = m + 1 by omega, Nat.mul_add, ← h1]
      simp only [Nat.add_mul, Nat.one_mul]
      omega
    · by_cases e : n = k
      · subst e
        rw [ch_gt n (n + 1) (by omega)]
        simp
      · rw [ch_gt n (k + 1) (by omega), ch_gt n k (by omega)]
        simp
theorem fp_nat : ∀ (k n : Nat), k ≤ n → Builtin.Math.fallingProduct (n : Int) k = ((ch n k : Nat) : Int) * Builtin.Math.fallingProduct (k : Int) k := by
  have key : ∀ (k n : Nat), k ≤ n → ∀ j, j ≤ k → True := fun _ _ _ _ _ => trivial
  -- n falling k = C(n, k) * k!
  have fact : ∀ k : Nat, Builtin.Math.fallingProduct ((k + 1 : Nat) : Int) (k + 1) = ((k + 1 : Nat) : Int) * Builtin.Math.fallingProduct (k : Int) k := by
    have gen : ∀ (j : Nat) (m : Nat), j ≤ m → Builtin.Math.fallingProduct ((m + 1 : Nat) : Int) (j + 1) = ((m + 1 : Nat) : Int) * Builtin.Math.fallingProduct (m : Int) j := by
      intro j
      induction j with
      | zero =>
        intro m _
        rw [PySem.W.mc_fp_one, PySem.W.mc_fp_zero, Int.mul_one]
      | succ j ih =>
        intro m h
        rw [PySem.W.mc_fp_succ, ih m (by omega), PySem.W.mc_fp_succ, Int.mul_assoc]
        congr 2
        push_cast
        omega
    exact fun k => gen k k (Nat.le_refl _)
  intro k
  induction k with
  | zero =>
    intro n _
    rw [PySem.W.mc_fp_zero, PySem.W.mc_fp_zero, ch_zero]
    rfl
  | succ k ih =>
    intro n h
    rw [PySem.W.mc_fp_succ, ih n (by omega), fact k]
    have s := ch_step n k
    have e : ((n : Int) - (k : Int)) = ((n - k : Nat) : Int) := by omega
    rw [e]
    have s' : (((n - k) * ch n k : Nat) : Int) = (((k + 1) * ch n (k + 1) : Nat) : Int) := by rw [s]
    rw [Int.natCast_mul, Int.natCast_mul] at s'
    calc ((ch n k : Nat) : Int) * Builtin.Math.fallingProduct (k : Int) k * ((n - k : Nat) : Int)
        = (((n - k : Nat) : Int) * ((ch n k : Nat) : Int)) * Builtin.Math.fallingProduct (k : Int) k := by
          rw [Int.mul_right_comm, Int.mul_comm ((ch n k : Nat) : Int)]
      _ = (((k + 1 : Nat) : Int) * ((ch n (k + 1) : Nat) : Int)) * Builtin.Math.fallingProduct (k : Int) k := by rw [s']
      _ = _ := by rw [Int.mul_comm ((k + 1 : Nat) : Int), Int.mul_assoc]
theorem comb_le (n k : Nat) (h : k ≤ n) : PySem.W.mcComb (n : Int) (k : Int) = ((ch n k : Nat) : Int) := by
  by_cases hk : k ≤ n - k
  · have hm : min (k : Int) ((n : Int) - (k : Int)) = (k : Int) := by omega
    rw [PySem.W.mcComb_at (by omega) (by omega) hm, Int.toNat_natCast, fp_nat k n h]
    refine Int.mul_ediv_cancel _ ?_
    have := PySem.W.mc_fp_pos (n := (k : Int)) k (Int.le_refl _)
    omega
  · have hm : min (k : Int) ((n : Int) - (k : Int)) = ((n - k : Nat) : Int) := by omega
    rw [PySem.W.mcComb_at (by omega) (by omega) hm, Int.toNat_natCast, fp_nat (n - k) n (by omega), ch_sym n k h]
    refine Int.mul_ediv_cancel _ ?_
    have := PySem.W.mc_fp_pos (n := ((n - k : Nat) : Int)) (n - k) (Int.le_refl _)
    omega
theorem comb_eq (n k : Nat) : PySem.W.mcComb (n : Int) (k : Int) = ((ch n k : Nat) : Int) := by
  by_cases h : k ≤ n
  · exact comb_le n k h
  · rw [PySem.W.mcComb_above (by omega), ch_gt n k (by omega)]
    rfl
/-- choices of ints: 0 where there are none -/
def chI (n k : Int) : Nat := if k < 0 ∨ k > n then 0 else ch n.toNat k.toNat
theorem chI_nat (n k : Nat) : chI n k = ch n k := by
  unfold chI
  by_cases h : k > n
  · rw [if_pos (by omega), ch_gt n k h]
  · rw [if_neg (by omega), Int.toNat_natCast, Int.toNat_natCast]
theorem chI_neg {n k : Int} (h : k < 0) : chI n k = 0 := if_pos (.inl h)
theorem chI_pascal (n : Nat) (hn : 1 ≤ n) (k : Int) : chI n k = chI ((n : Int) - 1) k + chI ((n : Int) - 1) (k - 1) := by
  obtain ⟨m, rfl⟩ : ∃ m, n = m + 1 := ⟨n - 1, by omega⟩
  have e : (((m + 1 : Nat) : Int) - 1) = (m : Int) := by omega
  rw [e]
  by_cases h : k < 0
  · rw [chI_neg h, chI_neg h, chI_neg (by omega)]
  · obtain ⟨j, rfl⟩ := Int.eq_ofNat_of_zero_le (show 0 ≤ k by omega)
    cases j with
    | zero => rw [chI_neg (show ((0 : Nat) : Int) - 1 < 0 by decide), chI_nat, chI_nat, ch_zero, ch_zero]
    | succ j =>
      have e2 : (((j + 1 : Nat) : Int) - 1) = (j : Int) := by omega
      rw [e2, chI_nat, chI_nat, chI_nat]
      show ch m j + ch m (j + 1) = _
      rw [Nat.add_comm]
theorem sum_ch : ∀ n : Nat, ((List.range (n + 1)).map fun k => ch n k).sum = 2 ^ n := by
  have shift : ∀ (n m : Nat), ((List.range (m + 1)).map fun k => ch (n + 1) k).sum + ch n (m + 1 - 1) = 2 * ((List.range (m + 1)).map fun k => ch n k).sum := by
    intro n m
    induction m with
    | zero =>
      simp [ch_zero]
    | succ m ih =>
      rw [List.range_succ, List.map_append, List.sum_append, List.map_append, List.sum_append]
      simp only [List.map_cons, List.map_nil, List.sum_cons, List.sum_nil, Nat.add_zero]
      rw [Nat.mul_add, ← ih]
      have : ch (n + 1) (m + 1) = ch n m + ch n (m + 1) := rfl
      rw [this]
      simp only [Nat.add_sub_cancel]
      omega
  intro n
  induction n with
  | zero => decide
  | succ n ih =>
    have s := shift n (n + 1)
    rw [show n + 1 + 1 - 1 = n + 1 by omega, ch_gt n (n + 1) (by omega), Nat.add_zero] at s
    rw [s, List.range_succ, List.map_append, List.sum_append, ih]
    simp only [List.map_cons, List.map_nil, List.sum_cons, List.sum_nil, Nat.add_zero]
    rw [ch_gt n (n + 1) (by omega), Nat.pow_succ]
    omega
theorem snoc_ind {α : Type} {p : List α → Prop} (h0 : p []) (hs : ∀ l a, p l → p (l ++ [a])) : ∀ l, p l := by
  have key : ∀ l : List α, p l.reverse := by
    intro l
    induction l with
    | nil => exact h0
    | cons a l ih =>
      rw [List.reverse_cons]
      exact hs _ _ ih
  intro l
  have := key l.reverse
  rwa [List.reverse_reverse] at this
theorem cast_sum : ∀ l : List Nat, ((l.sum : Nat) : Int) = (l.map fun (x : Nat) => (x : Int)).sum
  | [] => rfl
  | b :: l => by
    rw [List.sum_cons, List.map_cons, List.sum_cons, Int.natCast_add, cast_sum l]
theorem sum_ones : ∀ l : List Nat, (l.map fun _ => 1).sum = l.length
  | [] => rfl
  | b :: l => by
    rw [List.map_cons, List.sum_cons, sum_ones l, List.length_cons]
    omega
theorem flat_ones : ∀ l : List Nat, (l.map fun b => [b + 48]).flatten = l.map (· + 48)
  | [] => rfl
  | b :: l => by
    rw [List.map_cons, List.flatten_cons, flat_ones l]
    rfl
/-! ### bits -/
/-- the value of bits, the greatest first -/
def bv (l : List Nat) : Nat := l.foldl (fun a b => a * 2 + b) 0
theorem bv_snoc (l : List Nat) (b : Nat) : bv (l ++ [b]) = bv l * 2 + b := by
  unfold bv
  rw [List.foldl_append]
  rfl
/-- the bits of a number, so many -/
def bitsN : Nat → Nat → List Nat
  | 0, _ => []
  | m + 1, n => bitsN m (n / 2) ++ [n % 2]
theorem bitsN_len : ∀ m n : Nat, (bitsN m n).length = m
  | 0, _ => rfl
  | m + 1, n => by
    show (bitsN m (n / 2) ++ [n % 2]).length = m + 1
    rw [List.length_append, bitsN_len m]
    rfl
theorem bitsN_lt : ∀ m n : Nat, ∀ b ∈ bitsN m n, b < 2
  | 0, _, b, h => nomatch h
  | m + 1, n, b, h => by
    rcases List.mem_append.mp h with h | h
    · exact bitsN_lt m (n / 2) b h
    · have : b = n % 2 := by simpa using h
      omega
theorem bv_bitsN : ∀ m n : Nat, bv (bitsN m n) = n % 2 ^ m
  | 0, n => by
    show 0 = n % 1
    omega
  | m + 1, n => by
    show bv (bitsN m (n / 2) ++ [n % 2]) = n % 2 ^ (m + 1)
    rw [bv_snoc, bv_bitsN m (n / 2), Nat.pow_succ, Nat.mul_comm (2 ^ m) 2, Nat.mod_mul]
    omega
theorem bv_lt : ∀ l : List Nat, (∀ b ∈ l, b < 2) → bv l < 2 ^ l.length := by
  refine snoc_ind ?_ ?_
  · intro _; exact Nat.one_pos
  · intro l b ih h
    rw [bv_snoc, List.length_append]
    have h1 := ih fun x hx => h x (List.mem_append_left _ hx)
    have h2 := h b (by simp)
    show bv l * 2 + b < 2 ^ (l.length + 1)
    rw [Nat.pow_succ]
    omega
theorem bitsN_bv : ∀ l : List Nat, (∀ b ∈ l, b < 2) → bitsN l.length (bv l) = l := by
  refine snoc_ind ?_ ?_
  · intro _; rfl
  · intro l b ih h
    have h1 := ih fun x hx => h x (List.mem_append_left _ hx)
    have h2 := h b (by simp)
    rw [bv_snoc, List.length_append]
    show bitsN l.length ((bv l * 2 + b) / 2) ++ [(bv l * 2 + b) % 2] = l ++ [b]
    rw [show (bv l * 2 + b) / 2 = bv l by omega, show (bv l * 2 + b) % 2 = b by omega, h1]
theorem bitsN_more : ∀ (m k n : Nat), n < 2 ^ m → bitsN (m + k) n = List.replicate k 0 ++ bitsN m n
  | 0, k, n, h => by
    have hn : n = 0 := by
      have : n < 1 := h
      omega
    subst hn
    show bitsN (0 + k) 0 = List.replicate k 0 ++ []
    rw [Nat.zero_add, List.append_nil]
    clear h
    induction k with
    | zero => rfl
    | succ k ih =>
      show bitsN k (0 / 2) ++ [0 % 2] = List.replicate (k + 1) 0
      rw [show 0 / 2 = 0 from rfl, ih, List.replicate_succ']
  | m + 1, k, n, h => by
    have h2 : n / 2 < 2 ^ m := by
      rw [Nat.pow_succ] at h
      omega
    rw [show m + 1 + k = (m + k) + 1 by omega]
    show bitsN (m + k) (n / 2) ++ [n % 2] = List.replicate k 0 ++ (bitsN m (n / 2) ++ [n % 2])
    rw [bitsN_more m k (n / 2) h2, List.append_assoc]
/-- as texts -/
theorem dig2 : ∀ d : Nat, d < 2 → (Nat.digitChar d).toNat = d + 48 := by decide
theorem codes_bits (n : Nat) : ∃ m, 1 ≤ m ∧ n < 2 ^ m ∧ (∀ k, 1 ≤ k → n < 2 ^ k → m ≤ k) ∧ XA.Bx.bCodes n = (bitsN m n).map (· + 48) := by
  induction n using Nat.strongRecOn with
  | _ n ih =>
    by_cases h : n < 2
    · refine ⟨1, Nat.le_refl _, h, fun k hk _ => hk, ?_⟩
      unfold XA.Bx.bCodes
      rw [Nat.toDigits_of_lt_base h]
      show [(Nat.digitChar n).toNat] = [n % 2 + 48]
      rw [dig2 n h, Nat.mod_eq_of_lt h]
    · obtain ⟨m, h1, h2, h3, h4⟩ := ih (n / 2) (by omega)
      refine ⟨m + 1, by omega, by rw [Nat.pow_succ]; omega, fun k hk hn => ?_, ?_⟩
      · cases k with
        | zero => omega
        | succ k =>
          have hk1 : 1 ≤ k := by
            cases k with
            | zero => exact absurd hn (by simpa using h)
            | succ k => omega
          have := h3 k hk1 (by rw [Nat.pow_succ] at hn; omega)
          omega
      · unfold XA.Bx.bCodes at h4 ⊢
        have t : Nat.toDigits 2 (n / 2) ++ Nat.toDigits 2 (n % 2) = Nat.toDigits 2 (2 * (n / 2) + n % 2) := Nat.toDigits_append_toDigits (by decide) (by omega) (by omega)
        rw [Nat.div_add_mod] at t
        rw [← t, List.map_append, h4, Nat.toDigits_of_lt_base (show n % 2 < 2 by omega)]
        show (bitsN m (n / 2)).map (· + 48) ++ [(Nat.digitChar (n % 2)).toNat] = (bitsN m (n / 2) ++ [n % 2]).map (· + 48)
        rw [List.map_append, dig2 (n % 2) (by omega)]
        rfl
theorem codes_len {n m : Nat} (hm : 1 ≤ m) (h : n < 2 ^ m) : (XA.Bx.bCodes n).length ≤ m := by
  obtain ⟨k, h1, h2, h3, h4⟩ := codes_bits n
  rw [h4, List.length_map, bitsN_len]
  exact h3 m hm h
theorem codes_pad {n m : Nat} (hm : 1 ≤ m) (h : n < 2 ^ m) : List.replicate (m - (XA.Bx.bCodes n).length) 48 ++ XA.Bx.bCodes n = (bitsN m n).map (· + 48) := by
  obtain ⟨k, h1, h2, h3, h4⟩ := codes_bits n
  have hk := h3 m hm h
  have e : m = k + (m - k) := by omega
  rw [h4, List.length_map, bitsN_len]
  conv => rhs; rw [e, bitsN_more k (m - k) n h2]
  rw [List.map_append, List.map_replicate]
theorem bNum_bits (l : List Nat) : XA.Bx.bNum (l.map (· + 48)) = bv l := by
  unfold XA.Bx.bNum bv
  rw [List.foldl_map]
  congr 1
/-- how many bits so many things need -/
def bl (m : Nat) : Nat := Builtin.Int.intBits ((m : Int) - 1)
theorem bl_le (m : Nat) (h : 1 ≤ m) : m ≤ 2 ^ bl m := by
  unfold bl Builtin.Int.intBits
  by_cases e : m = 1
  · subst e; decide
  · rw [if_neg (by rw [beq_iff_eq]; omega)]
    have e2 : ((m : Int) - 1).natAbs = m - 1 := by omega
    rw [e2]
    have := Nat.lt_log2_self (n := m - 1)
    omega
theorem bl_least (m k : Nat) (h : 1 ≤ m) (hk : m ≤ 2 ^ k) : bl m ≤ k := by
  unfold bl Builtin.Int.intBits
  by_cases e : m = 1
  · subst e; exact Nat.zero_le _
  · rw [if_neg (by rw [beq_iff_eq]; omega)]
    have e2 : ((m : Int) - 1).natAbs = m - 1 := by omega
    rw [e2]
    have : (m - 1).log2 < k := (Nat.log2_lt (by omega)).mpr (by omega)
    omega
theorem bl_pow (k : Nat) : bl (2 ^ k) = k := by
  have hp := Nat.two_pow_pos k
  have h1 := bl_least (2 ^ k) k (by omega) (Nat.le_refl _)
  have h2 := bl_le (2 ^ k) (by omega)
  have h3 : k ≤ bl (2 ^ k) := (Nat.pow_le_pow_iff_right (by decide : 1 < 2)).mp h2
  omega
theorem bl_pow1 (k : Nat) : bl (2 ^ k + 1) = k + 1 := by
  have hp := Nat.two_pow_pos k
  have h1 := bl_least (2 ^ k + 1) (k + 1) (by omega) (by rw [Nat.pow_succ]; omega)
  have h2 := bl_le (2 ^ k + 1) (by omega)
  have h3 : k < bl (2 ^ k + 1) := (Nat.pow_lt_pow_iff_right (by decide : 1 < 2)).mp (by omega)
  omega
end NM

set_option Elab.async false
set_option linter.all false
set_option maxRecDepth 100000
namespace VL
open PySem PySem.Spec L2
open Evl (Ex)
/-! ### data that == tells apart -/
mutual
def pd : DV → PyData
  | .non => .none
  | .bl b => .bool b
  | .int i => .int i
  | .str x => .str x
  | .ty _ => .none
  | .adr _ => .none
  | .lst xs => .list (pds xs)
  | .tup xs => .tuple (pds xs)
  | .ins _ _ => .none
def pds : List DV → List PyData
  | [] => []
  | x :: xs => pd x :: pds xs
end
/-- ints and None, in lists and tuples at most so deep -/
def okD : Nat → DV → Bool
  | _, .int _ => true
  | _, .non => true
  | n + 1, .lst xs => xs.all (okD n)
  | n + 1, .tup xs => xs.all (okD n)
  | _, _ => false
theorem okD_cons {n : Nat} {x : DV} {xs : List DV} (h : (x :: xs).all (okD n) = true) : okD n x = true ∧ xs.all (okD n) = true := by
  rw [List.all_cons, Bool.and_eq_true] at h
  exact h
section
variable {K : PySem.W.Frag} {F H : Hp}
theorem rel_dp : ∀ (n : Nat) (d : DV) (v : V), okD n d = true → Rel K F v d → Ex F H → Dp K H v (pd d) ∧ (pd d).canLay0 = true ∧ (pd d).depth ≤ n := by
  intro n
  induction n with
  | zero =>
    intro d v h r e
    cases r with
    | int i => exact ⟨by simp only [pd]; exact .int i, by simp only [pd, PyData.canLay0], by simp only [pd, PyData.depth]; omega⟩
    | non => exact ⟨by simp only [pd]; exact .non, by simp only [pd, PyData.canLay0], by simp only [pd, PyData.depth]; omega⟩
    | _ => simp [okD] at h
  | succ n ih =>
    intro d v h r e
    have all : ∀ (ds : List DV) (vs : List V), ds.all (okD n) = true → RelA K F vs ds → DpAll K H vs (pds ds) ∧ PyData.canLayAll0 (pds ds) = true ∧ PyData.depthAll (pds ds) ≤ n := by
      intro ds
      induction ds with
      | nil =>
        intro vs _ r
        cases r
        exact ⟨by simp only [pds]; exact .nil, by simp only [pds, PyData.canLayAll0], by simp only [pds, PyData.depthAll]; omega⟩
      | cons x xs ihx =>
        intro vs h r
        obtain ⟨h1, h2⟩ := okD_cons h
        cases r with
        | cons r1 r2 =>
          obtain ⟨a1, a2, a3⟩ := ih x _ h1 r1 e
          obtain ⟨b1, b2, b3⟩ := ihx _ h2 r2
          refine ⟨by simp only [pds]; exact .cons a1 b1, by simp only [pds, PyData.canLayAll0, a2, b2, Bool.and_self], by simp only [pds, PyData.depthAll]; omega⟩
    cases r with
    | int i => exact ⟨by simp only [pd]; exact .int i, by simp only [pd, PyData.canLay0], by simp only [pd, PyData.depth]; omega⟩
    | non => exact ⟨by simp only [pd]; exact .non, by simp only [pd, PyData.canLay0], by simp only [pd, PyData.depth]; omega⟩
    | lst hs ra =>
      obtain ⟨a1, a2, a3⟩ := all _ _ (by simpa [okD] using h) ra
      exact ⟨by simp only [pd]; exact .lst (Evl.ex_l e hs) a1, by simp only [pd, PyData.canLay0]; exact a2, by simp only [pd, PyData.depth]; omega⟩
    | tup hs ra =>
      obtain ⟨a1, a2, a3⟩ := all _ _ (by simpa [okD] using h) ra
      exact ⟨by simp only [pd]; exact .tup (Evl.ex_t e hs) a1, by simp only [pd, PyData.canLay0]; exact a2, by simp only [pd, PyData.depth]; omega⟩
    | _ => simp [okD] at h
theorem eqv_iff : ∀ (n m : Nat) (d e : DV), okD n d = true → okD m e = true → (PyData.eqv (pd d) (pd e) = true ↔ d = e) := by
  intro n
  induction n with
  | zero =>
    intro m d e h1 h2
    cases d <;> simp [okD] at h1 <;> cases e <;> (try (cases m <;> simp [okD] at h2)) <;> simp [pd, PyData.eqv]
  | succ n ih =>
    intro m d e h1 h2
    have all : ∀ (m : Nat) (ds es : List DV), ds.all (okD n) = true → es.all (okD m) = true → (PyData.eqvAll (pds ds) (pds es) = true ↔ ds = es) := by
      intro m ds
      induction ds with
      | nil =>
        intro es _ _
        cases es <;> simp [pds, PyData.eqvAll]
      | cons x xs ihx =>
        intro es h1 h2
        cases es with
        | nil => simp [pds, PyData.eqvAll]
        | cons y ys =>
          obtain ⟨a1, a2⟩ := okD_cons h1
          obtain ⟨b1, b2⟩ := okD_cons h2
          have p := ih m x y a1 b1
          have q := ihx ys a2 b2
          simp only [pds, PyData.eqvAll, Bool.and_eq_true, p, q, List.cons.injEq]
    cases d with
    | int i => cases e <;> (try (cases m <;> simp [okD] at h2)) <;> simp [pd, PyData.eqv]
    | non => cases e <;> (try (cases m <;> simp [okD] at h2)) <;> simp [pd, PyData.eqv]
    | lst xs =>
      cases e with
      | lst ys =>
        cases m with
        | zero => simp [okD] at h2
        | succ m =>
          have p := all m xs ys (by simpa [okD] using h1) (by simpa [okD] using h2)
          simp only [pd, PyData.eqv, p, DV.lst.injEq]
      | _ => (try (cases m <;> simp [okD] at h2)) <;> simp [pd, PyData.eqv]
    | tup xs =>
      cases e with
      | tup ys =>
        cases m with
        | zero => simp [okD] at h2
        | succ m =>
          have p := all m xs ys (by simpa [okD] using h1) (by simpa [okD] using h2)
          simp only [pd, PyData.eqv, p, DV.tup.injEq]
      | _ => (try (cases m <;> simp [okD] at h2)) <;> simp [pd, PyData.eqv]
    | _ => simp [okD] at h1
end
/-! ### built-ins by data -/
def rLen (K : PySem.W.Frag) : List V → Hp → VK → Prop := fun xs H Q => ∃ p ys, xs = [.ref p] ∧ (SqL K H p ys ∨ SqT K H p ys) ∧ Q (.int ys.length) H
def rInt1 : List V → Hp → VK → Prop := fun xs H Q => (∃ i, xs = [.int i] ∧ Q (.int i) H) ∨ ∃ k, xs = [.bl k] ∧ Q (.int (if k then 1 else 0)) H
def rTupOf (K : PySem.W.Frag) : List V → Hp → VK → Prop := fun xs H Q => ∃ p ys, xs = [.ref p] ∧ ((SqL K H p ys ∧ ∀ l, H l = none → Q (.ref l) (upd H l (.tup ys))) ∨ (SqT K H p ys ∧ Q (.ref p) H))
def rLstOf (K : PySem.W.Frag) : List V → Hp → VK → Prop := fun xs H Q => ∃ p ys, xs = [.ref p] ∧ (SqL K H p ys ∨ SqT K H p ys) ∧ ∀ l, H l = none → Q (.ref l) (upd H l (.lst ys))
def rStrI : List V → Hp → VK → Prop := fun xs H Q => ∃ i, xs = [.int i] ∧ i.natAbs.log2 < 1920 ∧ Q (.str (toString i)) H
def rAbs : List V → Hp → VK → Prop := fun xs H Q => ∃ i, xs = [.int i] ∧ Q (.int (if i < 0 then -i else i)) H
def rMin2 : List V → Hp → VK → Prop := fun xs H Q => ∃ i j, xs = [.int i, .int j] ∧ Q (.int (if j < i then j else i)) H
def rMax2 : List V → Hp → VK → Prop := fun xs H Q => ∃ i j, xs = [.int i, .int j] ∧ Q (.int (if j > i then j else i)) H
def rAddS : R2 := fun x y H Q => ∃ i j, x = .str i ∧ y = .str j ∧ i.length + j.length ≤ sizeLine ∧ Q (.str (i ++ j)) H
def rComb : List V → Hp → VK → Prop := fun xs H Q => ∃ a b : Int, xs = [.int a, .int b] ∧ (0 ≤ a ∧ 0 ≤ b ∧ a < 2 ^ 64 ∧ (b ≤ 9000 ∨ a ≤ 18000)) ∧ Q (.int (PySem.W.mcComb a b)) H
def rInt2 : List V → Hp → VK → Prop := fun xs H Q => ∃ l : List Nat, xs = [.str (SX.S l), .int 2] ∧ l ≠ [] ∧ l.length ≤ 640 ∧ (∀ k ∈ l, XA.Bx.IsB k) ∧ Q (.int ((XA.Bx.bNum l : Nat) : Int)) H
def rIntS : List V → Hp → VK → Prop := fun xs H Q => ∃ a n, xs = [.str a] ∧ PySem.intText? a = some n ∧ a.length ≤ 640 ∧ Q (.int n) H
section
variable {X : Cx}
theorem x_len (K : PySem.W.Frag) (hK : X.K = K := by rfl) : CallR X (.builtin "len") (rLen K) := by subst hK; exact call_len_seq
theorem x_int1 : CallR X (.type "int") rInt1 := call_int1
theorem x_tupOf (K : PySem.W.Frag) (hK : X.K = K := by rfl) : CallR X (.type "tuple") (rTupOf K) := by subst hK; exact call_tuple_of
theorem x_lstOf (K : PySem.W.Frag) (hK : X.K = K := by rfl) : CallR X (.type "list") (rLstOf K) := by subst hK; exact call_list_of
theorem x_strI : CallR X (.type "str") rStrI := call_str_int
theorem x_abs : CallR X (.builtin "abs") rAbs := call_abs
theorem x_min2 (hc : X.calm = true) : CallR X (.builtin "min") rMin2 := call_min2 hc
theorem x_max2 (hc : X.calm = true) : CallR X (.builtin "max") rMax2 := call_max2 hc
theorem x_intS : CallR X (.type "int") rIntS := call_int_str
theorem x_sum (K : PySem.W.Frag) (hc : X.calm = true) (hK : X.K = K := by rfl) : CallR X (.builtin "sum") (rSum K) := by subst hK; exact cr_sum hc
theorem x_any (K : PySem.W.Frag) (hc : X.calm = true) (hK : X.K = K := by rfl) : CallR X (.builtin "any") (rAny K) := by subst hK; exact cr_any hc
theorem x_all (K : PySem.W.Frag) (hc : X.calm = true) (hK : X.K = K := by rfl) : CallR X (.builtin "all") (rAll K) := by subst hK; exact cr_all hc
theorem x_sortedI (K : PySem.W.Frag) (hK : X.K = K := by rfl) : CallR X (.builtin "sorted") (rSortedI K) := by subst hK; exact cr_sortedI
theorem x_addS : OpR X (binaryOp .Add) rAddS := op_add_str
theorem x_in (K : PySem.W.Frag) (hK : X.K = K := by rfl) : OpR X (compareOp .In) (rIn K false) := by subst hK; exact op_in_seq
theorem x_notIn (K : PySem.W.Frag) (hK : X.K = K := by rfl) : OpR X (compareOp .NotIn) (rIn K true) := by subst hK; exact op_notIn_seq
theorem x_eqD (K : PySem.W.Frag) (hu : X.A.units + 64 < cLine) (hK : X.K = K := by rfl) : OpR X (compareOp .Eq) (rEqD K) := by subst hK; exact op_eqD hu
theorem x_neD (K : PySem.W.Frag) (hu : X.A.units + 64 < cLine) (hK : X.K = K := by rfl) : OpR X (compareOp .NotEq) (rNeD K) := by subst hK; exact op_neD hu
theorem x_catA (K : PySem.W.Frag) (hK : X.K = K := by rfl) : OpR X (binaryOp .Add) (rCatA K) := by subst hK; exact op_catA
theorem x_ixL (K : PySem.W.Frag) (hK : X.K = K := by rfl) : IxR X (rIxL K) := by subst hK; exact ix_list
theorem x_ixT (K : PySem.W.Frag) (hK : X.K = K := by rfl) : IxR X (rIxT K) := by subst hK; exact ix_tup
theorem x_slL (K : PySem.W.Frag) (hK : X.K = K := by rfl) : SlR X (rSlL K) := by subst hK; exact sl_list
theorem x_slA (K : PySem.W.Frag) (hK : X.K = K := by rfl) : SlR X (rSlA K) := by subst hK; exact sl_tupA
theorem x_fld (K : PySem.W.Frag) {e : Expr} {ta : TE} {f : Str} {pos : Pos} (he : PE X e ta) (hb : attributeBase e f X.env (eval e X.env) = eval e X.env) (hK : X.K = K := by rfl) : PE X (.Attribute e f pos) (tFld K ta f) := by subst hK; exact pe_fld he hb
theorem x_gtup (K : PySem.W.Frag) {es : List Expr} {k : Nat} {t : TGs} {n : Nat} {pos : Pos} (hc : X.calm = true) (h : PGs X es t) (hn : (assignEach es X.env).length = n := by rfl) (hst : (assignEach es X.env).findIdx? (·.1) = none := by rfl) (hK : X.K = K := by rfl) : PG X (.Tuple es k pos) (gTup K n t) := by subst hK; exact pg_tup hc h hn hst
theorem x_list (K : PySem.W.Frag) {tg l : Expr} {tl : TE} (hl : PE X l tl) (hK : X.K = K := by rfl) : PI X tg l (iList K tl) := by subst hK; exact pi_list hl
theorem x_tup (K : PySem.W.Frag) {tg l : Expr} {tl : TE} (hl : PE X l tl) (hK : X.K = K := by rfl) : PI X tg l (iTup K tl) := by subst hK; exact pi_tup hl
end
section
variable {K : PySem.W.Frag} {c : Cfg} {ρ : List SV} {P : DV → Prop}
theorem shaped_of {n : Nat} {d : PyData} (h1 : d.canLay0 = true) (h2 : d.depth ≤ n) (hn : n ≤ 64) : SeqAt.shaped d = true := by
  show (d.canLay0 && decide (d.depth ≤ 64)) = true
  rw [h1, decide_eq_true (show d.depth ≤ 64 by omega)]
  rfl
theorem rv_eqD {d e : DV} (h1 : okD 20 d = true) (h2 : okD 20 e = true) (h : ∀ b : Bool, (b = true ↔ d = e) → P (.bl b)) : RV2 K c (rEqD K) d e P := fun F H v w r1 r2 ex m Q q => by
  obtain ⟨a1, a2, a3⟩ := rel_dp 20 d v h1 r1 ex
  obtain ⟨b1, b2, b3⟩ := rel_dp 20 e w h2 r2 ex
  exact ⟨pd d, pd e, a1, b1, shaped_of a2 a3 (by decide), shaped_of b2 b3 (by decide), q _ _ F H (Go.refl ex m) (.bl _) (h _ (eqv_iff 20 20 d e h1 h2))⟩
theorem rv_neD {d e : DV} (h1 : okD 20 d = true) (h2 : okD 20 e = true) (h : ∀ b : Bool, (b = true ↔ d ≠ e) → P (.bl b)) : RV2 K c (rNeD K) d e P := fun F H v w r1 r2 ex m Q q => by
  obtain ⟨a1, a2, a3⟩ := rel_dp 20 d v h1 r1 ex
  obtain ⟨b1, b2, b3⟩ := rel_dp 20 e w h2 r2 ex
  have k := eqv_iff 20 20 d e h1 h2
  refine ⟨pd d, pd e, a1, b1, shaped_of a2 a3 (by decide), shaped_of b2 b3 (by decide), q _ _ F H (Go.refl ex m) (.bl _) (h _ ?_)⟩
  cases z : PyData.eqv (pd d) (pd e) with
  | true => exact ⟨fun y => (by cases y), fun y => absurd (k.mp z) y⟩
  | false => exact ⟨fun _ y => (by rw [k.mpr y] at z; cases z), fun _ => rfl⟩
abbrev intsD (ns : List Int) : List DV := ns.map .int
theorem okD_ints (n : Nat) (ns : List Int) : (intsD ns).all (okD n) = true := by
  rw [List.all_eq_true]
  intro x hx
  obtain ⟨i, _, rfl⟩ := List.mem_map.mp hx
  cases n <;> rfl
theorem relA_ints {F : Hp} : ∀ {vs : List V} {ns : List Int}, RelA K F vs (intsD ns) → vs = ns.map V.int
  | _, [], .nil => rfl
  | _, n :: ns, .cons h r => by
    cases h
    rw [relA_ints r]
    rfl
theorem relA_of_ints {F : Hp} : ∀ {ns : List Int}, RelA K F (ns.map V.int) (intsD ns)
  | [] => .nil
  | n :: ns => .cons (.int n) relA_of_ints
theorem relA_bls {F : Hp} : ∀ {vs : List V} {bs : List Bool}, RelA K F vs (bs.map .bl) → vs = bs.map V.bl
  | _, [], .nil => rfl
  | _, b :: bs, .cons h r => by
    cases h
    rw [relA_bls r]
    rfl
theorem rva_len {x : DV} {ds : List DV} (hx : x = .lst ds ∨ x = .tup ds) (h : P (.int (ds.length : Int))) :
    RVA K c (rLen K) [x] P := fun F H vs r ex m Q q => by
  cases r with
  | cons r1 r2 =>
    cases r2
    rcases hx with rfl | rfl
    · cases r1 with
      | lst hs ra => exact ⟨_, _, rfl, .inl (Evl.ex_l ex hs), q _ _ F H (Go.refl ex m) (.int _) (by rw [ra.len]; exact h)⟩
    · cases r1 with
      | tup hs ra => exact ⟨_, _, rfl, .inr (Evl.ex_t ex hs), q _ _ F H (Go.refl ex m) (.int _) (by rw [ra.len]; exact h)⟩
theorem rva_sum {ns : List Int} (h : P (.int ns.sum)) : RVA K c (rSum K) [.lst (intsD ns)] P := fun F H vs r ex m Q q => by
  cases r with
  | cons r1 r2 =>
    cases r2
    cases r1 with
    | lst hs ra =>
      have e := relA_ints ra
      subst e
      exact ⟨_, ns, rfl, Evl.ex_l ex hs, q _ _ F H (Go.refl ex m) (.int _) h⟩
theorem rva_any {bs : List Bool} (h : P (.bl (bs.any id))) : RVA K c (rAny K) [.lst (bs.map .bl)] P := fun F H vs r ex m Q q => by
  cases r with
  | cons r1 r2 =>
    cases r2
    cases r1 with
    | lst hs ra =>
      have e := relA_bls ra
      subst e
      exact ⟨_, bs, rfl, Evl.ex_l ex hs, q _ _ F H (Go.refl ex m) (.bl _) h⟩
theorem rva_all {bs : List Bool} (h : P (.bl (bs.all id))) : RVA K c (rAll K) [.lst (bs.map .bl)] P := fun F H vs r ex m Q q => by
  cases r with
  | cons r1 r2 =>
    cases r2
    cases r1 with
    | lst hs ra =>
      have e := relA_bls ra
      subst e
      exact ⟨_, bs, rfl, Evl.ex_l ex hs, q _ _ F H (Go.refl ex m) (.bl _) h⟩
theorem rva_int1 {i : Int} (h : P (.int i)) : RVA K c rInt1 [.int i] P := fun F H vs r ex m Q q => by
  cases r with
  | cons r1 r2 =>
    cases r2
    cases r1
    exact .inl ⟨i, rfl, q _ _ F H (Go.refl ex m) (.int _) h⟩
theorem rva_tuple {x : DV} {ds : List DV} (hx : x = .lst ds ∨ x = .tup ds) (h : P (.tup ds)) :
    RVA K c (rTupOf K) [x] P := fun F H vs r ex m Q q => by
  cases r with
  | cons r1 r2 =>
    cases r2
    rcases hx with rfl | rfl
    · cases r1 with
      | lst hs ra => exact ⟨_, _, rfl, .inl ⟨Evl.ex_l ex hs, fun l hl => new_tup ra ex m hl q h⟩⟩
    · cases r1 with
      | tup hs ra => exact ⟨_, _, rfl, .inr ⟨Evl.ex_t ex hs, q _ _ F H (Go.refl ex m) (.tup hs ra) h⟩⟩
theorem rva_list {x : DV} {ds : List DV} (hx : x = .lst ds ∨ x = .tup ds) (h : P (.lst ds)) :
    RVA K c (rLstOf K) [x] P := fun F H vs r ex m Q q => by
  cases r with
  | cons r1 r2 =>
    cases r2
    rcases hx with rfl | rfl
    · cases r1 with
      | lst hs ra => exact ⟨_, _, rfl, .inl (Evl.ex_l ex hs), fun l hl => new_lst ra ex m hl q h⟩
    · cases r1 with
      | tup hs ra => exact ⟨_, _, rfl, .inr (Evl.ex_t ex hs), fun l hl => new_lst ra ex m hl q h⟩
theorem rva_strI {i : Int} (hz : i.natAbs.log2 < 1920) (h : P (.str (toString i))) : RVA K c rStrI [.int i] P := fun F H vs r ex m Q q => by
  cases r with
  | cons r1 r2 =>
    cases r2
    cases r1
    exact ⟨i, rfl, hz, q _ _ F H (Go.refl ex m) (.str _) h⟩
theorem rva_abs {i : Int} (h : P (.int (if i < 0 then -i else i))) : RVA K c rAbs [.int i] P := fun F H vs r ex m Q q => by
  cases r with
  | cons r1 r2 =>
    cases r2
    cases r1
    exact ⟨i, rfl, q _ _ F H (Go.refl ex m) (.int _) h⟩
theorem rva_min2 {i j : Int} (h : P (.int (if j < i then j else i))) : RVA K c rMin2 [.int i, .int j] P := fun F H vs r ex m Q q => by
  cases r with
  | cons r1 r2 =>
    cases r2 with
    | cons r2 r3 =>
      cases r1
      cases r2
      cases r3
      exact ⟨i, j, rfl, q _ _ F H (Go.refl ex m) (.int _) h⟩
theorem rva_max2 {i j : Int} (h : P (.int (if j > i then j else i))) : RVA K c rMax2 [.int i, .int j] P := fun F H vs r ex m Q q => by
  cases r with
  | cons r1 r2 =>
    cases r2 with
    | cons r2 r3 =>
      cases r1
      cases r2
      cases r3
      exact ⟨i, j, rfl, q _ _ F H (Go.refl ex m) (.int _) h⟩
/-- an int in a list or tuple of ints -/
theorem inV_ints (i : Int) : ∀ ns : List Int, inV (.int i) (ns.map V.int) = ns.contains i := by
  intro ns
  induction ns with
  | nil => rfl
  | cons n ns ih =>
    show ((n == i) || inV (.int i) (ns.map V.int)) = _
    rw [ih, List.contains_cons]
    congr 1
    exact Bool.eq_iff_iff.mpr ⟨fun h => (by rw [beq_iff_eq] at h ⊢; exact h.symm), fun h => (by rw [beq_iff_eq] at h ⊢; exact h.symm)⟩
theorem flat_ints (ns : List Int) : (ns.map V.int).all flatV = true := by
  rw [List.all_eq_true]
  intro x hx
  obtain ⟨i, _, rfl⟩ := List.mem_map.mp hx
  rfl
theorem rv_inI {neg : Bool} {i : Int} {x : DV} {ns : List Int} (hx : x = .lst (intsD ns) ∨ x = .tup (intsD ns)) (h : P (.bl (if neg then !ns.contains i else ns.contains i))) : RV2 K c (rIn K neg) (.int i) x P := fun F H v w r1 r2 ex m Q q => by
  cases r1
  rcases hx with rfl | rfl
  · cases r2 with
    | lst hs ra =>
      have e := relA_ints ra
      subst e
      refine ⟨_, _, rfl, .inl (Evl.ex_l ex hs), rfl, flat_ints ns, q _ _ F H (Go.refl ex m) (.bl _) ?_⟩
      rw [inV_ints]
      exact h
  · cases r2 with
    | tup hs ra =>
      have e := relA_ints ra
      subst e
      refine ⟨_, _, rfl, .inr (Evl.ex_t ex hs), rfl, flat_ints ns, q _ _ F H (Go.refl ex m) (.bl _) ?_⟩
      rw [inV_ints]
      exact h
/-- tuple + tuple -/
theorem rv_catA {xs ys : List DV} (hz : xs.length + ys.length ≤ 1000000) (h : P (.tup (xs ++ ys))) : RV2 K c (rCatA K) (.tup xs) (.tup ys) P := fun F H v w r1 r2 ex m Q q => by
  cases r1 with
  | tup ha ra =>
    cases r2 with
    | tup hb rb =>
      refine ⟨_, _, _, _, rfl, rfl, Evl.ex_t ex ha, Evl.ex_t ex hb, by rw [ra.len, rb.len]; exact Nat.le_trans hz (by decide), fun e => ?_, fun _ e => ?_, fun _ _ p hp => ?_⟩
      · subst e
        cases ra
        exact q _ _ F H (Go.refl ex m) (.tup hb rb) (by simpa using h)
      · subst e
        cases rb
        exact q _ _ F H (Go.refl ex m) (.tup ha ra) (by simpa using h)
      · exact new_tup (ra.app rb) ex m hp q h
theorem rv_addS {x y : Str} (hz : x.length + y.length ≤ 1000000) (h : P (.str (x ++ y))) : RV2 K c rAddS (.str x) (.str y) P := fun F H v w r1 r2 ex m Q q => by
  cases r1
  cases r2
  exact ⟨x, y, rfl, rfl, Nat.le_trans hz (by decide), q _ _ F H (Go.refl ex m) (.str _) h⟩
/-- items -/
theorem atI_nat' {α : Type} {xs : List α} {j : Nat} {x : α} (h : xs[j]? = some x) : atI xs (j : Int) = some x := atI_nat h
theorem rv_ixL {ds : List DV} {j : Nat} {d : DV} (hd : ds[j]? = some d) (h : P d) : RV2 K c (rIxL K) (.lst ds) (.int (j : Int)) P := fun F H v w r1 r2 ex m Q q => by
  cases r2
  cases r1 with
  | lst hs ra =>
    obtain ⟨v, e, rv⟩ := ra.get hd
    exact ⟨_, _, (j : Int), v, rfl, rfl, Evl.ex_l ex hs, atI_nat e, q _ _ F H (Go.refl ex m) rv h⟩
theorem rv_ixT {ds : List DV} {j : Nat} {d : DV} (hd : ds[j]? = some d) (h : P d) : RV2 K c (rIxT K) (.tup ds) (.int (j : Int)) P := fun F H v w r1 r2 ex m Q q => by
  cases r2
  cases r1 with
  | tup hs ra =>
    obtain ⟨v, e, rv⟩ := ra.get hd
    exact ⟨_, _, (j : Int), v, rfl, rfl, Evl.ex_t ex hs, atI_nat e, q _ _ F H (Go.refl ex m) rv h⟩
theorem rv1_neg {i : Int} (h : P (.int (-i))) : RV1 K c (rU fun i => .int (-i)) (.int i) P := fun F H v r ex m Q q => by
  cases r
  exact ⟨i, rfl, q _ _ F H (Go.refl ex m) (.int _) h⟩
/-! ### math.comb, x.bit_length(), f"{n:b}", int(t, 2), join, zfill -/
theorem cr_comb {X : Cx} : CallR X (.builtin "math.comb") rComb := by
  intro pins s σ H vs us Q I r h
  obtain ⟨a, b, rfl, ⟨h1, h2, h3, h4⟩, q⟩ := h
  obtain ⟨t, u, rfl⟩ := Vals.int2 r
  exact PySem.W.mc_comb h1 h2 h3 h4 fun _ => ⟨.int _, H, I.tok _, ⟨_, rfl⟩, q⟩
theorem rva_comb {a b : Int} (hc : 0 ≤ a ∧ 0 ≤ b ∧ a < 2 ^ 64 ∧ (b ≤ 9000 ∨ a ≤ 18000)) (h : P (.int (PySem.W.mcComb a b))) :
    RVA K c rComb [.int a, .int b] P := fun F H vs r ex m Q q => by
  cases r with
  | cons r1 r2 =>
    cases r2 with
    | cons r2 r3 =>
      cases r1
      cases r2
      cases r3
      exact ⟨a, b, rfl, hc, q _ _ F H (Go.refl ex m) (.int _) h⟩
theorem ev_bits {ta : TE} (h : Ev K c ta ρ fun x => ∃ i, x = .int i ∧ P (.int (Builtin.Int.intBits i : Nat))) : Ev K c (tBits ta) ρ P := fun B σ F H S ex m Q q =>
  h B σ F H S ex m _ fun v x F1 H1 g1 r1 h1 => by
    obtain ⟨i, rfl, p⟩ := h1
    cases r1
    exact ⟨i, rfl, q _ _ F1 H1 g1 (.int _) p⟩
theorem ev_fmtB {ta : TE} (h : Ev K c ta ρ fun x => ∃ n : Nat, x = .int (n : Int) ∧ (XA.Bx.bCodes n).length ≤ 1000000 ∧ P (.str (SX.S (XA.Bx.bCodes n)))) : Ev K c (XA.tFmtB ta) ρ P := fun B σ F H S ex m Q q =>
  h B σ F H S ex m _ fun v x F1 H1 g1 r1 h1 => by
    obtain ⟨n, rfl, hz, p⟩ := h1
    cases r1
    exact ⟨n, rfl, Nat.le_trans hz (by decide), q _ _ F1 H1 g1 (.str _) p⟩
theorem cr_int2 {X : Cx} : CallR X (.type "int") rInt2 := by
  intro pins s σ H xs us Q I r h
  obtain ⟨l, rfl, hne, hl, hx, q⟩ := h
  obtain ⟨u, w', rfl, r1, r2⟩ := vals2 r
  obtain ⟨t1, rfl⟩ := r1
  obtain ⟨t2, rfl⟩ := r2
  exact XA.Bx.call_b (x := SX.S l) (by rw [SX.S_len]; exact hl) hx hne ⟨.int ((XA.Bx.bNum l : Nat) : Int), H, I.tok _, ⟨_, rfl⟩, q⟩
theorem rva_int2 {l : List Nat} (h1 : l ≠ []) (h2 : l.length ≤ 640) (h3 : ∀ k ∈ l, XA.Bx.IsB k) (h : P (.int ((XA.Bx.bNum l : Nat) : Int))) :
    RVA K c rInt2 [.str (SX.S l), .int 2] P := fun F H vs r ex m Q q => by
  cases r with
  | cons r1 r2 =>
    cases r2 with
    | cons r2 r3 =>
      cases r1
      cases r2
      cases r3
      exact ⟨l, rfl, h1, h2, h3, q _ _ F H (Go.refl ex m) (.int _) h⟩
theorem rva_intS {a : Str} {n : Int} (h1 : PySem.intText? a = some n) (h2 : a.length ≤ 640) (h : P (.int n)) : RVA K c rIntS [.str a] P := fun F H vs r ex m Q q => by
  cases r with
  | cons r1 r2 =>
    cases r2
    cases r1
    exact ⟨a, n, rfl, h1, h2, q _ _ F H (Go.refl ex m) (.int _) h⟩
end
end VL

set_option Elab.async false
set_option linter.all false
set_option maxRecDepth 100000
namespace VL
open PySem PySem.Spec L2
open Evl (Ex)
section
variable {K : PySem.W.Frag} {c : Cfg} {ρ : List SV} {P : DV → Prop}
theorem relA_strs {F : Hp} : ∀ {vs : List V} {ys : List Str}, RelA K F vs (ys.map .str) → vs = ys.map V.str
  | _, [], .nil => rfl
  | _, y :: ys, .cons h r => by
    cases h
    rw [relA_strs r]
    rfl
theorem ev_join {to te : TE} (h : Ev K c to ρ fun x => ∃ a, x = .str a ∧ Ev K c te ρ fun y => ∃ ys : List Str, y = .lst (ys.map .str) ∧ (ys.map (·.length)).sum + ys.length * a.length ≤ 1000000 ∧ P (.str (Txt.join a ys))) :
    Ev K c (tM1 (fun x xs H Q => ∃ a p, ∃ ys : List Str, x = .str a ∧ xs = [.ref p] ∧ (SqL K H p (ys.map V.str) ∨ SqT K H p (ys.map V.str)) ∧ (ys.map (·.length)).sum + ys.length * a.length ≤ 16777216 ∧ Q (.str (Txt.join a ys)) H) to te) ρ P := fun B σ F H S ex m Q q =>
  h B σ F H S ex m _ fun v x F1 H1 g1 r1 h1 => by
    obtain ⟨a, rfl, h2⟩ := h1
    cases r1
    refine ⟨⟨a, rfl⟩, h2 B σ F1 H1 (S.go g1) g1.fh g1.m _ fun w y F2 H2 g2 r2 h3 => ?_⟩
    obtain ⟨ys, rfl, hz, p⟩ := h3
    cases r2 with
    | lst hs ra =>
      have e := relA_strs ra
      subst e
      exact ⟨a, _, ys, rfl, rfl, .inl (Evl.ex_l g2.fh hs), by omega, q _ _ F2 H2 (g1.trans g2) (.str _) p⟩
theorem ev_bmS {r : V → List V → Hp → VK → Prop} {to : TE} {t : TA} (h : Ev K c to ρ fun x => ∃ a, x = .str a ∧ EvA K c t ρ fun xs => RVM K c r x xs P) : Ev K c (tBM K "str" r to t) ρ P := fun B σ F H S ex m Q q =>
  h B σ F H S ex m _ fun v x F1 H1 g1 r1 h1 => by
    obtain ⟨a, rfl, h2⟩ := h1
    cases r1
    exact ⟨rfl, h2 B σ F1 H1 (S.go g1) g1.fh g1.m _ fun vs xs F2 H2 g2 r2 h3 => h3 F2 H2 _ vs (.str a) r2 g2.fh g2.m Q fun z d F3 H3 g3 r3 p => q z d F3 H3 ((g1.trans g2).trans g3) r3 p⟩
theorem padOk {n : Nat} (h : n ≤ 1000000) : PadOk (n : Int) = true := by
  unfold PadOk fitsSsize
  have h1 : decide ((n : Int) < -(2 ^ 63 : Int)) = false := decide_eq_false (by omega)
  have h2 : decide ((n : Int) ≥ 2 ^ 63) = false := decide_eq_false (by omega)
  have h3 : Builtin.Str.tooLong (n : Int).toNat = false := by
    unfold Builtin.Str.tooLong
    rw [Int.toNat_natCast, sizeLine_eq]
    exact decide_eq_false (by omega)
  rw [h1, h2, h3]
  rfl
theorem rvm_zfill {a : Str} {n : Nat} (hz : n ≤ 1000000) (h : P (.str (Txt.zfill a (n : Int)))) :
    RVM K c (fun x xs H Q => ∃ (a : Str) (i : Int), x = .str a ∧ xs = [.int i] ∧ PadOk i = true ∧ Q (.str (Txt.zfill a i)) H) (.str a) [.int (n : Int)] P := fun F H v vs r1 r2 ex m Q q => by
  cases r1
  cases r2 with
  | cons r3 r4 =>
    cases r4
    cases r3
    exact ⟨a, _, rfl, rfl, padOk hz, q _ _ F H (Go.refl ex m) (.str _) h⟩
/-- zeros ahead of figures -/
theorem zfill_S {l : List Nat} {m : Nat} (hl : ∀ k ∈ l, k = 48 ∨ k = 49) (h : l.length ≤ m) : Txt.zfill (SX.S l) (m : Int) = SX.S (List.replicate (m - l.length) 48 ++ l) := by
  unfold Txt.zfill
  rw [SX.S_len]
  by_cases e : (m : Int) ≤ (l.length : Int)
  · rw [if_pos e]
    have : m - l.length = 0 := by omega
    rw [this]
    rfl
  · rw [if_neg e, Int.toNat_natCast]
    have key : zfilled (SX.S l) (m - l.length) = Builtin.Str.padded (SX.S l) (m - l.length) 0 48 := by
      unfold zfilled
      have h0 : (SX.S l).cps[0]? = l[0]? := by simp [SX.S]
      rw [h0]
      cases l with
      | nil => rfl
      | cons k r =>
        have := hl k List.mem_cons_self
        rcases this with z | z <;> subst z <;> rfl
    rw [key]
    unfold Builtin.Str.padded SX.S
    congr 1
    simp
theorem int_sign : ∀ b : Nat, b < 2 → PySem.intText? (⟨#[b + 48]⟩ : Str) = some (b : Int) := by decide +kernel
theorem str_bit : ∀ b : Nat, b < 2 → (Str.ofString (toString (b : Int))) = SX.S [b + 48] := by
  intro b h
  have : b = 0 ∨ b = 1 := by omega
  rcases this with e | e <;> subst e <;> decide +kernel
theorem joinL_one : ∀ l : List (List Nat), TL.joinL [] l = l.flatten
  | [] => rfl
  | [a] => by simp [TL.joinL]
  | a :: b :: l => by
    show a ++ ([] ++ TL.joinL [] (b :: l)) = _
    rw [joinL_one (b :: l)]
    simp
end
end VL

set_option Elab.async false
set_option linter.all false
set_option maxRecDepth 100000
/-! draws: a list [script, n] whose n counts on -/
namespace VL
open PySem PySem.Spec L2
open Evl (Ex)
/-- o[i] of a list, i not below 0, in an o[i] op= e -/
def rGetL (K : PySem.W.Frag) : R2 := fun x y H Q => ∃ p xs i v, x = .ref p ∧ y = .int i ∧ 0 ≤ i ∧ SqL K H p xs ∧ atI xs i = some v ∧ Q v H
theorem get_list {X : Cx} : PGet X (rGetL X.K) := by
  intro pins s σ H x y v u Q I rx ry h
  obtain ⟨p, xs, i, z, rfl, rfl, h0, hq, he, q⟩ := h
  cases rx
  obtain ⟨t, rfl⟩ := ry
  obtain ⟨its, r, pl, hz⟩ := I.list hq
  obtain ⟨j, h1, h2, h3, h4, h5⟩ := atI_get he
  obtain ⟨w, ew, rw'⟩ := r.get h2
  have hl := r.length
  have hn := line63
  have hj : i.toNat = j := by
    rw [seqIndex_of h0 h5] at h1
    exact Option.some.inj h1
  exact wpAny_getItem_list pl.isList h0 (by omega) (by rw [hj]; simpa using ew) ⟨z, H, I, rw', q⟩
def Wr (K : PySem.W.Frag) (s : Addr) (xs : List V) : Prop := ∃ (o : Obj) (its : Array Value) (n : Nat), K.lookup s = some o ∧ o.cls = .type "list" ∧ o.dict = none ∧ o.data = .seq its n ∧ its.size ≤ sizeLine ∧ Vals xs its.toList
def drawC (K : PySem.W.Frag) (d s : Addr) (ns : List Int) (tr : Bool) : Cfg where
  T := fun a => a = d ∨ (tr = true ∧ a = s)
  M := fun F H => F d = none ∧ (tr = true → d ≠ s) ∧ (∃ n : Int, H d = some (.lst [.ref s, .int n])) ∧ (if tr = true then Rd H s (.lst (ns.map V.int)) else Wr K s (ns.map V.int))
  st := fun F H F' H' h1 h2 ⟨m1, m2, ⟨n, m3⟩, m4⟩ => by
    refine ⟨h2 d (.inl rfl) m1, m2, ⟨n, h1 d _ (.inl rfl) m3⟩, ?_⟩
    cases tr with
    | true =>
      rw [if_pos rfl] at m4 ⊢
      rcases m4 with m4 | ⟨o, m4⟩
      · exact .inl (h1 s _ (.inr ⟨rfl, rfl⟩) m4)
      · exact .inr ⟨o, h1 s _ (.inr ⟨rfl, rfl⟩) m4⟩
    | false =>
      rw [if_neg Bool.false_ne_true] at m4 ⊢
      exact m4
  al := fun F H a ⟨m1, m2, ⟨n, m3⟩, m4⟩ t => by
    rcases t with rfl | ⟨rfl, rfl⟩
    · rw [m3]
      exact fun z => nomatch z
    · rw [if_pos rfl] at m4
      rcases m4 with m4 | ⟨o, m4⟩
      · rw [m4]; exact fun z => nomatch z
      · rw [m4]; exact fun z => nomatch z
section
variable {K : PySem.W.Frag} {ρ : List SV} {P : DV → Prop} {d s : Addr} {ns : List Int} {tr : Bool}
theorem draw_seq {F H : Hp} (m : (drawC K d s ns tr).M F H) : SqL K H s (ns.map V.int) := by
  obtain ⟨_, _, _, m4⟩ := m
  cases tr with
  | true =>
    rw [if_pos rfl] at m4
    exact .inl m4
  | false =>
    rw [if_neg Bool.false_ne_true] at m4
    exact .inr m4
theorem rv_draw0 (h : P (.adr s)) : RV2 K (drawC K d s ns tr) (rIxL K) (.adr d) (.int 0) P := fun F H v w r1 r2 ex m Q q => by
  cases r1
  cases r2
  obtain ⟨n, m3⟩ := m.2.2.1
  exact ⟨d, _, 0, .ref s, rfl, rfl, Evl.sq_of m3, rfl, q _ _ F H (Go.refl ex m) (.adr s) h⟩
theorem rv_draw1 (h : ∀ n : Int, P (.int n)) : RV2 K (drawC K d s ns tr) (rIxL K) (.adr d) (.int 1) P := fun F H v w r1 r2 ex m Q q => by
  cases r1
  cases r2
  obtain ⟨n, m3⟩ := m.2.2.1
  exact ⟨d, _, 1, .int n, rfl, rfl, Evl.sq_of m3, rfl, q _ _ F H (Go.refl ex m) (.int n) (h n)⟩
theorem rv_script {j : Int} (h0 : 0 ≤ j) (h1 : j < ns.length) (h : ∀ i : Int, P (.int i)) : RV2 K (drawC K d s ns tr) (rIxL K) (.adr s) (.int j) P := fun F H v w r1 r2 ex m Q q => by
  cases r1
  cases r2
  have hs := draw_seq m
  obtain ⟨k, rfl⟩ := Int.eq_ofNat_of_zero_le h0
  have hk : k < ns.length := by omega
  have e : (ns.map V.int)[k]? = some (.int ns[k]) := by
    rw [List.getElem?_map, List.getElem?_eq_getElem hk]
    rfl
  exact ⟨s, _, (k : Int), .int ns[k], rfl, rfl, hs, atI_nat e, q _ _ F H (Go.refl ex m) (.int _) (h _)⟩
theorem rva_lenS (h : P (.int (ns.length : Int))) : RVA K (drawC K d s ns tr) (fun xs H Q => ∃ p ys, xs = [.ref p] ∧ (SqL K H p ys ∨ SqT K H p ys) ∧ Q (.int ys.length) H) [.adr s] P := fun F H vs r ex m Q q => by
  cases r with
  | cons r1 r2 =>
    cases r2
    cases r1
    exact ⟨s, _, rfl, .inl (draw_seq m), q _ _ F H (Go.refl ex m) (.int _) (by rw [List.length_map]; exact h)⟩
theorem rv_eqS (h : P (.bl (decide (ns = [])))) : RV2 K (drawC K d s ns tr) (rEqD K) (.adr s) (.lst []) P := fun F H v w r1 r2 ex m Q q => by
  cases r1
  have r0 : Rel K (upd F s (.lst (ns.map V.int))) (.ref s) (.lst (intsD ns)) := .lst (Evl.sq_of upd_same) relA_of_ints
  have hs := draw_seq m
  have dp : Dp K H (.ref s) (pd (.lst (intsD ns))) ∧ (pd (.lst (intsD ns))).canLay0 = true ∧ (pd (.lst (intsD ns))).depth ≤ 20 := by
    have := rel_dp (K := K) 20 (.lst (intsD ns)) (.ref s) (by simp [okD, List.all_map, Function.comp_def]) r0 (Evl.Ex.refl _)
    refine ⟨?_, this.2⟩
    have h1 := this.1
    simp only [pd] at h1 ⊢
    cases h1 with
    | lst _ ha =>
      rename_i xs ha'
      refine .lst hs ?_
      have key : ∀ ns : List Int, DpAll K H (ns.map V.int) (pds (intsD ns)) := by
        intro ns
        induction ns with
        | nil => simp only [List.map_nil, pds]; exact .nil
        | cons n ns ih => simp only [List.map_cons, pds, pd]; exact .cons (.int n) ih
      exact key ns
  obtain ⟨b1, b2, b3⟩ := rel_dp 20 (.lst []) w rfl r2 ex
  refine ⟨_, _, dp.1, b1, shaped_of dp.2.1 dp.2.2 (by decide), shaped_of b2 b3 (by decide), q _ _ F H (Go.refl ex m) (.bl _) ?_⟩
  have e : PyData.eqv (pd (.lst (intsD ns))) (pd (.lst [])) = decide (ns = []) := by
    cases ns <;> simp [pd, pds, PyData.eqv, PyData.eqvAll]
  rw [e]
  exact h
/-- draw[1] += 1 -/
theorem sx_draw {S : Addr → Prop} {F0 H0 : Hp} {N : Fi} {i : Nat} (hd : ρ[i]? = some (.d (.adr d))) (h : N.nx ρ) :
    Sx K (drawC K d s ns tr) S F0 H0 (tAugS (tVar i) (tC (.int 1)) (tC (.int 1)) (rGetL K) (ipI fun i j => i + j) rSetL) ρ N := fun σ F H D a k1 _ _ _ => by
  obtain ⟨v, e1, r⟩ := a.s.dat hd
  cases r
  obtain ⟨m1, m2, ⟨n, m3⟩, m4⟩ := a.g.m
  refine ⟨_, e1, d, _, 1, .int n, rfl, rfl, by decide, Evl.sq_of m3, rfl, n, 1, rfl, rfl, d, _, 1, 1, rfl, rfl, m3, rfl, ?_⟩
  have hu : ∀ a o, H a = some o → a ≠ d → (upd H d (.lst [.ref s, .int (n + 1)])) a = some o := fun a o e z => by
    rw [upd_ne z]
    exact e
  have m' : (drawC K d s ns tr).M F (upd H d (.lst [.ref s, .int (n + 1)])) := by
    refine ⟨m1, m2, ⟨n + 1, upd_same⟩, ?_⟩
    cases tr with
    | true =>
      rw [if_pos rfl] at m4 ⊢
      rcases m4 with m4 | ⟨o, m4⟩
      · exact .inl (hu s _ m4 (m2 rfl).symm)
      · exact .inr ⟨o, hu s _ m4 (m2 rfl).symm⟩
    | false => exact m4
  refine k1 σ ρ F _ ⟨⟨a.g.ff, fun x o e => ?_, fun x o e t1 t2 => ?_, fun x o e => ?_, a.g.fr, m'⟩, ⟨a.s.len, fun j x e => ?_, a.s.dj⟩⟩ (Ex.rfl' F) h
  · exact hu x o (a.g.fh x o e) fun z => by rw [z, m1] at e; cases e
  · exact hu x o (a.g.hh x o e t1 t2) fun z => t1 (.inl z)
  · by_cases z : x = d
    · rw [z, upd_same]
      exact fun y => nomatch y
    · rw [upd_ne z]
      exact a.g.dom x o e
  · obtain ⟨w, e2, q⟩ := a.s.ok j x e
    refine ⟨w, e2, ?_⟩
    cases x with
    | non => exact q
    | any => trivial
    | d y => exact q
    | own y =>
      obtain ⟨l, o, f1, f2, f3, f4, f5, f6⟩ := q
      exact ⟨l, o, f1, hu l o f2 (fun z => f4 (.inl z)), f3, f4, f5, f6⟩
/-! ### a law's def: draw = [script, 0], then the rest -/
def spLaw (K : PySem.W.Frag) : Sp := fun vs H Q _ => ∃ (a : Addr) (ns : List Int), vs = [.ref a] ∧ SqL K H a (ns.map V.int) ∧ ns.length ≤ 63 ∧ ∀ H', Q (.bl true) H'
def tDraw : TS := tAsg (tLst (tCons (tVar 0) (tCons (tC (.int 0)) tNil))) (gName 1)
def slotsL (n : Nat) (d s : Addr) : List SV := .d (.adr s) :: .d (.adr d) :: List.replicate (n - 2) .non
theorem slots_law {K : PySem.W.Frag} {c : Cfg} {B : Addr → Prop} {F H : Hp} {n : Nat} {d s : Addr} : Slots K c B F H (some (.ref s) :: some (.ref d) :: List.replicate (n - 2) none) (slotsL n d s) := by
  have hno : ∀ (j : Nat) (x : OV), (slotsL n d s)[j]? ≠ some (.own x) := by
    intro j x e
    unfold slotsL at e
    match j with
    | 0 => cases e
    | 1 => cases e
    | j + 2 =>
      simp only [List.getElem?_cons_succ, List.getElem?_replicate] at e
      split at e <;> cases e
  refine ⟨by simp [slotsL], fun i x e => ?_, fun i j xs ys _ e1 => absurd e1 (hno i xs)⟩
  unfold slotsL at e
  match i with
  | 0 =>
    cases e
    exact ⟨_, rfl, _, rfl, .adr s⟩
  | 1 =>
    cases e
    exact ⟨_, rfl, _, rfl, .adr d⟩
  | i + 2 =>
    simp only [List.getElem?_cons_succ, List.getElem?_replicate] at e ⊢
    split at e
    · rename_i h
      cases e
      exact ⟨none, by rw [if_pos h], rfl⟩
    · cases e
theorem fn_law {Pg : Program} {w : World} {K : PySem.W.Frag} {mg : Str → Option Value} {base : Heap} {x qual : Str} {st : Stmt} {fa : Addr} {fd : FuncData} {Ns ps : List Str} {k : Nat} (F : Fun K x qual st fa fd) (S : FnScope Ns ps (defScope st)) (hps : ps.length = 1) (hN : 2 ≤ Ns.length)
    (hbody : ∀ (cdv : Value) (A : Around) (outer : List Env) (s : Shared) (H : Hp) (E : XK), Room k (A.deeper (PyProof.Rows.envOfC qual (defScope st) s.heap.objs.size fa cdv)) →
      ∃ t, PSs (cxOf CX0 Pg w K mg base Ns qual (defScope st) fa cdv A outer s H E).nox (defBody st) (tSeq tDraw t) ∧ ∀ (d sc : Addr) (ns : List Int) (tr : Bool) (F0 H0 : Hp), ns.length ≤ 63 → Sx K (drawC K d sc ns tr) (fun _ => False) F0 H0 t (slotsL Ns.length d sc) { nx := fun _ => False, rt := fun x => x = .bl true }) :
    FnOk Pg w K mg base CX0 (k + 1) fa fd ps (spLaw K) := by
  refine F.ok S (fun vs H Q E h => ?_) (fun cdv A outer s H vs Q E hr h => ?_)
  · obtain ⟨a, ns, rfl, _⟩ := h
    exact hps.symm
  · obtain ⟨a, ns, rfl, hS, hlen, q⟩ := h
    obtain ⟨t, ht, hs⟩ := hbody cdv A outer s H E hr
    refine ⟨_, ht, ?_⟩
    have e0 : (L2.start Ns [V.ref a]) = some (.ref a) :: none :: List.replicate (Ns.length - 2) none := by
      unfold L2.start
      obtain ⟨n, hn⟩ : ∃ n, Ns.length = n + 2 := ⟨Ns.length - 2, by omega⟩
      rw [hn]
      rfl
    rw [e0]
    refine ⟨.ref a, rfl, by show 2 ≤ sizeLine; decide, fun d hd => ?_⟩
    obtain ⟨tr, hw⟩ : ∃ tr : Bool, (if tr = true then Rd H a (.lst (ns.map V.int)) else Wr K a (ns.map V.int)) := by
      rcases hS with h | h
      · exact ⟨true, h⟩
      · exact ⟨false, h⟩
    have hne : tr = true → d ≠ a := by
      rintro rfl rfl
      rw [if_pos rfl] at hw
      rcases hw with h | ⟨o, h⟩ <;> (rw [hd] at h; cases h)
    have ex : Ex H (upd H d (.lst [.ref a, .int 0])) := Evl.Ex.new hd
    have m : (drawC K d a ns tr).M H (upd H d (.lst [.ref a, .int 0])) := by
      refine ⟨hd, hne, ⟨0, upd_same⟩, ?_⟩
      cases tr with
      | true =>
        rw [if_pos rfl] at hw ⊢
        rcases hw with h | ⟨o, h⟩
        · exact .inl (ex _ _ h)
        · exact .inr ⟨o, ex _ _ h⟩
      | false => exact hw
    exact hs d a ns tr H _ hlen _ H _ _ ⟨Gs.refl ex m, slots_law⟩ (fun _ _ _ _ _ _ p => p.elim) (fun v x F' H' g r p => by
      subst p
      cases r
      exact q H') (fun _ _ _ _ _ _ p => p.elim) (fun _ _ _ _ _ _ p => p.elim)
end
end VL

set_option Elab.async false
set_option linter.all false
set_option maxRecDepth 100000
set_option maxHeartbeats 2000000
namespace K59
open PySem PySem.Spec L2 VL
def topS (i : Nat) : Stmt := PySem.Challenge.pw_finecloud_k59_whole_numbers.main.body.getD i (.Pass ⟨0, 0, 0, 0⟩)
structure Tx (K : PySem.W.Frag) (mg : Str → Option Value) : Prop where
  b_comb : mg "comb" = some (.builtin "math.comb")
  n_int : mg "int" = none
  n_str : mg "str" = none
  n_tuple : mg "tuple" = none
  n_len : mg "len" = none
  n_abs : mg "abs" = none
  n_sum : mg "sum" = none
  n_any : mg "any" = none
  n_range : mg "range" = none
local macro_rules | `(tactic| walk_at "vl side") => `(tactic| first
  | decide
  | omega
  | exact .inl ⟨by decide, by decide⟩
  | exact .inr ⟨by decide, by decide⟩
  | exact ⟨by decide, by decide, by decide⟩
  | (show (0 : Int) < _; omega)
  | (show (0 : Int) ≤ _; omega))
local macro_rules | `(tactic| walk_at "ve") => `(tactic| first
  | (with_reducible refine et_test ?_)
  | (with_reducible refine et_B ?_)
  | (with_reducible refine et_and ?_)
  | (with_reducible refine et_or ?_)
  | (with_reducible refine et_not ?_)
  | (with_reducible refine et_yes ?_)
  | (with_reducible refine ev_op ?_)
  | ((with_reducible refine' ev_var ?vla ?_); (case vla => rfl))
  | (with_reducible refine ev_int ?_)
  | (with_reducible refine ev_bl ?_)
  | (with_reducible refine ev_str ?_)
  | (with_reducible refine ev_non ?_)
  | (with_reducible refine ev_cb ?_)
  | ((with_reducible refine ev_tup ?_))
  | ((with_reducible refine ev_lst ?_))
  | (with_reducible refine ev_call ?_)
  | (with_reducible refine ev_andV ?_)
  | (with_reducible refine ev_orV ?_)
  | (with_reducible refine ev_notV ?_)
  | (with_reducible refine ev_if ?_)
  | (with_reducible refine ev_chain ?_)
  | (with_reducible refine ev_un ?_)
  | (with_reducible refine ev_bits ?_)
  | (with_reducible refine ea_cons ?_)
  | (with_reducible refine ea_nil ?_)
  | ((with_reducible refine eg_name ?_); try dsimp only [List.set])
  | (with_reducible refine eg_tup ?_)
  | (with_reducible refine egs_cons ?_)
  | (with_reducible refine egs_nil ?_)
  | (with_reducible refine rv_I0i ?_)
  | (with_reducible refine rv_I0b ?_)
  | (with_reducible refine rv_eqI ?_)
  | (with_reducible refine rv_neI ?_)
  | ((with_reducible refine rv_Ii ?vla ?_); (case vla => walk_at "vl side"))
  | (with_reducible refine rv1_neg ?_)
  | (with_reducible refine rva_int1 ?_)
  | (with_reducible refine rva_abs ?_)
  | (with_reducible refine rva_min2 ?_)
  | (with_reducible refine rva_max2 ?_)
  | ((with_reducible refine' rva_len ?vla ?_); (case vla => first | exact .inl rfl | exact .inr rfl))
  | ((with_reducible refine' rva_tuple ?vla ?_); (case vla => first | exact .inl rfl | exact .inr rfl))
  | ((with_reducible refine' rva_list ?vla ?_); (case vla => first | exact .inl rfl | exact .inr rfl))
  | ((with_reducible refine rv_catA ?vla ?_); (case vla => simp only [List.length_cons, List.length_nil]; decide))
  | (with_reducible refine' Exists.intro _ (And.intro rfl ?_))
  | ((with_reducible refine And.intro ?vla ?_); (case vla => first | exact Nat.zero_le _ | (with_reducible show List.length _ ≤ 1000000; simp only [List.length_cons, List.length_nil]; decide))))
local macro_rules | `(tactic| walk_at "ves") => `(tactic| (repeat walk_at "ve"))
local macro_rules | `(tactic| walk_at "vl") => `(tactic| first
  | (with_reducible refine sx_seq ?_)
  | (with_reducible refine sx_ret ?_)
  | (with_reducible refine sx_next ?_)
  | (with_reducible refine sx_asg ?_)
  | (with_reducible refine sx_if ?_)
  | (with_reducible refine sx_drop ?_)
  | ((with_reducible refine sx_aug ?_); refine ⟨_, rfl, ?_⟩)
  | walk_at "ve")
local macro_rules | `(tactic| walk_at "vls") => `(tactic| (repeat walk_at "vl"))

/-! ## the module numbers -/












abbrev s_power : Stmt := topS 4
abbrev N_power : List Str := ["times"]
theorem sc_power : FnScope N_power ["times"] (defScope s_power) := ⟨rfl, rfl, rfl, by decide +kernel, rfl, by decide +kernel, by decide +kernel⟩
abbrev s_choices : Stmt := topS 5
abbrev N_choices : List Str := ["many", "some"]
theorem sc_choices : FnScope N_choices ["many", "some"] (defScope s_choices) := ⟨rfl, rfl, rfl, by decide +kernel, rfl, by decide +kernel, by decide +kernel⟩
abbrev s_bits_for : Stmt := topS 6
abbrev N_bits_for : List Str := ["many"]
theorem sc_bits_for : FnScope N_bits_for ["many"] (defScope s_bits_for) := ⟨rfl, rfl, rfl, by decide +kernel, rfl, by decide +kernel, by decide +kernel⟩
abbrev s_bits_of : Stmt := topS 7
abbrev N_bits_of : List Str := ["number", "many", "text", "sign"]
theorem sc_bits_of : FnScope N_bits_of ["number", "many"] (defScope s_bits_of) := ⟨rfl, rfl, rfl, by decide +kernel, rfl, by decide +kernel, by decide +kernel⟩
abbrev s_number_of : Stmt := topS 8
abbrev N_number_of : List Str := ["bits", "bit"]
theorem sc_number_of : FnScope N_number_of ["bits"] (defScope s_number_of) := ⟨rfl, rfl, rfl, by decide +kernel, rfl, by decide +kernel, by decide +kernel⟩
abbrev natD (n : Nat) : DV := .int (n : Int)
abbrev bitsD (l : List Nat) : List DV := l.map natD
theorem okD_bits (n : Nat) (l : List Nat) : okD (n + 1) (.tup (bitsD l)) = true := by
  unfold okD
  rw [List.all_eq_true]
  intro x hx
  obtain ⟨i, _, rfl⟩ := List.mem_map.mp hx
  cases n <;> rfl
def fPower : Cfg → List DV → (DV → Prop) → Prop := fun _ ds P => ∃ n : Nat, ds = [natD n] ∧ n ≤ 1000000 ∧ P (natD (2 ^ n))
def fChoices : Cfg → List DV → (DV → Prop) → Prop := fun _ ds P => ∃ n k : Int, ds = [.int n, .int k] ∧ (0 ≤ n ∧ n < 2 ^ 64 ∧ (k ≤ 9000 ∨ n ≤ 18000)) ∧ P (natD (NM.chI n k))
def fBitsFor : Cfg → List DV → (DV → Prop) → Prop := fun _ ds P => ∃ m : Nat, ds = [natD m] ∧ 1 ≤ m ∧ P (natD (NM.bl m))
def fBitsOf : Cfg → List DV → (DV → Prop) → Prop := fun _ ds P => ∃ n m : Nat, ds = [natD n, natD m] ∧ (m ≤ 600 ∧ n < 2 ^ m) ∧ P (.tup (bitsD (NM.bitsN m n)))
def fNumberOf : Cfg → List DV → (DV → Prop) → Prop := fun _ ds P => ∃ l : List Nat, ds = [.tup (bitsD l)] ∧ ((∀ b ∈ l, b < 2) ∧ l.length ≤ 600) ∧ P (natD (NM.bv l))
section
variable {P : Program} {w : World} {K : PySem.W.Frag} {mg : Str → Option Value} {base : Heap}
theorem ok_power {f : Addr} {fd : FuncData} (F : Fun K "power" "power" s_power f fd) : FnOk P w K mg base CX0 1 f fd ["times"] (SpD K fPower) := by
  refine fn_pure F sc_power (fun c ds P h => ?_) (fun cdv A outer s H E hr => ⟨_, (pss_one (ps_ret (pe_op op_shlW pe_int (pv 0)))), fun c Fr ds P h => ?_⟩)
  · obtain ⟨n, rfl, _⟩ := h
    rfl
  obtain ⟨n, rfl, hn, p⟩ := h
  refine sx_ret (ev_op (ev_int (ev_var rfl (rv_Ii (shl_ok (n := 1) (by decide) (by omega)) ?_))))
  rw [Int.one_mul, Int.toNat_natCast, show ((2 : Int) ^ n) = ((2 ^ n : Nat) : Int) by push_cast; rfl]
  exact p
theorem ok_choices {f : Addr} {fd : FuncData} (F : Fun K "choices" "choices" s_choices f fd) (T : Tx K mg) : FnOk P w K mg base CX0 1 f fd ["many", "some"] (SpD K fChoices) := by
  refine fn_pure F sc_choices (fun c ds P h => ?_) (fun cdv A outer s H E hr => ⟨_, (pss_cons (ps_if (PW.pt (pw_or (pt_cmpR op_lt (pv 1) pe_int (nomark _)) (pw_or1 (pt_cmpR op_gt (pv 1) (pv 0) (nomark _))))) (pss_one (ps_ret pe_int)) pss_nil)
    (pss_one (ps_ret (pe_callBfun VL.cr_comb (by rfl) T.b_comb (pa_cons (pv 0) (pa_cons (pv 1) pa_nil)))))), fun c Fr ds P h => ?_⟩)
  · obtain ⟨n, k, rfl, _⟩ := h
    rfl
  obtain ⟨n, k, rfl, ⟨h1, h2, h3⟩, p⟩ := h
  refine sx_seq (sx_if (et_or (et_test (ev_op (ev_var rfl (ev_int (rv_I0b ⟨_, rfl, ?_⟩)))))))
  by_cases hk : k < 0
  · rw [if_pos (decide_eq_true hk), if_pos rfl]
    refine sx_ret (ev_int ?_)
    have e : NM.chI n k = 0 := if_pos (.inl hk)
    rw [e] at p
    exact p
  · rw [if_neg (by rw [decide_eq_false hk]; exact Bool.false_ne_true)]
    refine et_test (ev_op (ev_var rfl (ev_var rfl (rv_I0b ⟨_, rfl, ?_⟩))))
    by_cases hg : k > n
    · rw [if_pos (decide_eq_true hg)]
      refine sx_ret (ev_int ?_)
      have e : NM.chI n k = 0 := if_pos (.inr hg)
      rw [e] at p
      exact p
    · rw [if_neg (by rw [decide_eq_false hg]; exact Bool.false_ne_true)]
      refine sx_next (sx_ret (ev_cb (ea_cons (ev_var rfl (ea_cons (ev_var rfl (ea_nil (rva_comb ⟨h1, by omega, h2, h3⟩ ?_))))))))
      have e : NM.chI n k = NM.ch n.toNat k.toNat := if_neg (by omega)
      have e1 : n = ((n.toNat : Nat) : Int) := by omega
      have e2 : k = ((k.toNat : Nat) : Int) := by omega
      rw [e] at p
      rw [e1, e2, NM.comb_eq]
      exact p
theorem ok_bits_for {f : Addr} {fd : FuncData} (F : Fun K "bits_for" "bits_for" s_bits_for f fd) : FnOk P w K mg base CX0 1 f fd ["many"] (SpD K fBitsFor) := by
  refine fn_pure F sc_bits_for (fun c ds P h => ?_) (fun cdv A outer s H E hr => ⟨_, (pss_one (ps_ret (pe_bits (pe_op op_sub (pv 0) pe_int)))), fun c Fr ds P h => ?_⟩)
  · obtain ⟨n, rfl, _⟩ := h
    rfl
  obtain ⟨m, rfl, hm, p⟩ := h
  exact sx_ret (ev_bits (ev_op (ev_var rfl (ev_int (rv_I0i ⟨_, rfl, p⟩)))))
theorem ok_bits_of {f : Addr} {fd : FuncData} (F : Fun K "bits_of" "bits_of" s_bits_of f fd) (T : Tx K mg) : FnOk P w K mg base CX0 1 f fd ["number", "many"] (SpD K fBitsOf) := by
  refine fn_pure F sc_bits_of (fun c ds P h => ?_) (fun cdv A outer s H E hr => ⟨_, (pss_cons (ps_if (pt_cmpR op_eq (pv 1) pe_int (nomark _)) (pss_one (ps_ret (pe_tup pa_nil))) pss_nil)
    (pss_cons (ps_set (i := 2) sc_bits_of.nd rfl (.inl rfl) (pe_joined1 (XA.pe_fmtB (pv 0))))
    (pss_one (ps_ret (pe_callTy (x_tupOf K) (by rfl) T.n_tuple (by decide +kernel) (pa_cons (pe_lc (own := [("sign", 3)]) (tt := tYes) rfl sc_bits_of.nd (pi_str (pe_bm PySem.F.plainAttrs_str PySem.F.slot_str_zfill PySem.F.type_str_zfill mt_zfill (pv 2) (pa_cons (pv 1) pa_nil))) (blkOk_by (N := N_bits_of) (sc := defScope s_bits_of) (by decide +kernel)) (fun _ _ _ _ _ => (pg_name (i := 3) sc_bits_of.nd rfl (.inl rfl))) (fun _ _ _ _ _ => pts_nil) (fun _ _ _ _ _ => (pe_callTy x_intS (by rfl) T.n_int (by decide +kernel) (pa_cons (pv 3) pa_nil)))) pa_nil)))))), fun c Fr ds P h => ?_⟩)
  · obtain ⟨n, k, rfl, _⟩ := h
    rfl
  obtain ⟨n, m, rfl, ⟨hm, hn⟩, p⟩ := h
  refine sx_seq (sx_if (et_test (ev_op (ev_var rfl (ev_int (rv_eqI ⟨_, rfl, ?_⟩))))))
  by_cases h0 : m = 0
  · subst h0
    rw [if_pos (by decide)]
    exact sx_ret (ev_tup (ea_nil ⟨Nat.zero_le _, p⟩))
  · rw [if_neg (by rw [decide_eq_false (by omega)]; exact Bool.false_ne_true)]
    have hc := NM.codes_len (show 1 ≤ m by omega) hn
    refine sx_next (sx_seq (sx_asg (ev_fmtB (ev_var rfl ⟨n, rfl, by omega, eg_name ?_⟩))))
    refine sx_ret (ev_cb (ea_cons (ev_en (en_lcMap (own_name (by decide)) (ei_str (ev_bmS (ev_var rfl ⟨_, rfl, ea_cons (ev_var rfl (ea_nil (rvm_zfill (by omega) ⟨_, rfl, ?_⟩)))⟩)))))))
    have hcodes : ∀ k ∈ XA.Bx.bCodes n, k = 48 ∨ k = 49 := by
      obtain ⟨j, _, _, _, e⟩ := NM.codes_bits n
      rw [e]
      intro k hk
      obtain ⟨b, hb, rfl⟩ := List.mem_map.mp hk
      have := NM.bitsN_lt j n b hb
      omega
    rw [zfill_S hcodes hc, NM.codes_pad (show 1 ≤ m by omega) hn]
    have hs : signsD (SX.S ((NM.bitsN m n).map (· + 48))).cps.toList = (NM.bitsN m n).map fun b => .str ⟨#[b + 48]⟩ := by
      unfold signsD SX.S
      simp
    rw [hs]
    refine ⟨by rw [List.length_map, NM.bitsN_len]; omega, fun x => match x with | .str z => .int ((PySem.intText? z).getD 0) | _ => .non, fun x hx => ?_, ?_⟩
    · obtain ⟨b, hb, rfl⟩ := List.mem_map.mp hx
      have hb2 := NM.bitsN_lt m n b hb
      refine eg_name (ev_cb (ea_cons (ev_var rfl (ea_nil (rva_intS (int_sign b hb2) (show 1 ≤ 640 by decide) ?_)))))
      show DV.int (b : Int) = .int ((PySem.intText? (⟨#[b + 48]⟩ : Str)).getD 0)
      rw [int_sign b hb2]
      rfl
    · refine ⟨_, rfl, ea_nil (rva_tuple (.inl rfl) ?_)⟩
      have e : ((NM.bitsN m n).map fun b => (DV.str ⟨#[b + 48]⟩)).map (fun x => match x with | .str z => DV.int ((PySem.intText? z).getD 0) | _ => .non) = bitsD (NM.bitsN m n) := by
        rw [List.map_map]
        refine List.map_congr_left fun b hb => ?_
        show DV.int ((PySem.intText? (⟨#[b + 48]⟩ : Str)).getD 0) = natD b
        rw [int_sign b (NM.bitsN_lt m n b hb)]
        rfl
      rw [e]
      exact p
theorem ok_number_of {f : Addr} {fd : FuncData} (F : Fun K "number_of" "number_of" s_number_of f fd) (T : Tx K mg) : FnOk P w K mg base CX0 1 f fd ["bits"] (SpD K fNumberOf) := by
  refine fn_pure F sc_number_of (fun c ds P h => ?_) (fun cdv A outer s H E hr => ⟨_, (pss_one (ps_ret (pe_callTy VL.cr_int2 (by rfl) T.n_int (by decide +kernel) (pa_cons (pe_op x_addS pe_str (pe_join pe_str (pe_lc (own := [("bit", 1)]) (tt := tYes) rfl sc_number_of.nd (x_tup K (pv 0)) (blkOk_by (N := N_number_of) (sc := defScope s_number_of) (by decide +kernel)) (fun _ _ _ _ _ => (pg_name (i := 1) sc_number_of.nd rfl (.inl rfl))) (fun _ _ _ _ _ => pts_nil) (fun _ _ _ _ _ => (pe_callTy x_strI (by rfl) T.n_str (by decide +kernel) (pa_cons (pv 1) pa_nil)))))) (pa_cons pe_int pa_nil))))), fun c Fr ds P h => ?_⟩)
  · obtain ⟨n, rfl, _⟩ := h
    rfl
  obtain ⟨l, rfl, ⟨hl, hz⟩, p⟩ := h
  refine sx_ret (ev_cb (ea_cons (ev_op (ev_str (ev_join (ev_str ⟨_, rfl, ev_en (en_lcMap (own_name (by decide)) (ei_tup (ev_var rfl ⟨_, rfl, ?_⟩)))⟩))))))
  refine ⟨by rw [List.length_map]; omega, fun x => match x with | .int i => .str (Str.ofString (toString i)) | _ => .non, fun x hx => ?_, ?_⟩
  · obtain ⟨b, hb, rfl⟩ := List.mem_map.mp hx
    have hb2 := hl b hb
    refine eg_name (ev_cb (ea_cons (ev_var rfl (ea_nil (rva_strI ?_ rfl)))))
    have : b = 0 ∨ b = 1 := by omega
    rcases this with e | e <;> subst e <;> decide
  · refine ⟨_, rfl, l.map fun b => SX.S [b + 48], ?_, ?_, ?_⟩
    · rw [List.map_map, List.map_map]
      refine congrArg DV.lst (List.map_congr_left fun b hb => ?_)
      show DV.str (Str.ofString (toString (b : Int))) = DV.str (SX.S [b + 48])
      rw [str_bit b (hl b hb)]
    · have e : (l.map fun b => SX.S [b + 48]).map (·.length) = l.map fun _ => 1 := by
        rw [List.map_map]
        exact List.map_congr_left fun b _ => SX.S_len [b + 48]
      rw [e]
      have e2 : (l.map fun _ => 1).sum = l.length := NM.sum_ones l
      rw [e2]
      show l.length + (l.map _).length * 0 ≤ 1000000
      omega
    · have ej : Txt.join (Str.ofString "") (l.map fun b => SX.S [b + 48]) = SX.S (l.map (· + 48)) := by
        have e0 : (Str.ofString "") = SX.S [] := by decide +kernel
        have e1 : (l.map fun b => SX.S [b + 48]) = (l.map fun b => [b + 48]).map SX.S := by
          rw [List.map_map]
          rfl
        rw [e0, e1, SX.join_S, joinL_one]
        exact congrArg SX.S (NM.flat_ones l)
      rw [ej]
      have e0 : (Str.ofString "0") = SX.S [48] := by decide +kernel
      show RV2 K c _ (.str (Str.ofString "0")) _ _
      rw [e0]
      refine rv_addS (by rw [SX.S_len, SX.S_len, List.length_map]; show 1 + l.length ≤ _; omega) ?_
      rw [SX.S_cat]
      have e2 : [48] ++ l.map (· + 48) = (0 :: l).map (· + 48) := rfl
      rw [e2]
      refine ea_cons (ev_int (ea_nil (rva_int2 (by simp) (by rw [List.length_map]; show l.length + 1 ≤ _; omega) (fun k hk => ?_) ?_)))
      · obtain ⟨b, hb, rfl⟩ := List.mem_map.mp hk
        unfold XA.Bx.IsB
        rcases List.mem_cons.mp hb with rfl | hb
        · exact .inl rfl
        · have := hl b hb
          omega
      · rw [NM.bNum_bits]
        exact p
end

/-! ## the law's draws -/

abbrev s__law_number : Stmt := topS 20
abbrev N__law_number : List Str := ["script", "index", "cell", "blend"]
theorem sc__law_number : FnScope N__law_number ["script", "index"] (defScope s__law_number) := ⟨rfl, rfl, rfl, by decide +kernel, rfl, by decide +kernel, by decide +kernel⟩
abbrev s__law_take : Stmt := topS 21
abbrev N__law_take : List Str := ["draw", "many"]
theorem sc__law_take : FnScope N__law_take ["draw", "many"] (defScope s__law_take) := ⟨rfl, rfl, rfl, by decide +kernel, rfl, by decide +kernel, by decide +kernel⟩
theorem hu64 {k : Nat} {A : Around} (hr : Room k A) : A.units + 64 < cLine := by
  have := hr.un
  omega
def fNumber (K : PySem.W.Frag) : Cfg → List DV → (DV → Prop) → Prop := fun c ds P => ∃ (d s : Addr) (ns : List Int) (tr : Bool) (i : Int), c = drawC K d s ns tr ∧ ds = [.adr s, .int i] ∧ ∀ r : Nat, P (natD r)
def fTake (K : PySem.W.Frag) : Cfg → List DV → (DV → Prop) → Prop := fun c ds P => ∃ (d s : Addr) (ns : List Int) (tr : Bool) (m : Int), c = drawC K d s ns tr ∧ ds = [.adr d, .int m] ∧ 0 < m ∧ ∀ r : Nat, (r : Int) < m → P (natD r)
section
variable {P : Program} {w : World} {K : PySem.W.Frag} {mg : Str → Option Value} {base : Heap}
theorem nat_mod (x m : Int) (h : 0 < m) : ∃ r : Nat, x % m = (r : Int) ∧ (r : Int) < m := by
  have h1 := Int.emod_nonneg x (show m ≠ 0 by omega)
  have h2 := Int.emod_lt_of_pos x h
  exact ⟨(x % m).toNat, by omega, by omega⟩
theorem ok__law_number {f : Addr} {fd : FuncData} (F : Fun K "_law_number" "_law_number" s__law_number f fd) (T : Tx K mg) : FnOk P w K mg base CX0 1 f fd ["script", "index"] (SpD K (fNumber K)) := by
  refine fn_pure F sc__law_number (fun c ds P h => ?_) (fun cdv A outer s H E hr => ⟨_, (pss_cons (ps_if (pt_cmpR (x_eqD K (hu64 hr)) (pv 0) (pe_lst pa_nil) (nomark _)) (pss_one (ps_ret (pe_callTy x_int1 (by rfl) T.n_int (by decide +kernel) (pa_cons (pe_op op_mod (pe_op op_add (pe_op op_mul (pv 1) pe_int) pe_int) pe_int) pa_nil)))) pss_nil)
    (pss_cons (ps_set (i := 2) sc__law_number.nd rfl (.inl rfl) (pe_ix (x_ixL K) (pv 0) (pe_op op_mod (pv 1) (pe_callB (x_len K) (by rfl) T.n_len PySem.boot_len (pa_cons (pv 0) pa_nil))) (fun _ _ => rfl)))
    (pss_cons (ps_if (pt_cmpR op_ge (pe_callB x_abs (by rfl) T.n_abs (by decide +kernel) (pa_cons (pv 2) pa_nil)) (pe_op op_pow pe_int pe_int) (nomark _)) (pss_one (ps_set (i := 2) sc__law_number.nd rfl (.inl rfl) (pe_op op_mod (pv 2) (pe_op op_pow pe_int pe_int)))) pss_nil)
    (pss_cons (ps_set (i := 3) sc__law_number.nd rfl (.inl rfl) (pe_op op_mod (pe_op op_add (pe_op op_mul (pe_op op_add (pv 2) (pe_op op_mul pe_int (pv 1))) pe_int) (pe_op op_mul pe_int (pe_callB (x_len K) (by rfl) T.n_len PySem.boot_len (pa_cons (pv 0) pa_nil)))) pe_int))
    (pss_one (ps_ret (pe_callTy x_int1 (by rfl) T.n_int (by decide +kernel) (pa_cons (pe_op op_mod (pe_op op_add (pe_op op_mul (pe_op op_mod (pe_op op_mul (pv 3) pe_int) pe_int) pe_int) (pv 1)) pe_int) pa_nil)))))))), fun c Fr ds P h => ?_⟩)
  · obtain ⟨d, s, ns, tr, i, _, rfl, _⟩ := h
    rfl
  obtain ⟨d, s, ns, tr, i, rfl, rfl, p⟩ := h
  try dsimp only [cxOf]
  refine (show Sx K _ (fun _ => False) _ _ _ [_, _, .non, .non] _ from ?_)
  walk_at "vls"
  refine rv_eqS ?_
  walk_at "vls"
  by_cases h0 : ns = []
  · rw [if_pos (decide_eq_true h0)]
    walk_at "vls"
    obtain ⟨r, hr1, hr2⟩ := nat_mod (i * 48271 + 12345) 2147483647 (by decide)
    rw [hr1]
    exact p r
  · rw [if_neg (by rw [decide_eq_false h0]; exact Bool.false_ne_true)]
    have hl : 0 < ns.length := (by cases ns with | nil => exact absurd rfl h0 | cons _ _ => exact Nat.succ_pos _)
    walk_at "vls"
    refine rva_lenS ?_
    walk_at "vls"
    obtain ⟨j, hj1, hj2⟩ := nat_mod i (ns.length : Int) (by omega)
    rw [hj1]
    refine rv_script (by omega) hj2 fun cell => eg_name ?_
    dsimp only [List.set]
    refine sx_mid (fun ρ' => ∃ z : Int, ρ' = [.d (.adr s), .d (.int i), .d (.int z), .non]) ?_ ?_
    · walk_at "vls"
      refine if_b (fun _ => ?_) (fun _ => ?_)
      · walk_at "vls"
        exact ⟨_, rfl⟩
      · walk_at "vls"
        exact ⟨_, rfl⟩
    · rintro ρ' ⟨z, rfl⟩
      walk_at "vls"
      refine rva_lenS ?_
      walk_at "vls"
      obtain ⟨g, hg1, hg2⟩ := nat_mod (((z + 977 * i) * 48271 + 31 * (ns.length : Int)) % 2147483647 * 69621 % 2147483629 * 16807 + i) 2147483587 (by decide)
      rw [hg1]
      exact p g
theorem ok__law_take {f : Addr} {fd : FuncData} (F : Fun K "_law_take" "_law_take" s__law_take f fd) (T : Tx K mg) (C__law_number : Cal P w K mg base 1 "_law_number" (SpD K (fNumber K))) : FnOk P w K mg base CX0 2 f fd ["draw", "many"] (SpD K (fTake K)) := by
  refine fn_pure F sc__law_take (fun c ds P h => ?_) (fun cdv A outer s H E hr => ⟨_, (pss_cons (ps_augS (pv 0) pe_int get_list pe_int ip_add set_list)
    (pss_one (ps_ret (pe_op op_mod (pe_callTy x_int1 (by rfl) T.n_int (by decide +kernel) (pa_cons (pe_cal C__law_number hr (by decide) (by rfl) (pa_cons (pe_ix (x_ixL K) (pv 0) pe_int (fun _ _ => rfl)) (pa_cons (pe_callTy x_int1 (by rfl) T.n_int (by decide +kernel) (pa_cons (pe_ix (x_ixL K) (pv 0) pe_int (fun _ _ => rfl)) pa_nil)) pa_nil))) pa_nil)) (pv 1))))), fun c Fr ds P h => ?_⟩)
  · obtain ⟨d, s, ns, tr, i, _, rfl, _⟩ := h
    rfl
  obtain ⟨d, s, ns, tr, m, rfl, rfl, hm, p⟩ := h
  try dsimp only [cxOf]
  refine (show Sx K _ (fun _ => False) _ _ _ [_, _] _ from ?_)
  refine sx_seq (sx_draw rfl ?_)
  walk_at "vls"
  refine rv_draw0 ?_
  walk_at "vls"
  refine rv_draw1 fun n => ?_
  walk_at "vls"
  refine ⟨d, s, ns, tr, n, rfl, rfl, fun r => ?_⟩
  walk_at "vls"
  obtain ⟨g, hg1, hg2⟩ := nat_mod (r : Int) m hm
  rw [hg1]
  exact p g hg2
end

/-! ## the law -/





abbrev s_law : Stmt := topS 31
abbrev N_law : List Str := ["script", "draw", "turn", "many", "some", "one", "number", "least", "bits", "other", "bit"]
theorem sc_law : FnScope N_law ["script"] (defScope s_law) := ⟨rfl, rfl, rfl, by decide +kernel, rfl, by decide +kernel, by decide +kernel⟩
section
variable {P : Program} {w : World} {K : PySem.W.Frag} {mg : Str → Option Value} {base : Heap}
theorem nat64 {n : Nat} (h : n < 2 ^ 64) : -(2 ^ 64 : Int) < (n : Int) ∧ (n : Int) < 2 ^ 64 := by omega
theorem ok_law {f : Addr} {fd : FuncData} (F : Fun K "law" "law" s_law f fd) (T : Tx K mg)
    (C__law_take : Cal P w K mg base 2 "_law_take" (SpD K (fTake K))) (C_choices : Cal P w K mg base 1 "choices" (SpD K fChoices)) (C_power : Cal P w K mg base 1 "power" (SpD K fPower))
    (C_bits_for : Cal P w K mg base 1 "bits_for" (SpD K fBitsFor)) (C_bits_of : Cal P w K mg base 1 "bits_of" (SpD K fBitsOf)) (C_number_of : Cal P w K mg base 1 "number_of" (SpD K fNumberOf)) :
    FnOk P w K mg base CX0 3 f fd ["script"] (spLaw K) := by
  refine fn_law F sc_law rfl (by decide) (fun cdv A outer s H E hr => ⟨_, (pss_cons (ps_set (i := 1) sc_law.nd rfl (.inl rfl) (pe_lst (pa_cons (pv 0) (pa_cons pe_int pa_nil))))
    (pss_cons (ps_for PassesOwn.never rfl (pi_range1 (by rfl) T.n_range (pa_cons pe_int pa_nil)) (pg_name (i := 2) sc_law.nd rfl (.inl rfl)) (pss_cons (ps_set (i := 3) sc_law.nd rfl (.inr rfl) (pe_ifExp (pt_cmpR op_lt (pv 2) pe_int (nomark _)) (pe_cal C__law_take hr (by decide) (by rfl) (pa_cons (pv 1) (pa_cons pe_int pa_nil))) (pe_cal C__law_take hr (by decide) (by rfl) (pa_cons (pv 1) (pa_cons pe_int pa_nil)))))
    (pss_cons (ps_set (i := 4) sc_law.nd rfl (.inl rfl) (pe_op op_sub (pe_cal C__law_take hr (by decide) (by rfl) (pa_cons (pv 1) (pa_cons pe_int pa_nil))) pe_int))
    (pss_cons (ps_if (PW.pt (pw_and (pt_cmpR op_gt (pv 3) pe_int (nomark _)) (pw_and1 (pt_cmpR op_ne (pe_cal C_choices hr (by decide) (by rfl) (pa_cons (pv 3) (pa_cons (pv 4) pa_nil))) (pe_op op_add (pe_cal C_choices hr (by decide) (by rfl) (pa_cons (pe_op op_sub (pv 3) pe_int) (pa_cons (pv 4) pa_nil))) (pe_cal C_choices hr (by decide) (by rfl) (pa_cons (pe_op op_sub (pv 3) pe_int) (pa_cons (pe_op op_sub (pv 4) pe_int) pa_nil)))) (nomark _))))) (pss_one (ps_ret pe_bl)) pss_nil)
    (pss_cons (ps_if (PW.pt (pw_and (pt_cmpR op_lt (pv 2) pe_int (nomark _)) (pw_and1 (pt_cmpR op_ne (pe_callB (x_sum K rfl) (by rfl) T.n_sum (by decide +kernel) (pa_cons (pe_lc (own := [("one", 5)]) (tt := tYes) rfl sc_law.nd (pi_range1 (by rfl) T.n_range (pa_cons (pe_op op_add (pv 3) pe_int) pa_nil)) (blkOk_by (N := N_law) (sc := defScope s_law) (by decide +kernel)) (fun _ _ _ _ _ => (pg_name (i := 5) sc_law.nd rfl (.inl rfl))) (fun _ _ _ _ _ => pts_nil) (fun _ _ _ _ _ => (pe_cal C_choices hr (by decide) (by rfl) (pa_cons (pv 3) (pa_cons (pv 5) pa_nil))))) pa_nil)) (pe_cal C_power hr (by decide) (by rfl) (pa_cons (pv 3) pa_nil)) (nomark _))))) (pss_one (ps_ret pe_bl)) pss_nil)
    (pss_cons (ps_if (PW.pt (pw_or (pt_cmpR op_ne (pe_cal C_choices hr (by decide) (by rfl) (pa_cons (pv 3) (pa_cons (pv 3) pa_nil))) pe_int (nomark _)) (pw_or (pt_cmpR op_ne (pe_cal C_choices hr (by decide) (by rfl) (pa_cons (pv 3) (pa_cons pe_int pa_nil))) pe_int (nomark _)) (pw_or (pt_cmpR op_ne (pe_cal C_choices hr (by decide) (by rfl) (pa_cons (pv 3) (pa_cons (pe_op op_add (pv 3) pe_int) pa_nil))) pe_int (nomark _)) (pw_or1 (pt_cmpR op_ne (pe_cal C_choices hr (by decide) (by rfl) (pa_cons (pv 3) (pa_cons (pe_un un_neg pe_int) pa_nil))) pe_int (nomark _))))))) (pss_one (ps_ret pe_bl)) pss_nil)
    (pss_cons (ps_set (i := 6) sc_law.nd rfl (.inl rfl) (pe_op op_add pe_int (pe_cal C__law_take hr (by decide) (by rfl) (pa_cons (pv 1) (pa_cons (pe_op op_pow pe_int pe_int) pa_nil)))))
    (pss_cons (ps_set (i := 7) sc_law.nd rfl (.inl rfl) (pe_cal C_bits_for hr (by decide) (by rfl) (pa_cons (pv 6) pa_nil)))
    (pss_cons (ps_if (PW.pt (pw_or (pt_cmpR op_lt (pe_cal C_power hr (by decide) (by rfl) (pa_cons (pv 7) pa_nil)) (pv 6) (nomark _)) (pw_or1 (PW.pt (pw_and (pt_cmpR op_gt (pv 7) pe_int (nomark _)) (pw_and1 (pt_cmpR op_ge (pe_cal C_power hr (by decide) (by rfl) (pa_cons (pe_op op_sub (pv 7) pe_int) pa_nil)) (pv 6) (nomark _)))))))) (pss_one (ps_ret pe_bl)) pss_nil)
    (pss_cons (ps_set (i := 8) sc_law.nd rfl (.inl rfl) (pe_cal C_bits_of hr (by decide) (by rfl) (pa_cons (pe_op op_sub (pv 6) pe_int) (pa_cons (pv 7) pa_nil))))
    (pss_cons (ps_if (PW.pt (pw_or (pt_cmpR op_ne (pe_callB (x_len K) (by rfl) T.n_len PySem.boot_len (pa_cons (pv 8) pa_nil)) (pv 7) (nomark _)) (pw_or (pt_cmpR op_ne (pe_cal C_number_of hr (by decide) (by rfl) (pa_cons (pv 8) pa_nil)) (pe_op op_sub (pv 6) pe_int) (nomark _)) (pw_or1 (pt_val (pe_callB (x_any K rfl) (by rfl) T.n_any (by decide +kernel) (pa_cons (pe_lc (own := [("bit", 10)]) (tt := tYes) rfl sc_law.nd (x_tup K (pv 8)) (blkOk_by (N := N_law) (sc := defScope s_law) (by decide +kernel)) (fun _ _ _ _ _ => (pg_name (i := 10) sc_law.nd rfl (.inl rfl))) (fun _ _ _ _ _ => pts_nil) (fun _ _ _ _ _ => (pe_cmpR (x_notIn K) (pv 10) (pe_tup (pa_cons pe_int (pa_cons pe_int pa_nil))) rfl))) pa_nil))))))) (pss_one (ps_ret pe_bl)) pss_nil)
    (pss_one (ps_if (PW.pt (pw_or (pt_cmpR op_ne (pe_cal C_number_of hr (by decide) (by rfl) (pa_cons (pe_op (x_catA K) (pe_tup (pa_cons pe_int (pa_cons pe_int pa_nil))) (pv 8)) pa_nil)) (pe_op op_sub (pv 6) pe_int) (nomark _)) (pw_or1 (pt_cmpR (x_neD K (hu64 hr)) (pe_cal C_bits_of hr (by decide) (by rfl) (pa_cons (pe_op op_sub (pv 6) pe_int) (pa_cons (pe_op op_add (pv 7) pe_int) pa_nil))) (pe_op (x_catA K) (pe_tup (pa_cons pe_int (pa_cons pe_int (pa_cons pe_int pa_nil)))) (pv 8)) (nomark _))))) (pss_one (ps_ret pe_bl)) pss_nil)))))))))))))
    (pss_cons (ps_par (i := 5) (j := 9) rfl sc_law.nd rfl rfl (by decide) rfl rfl (pa_cons (pe_cal C__law_take hr (by decide) (by rfl) (pa_cons (pv 1) (pa_cons pe_int pa_nil))) (pa_cons (pe_cal C__law_take hr (by decide) (by rfl) (pa_cons (pv 1) (pa_cons pe_int pa_nil))) pa_nil)) rfl)
    (pss_cons (ps_if (PW.pt (pw_or (pt_cmpR op_ne (pe_cal C_bits_for hr (by decide) (by rfl) (pa_cons (pe_cal C_power hr (by decide) (by rfl) (pa_cons (pv 5) pa_nil)) pa_nil)) (pv 5) (nomark _)) (pw_or1 (pt_cmpR op_ne (pe_cal C_bits_for hr (by decide) (by rfl) (pa_cons (pe_op op_add (pe_cal C_power hr (by decide) (by rfl) (pa_cons (pv 5) pa_nil)) pe_int) pa_nil)) (pe_op op_add (pv 5) pe_int) (nomark _))))) (pss_one (ps_ret pe_bl)) pss_nil)
    (pss_one (ps_ret (pe_and (pe_cmpR op_eq (pe_op op_mul (pe_cal C_power hr (by decide) (by rfl) (pa_cons (pv 5) pa_nil)) (pe_cal C_power hr (by decide) (by rfl) (pa_cons (pv 9) pa_nil))) (pe_cal C_power hr (by decide) (by rfl) (pa_cons (pe_op op_add (pv 5) (pv 9)) pa_nil)) (nomark _)) (pe_and (pe_cmpR op_eq (pe_cal C_number_of hr (by decide) (by rfl) (pa_cons (pe_tup pa_nil) pa_nil)) pe_int (nomark _)) (pe_and (pe_cmpR (x_eqD K (hu64 hr)) (pe_cal C_bits_of hr (by decide) (by rfl) (pa_cons pe_int (pa_cons pe_int pa_nil))) (pe_tup pa_nil) (nomark _)) (pe_one (pe_cmpR op_eq (pe_cal C_power hr (by decide) (by rfl) (pa_cons pe_int pa_nil)) pe_int (nomark _)))))))))))), fun d s ns tr F0 H0 hns => ?_⟩)
  try dsimp only [cxOf]
  refine (show Sx K _ (fun _ => False) _ _ _ [.d (.adr s), .d (.adr d), .non, .non, .non, .non, .non, .non, .non, .non, .non] _ from ?_)
  refine sx_seq (sx_for (ei_rng1 ?_))
  walk_at "ves"
  refine ⟨by decide, by decide, fun i ρ' => ∃ a b c e g h i j k : SV, ρ' = [.d (.adr s), .d (.adr d), a, b, c, e, g, h, i, j, k], ⟨_, _, _, _, _, _, _, _, _, rfl⟩, ?_, ?_⟩
  · rintro i x ρ' hx ⟨a2, a3, a4, a5, a6, a7, a8, a9, a10, rfl⟩
    obtain ⟨hi, rfl⟩ := rngD_of hx
    walk_at "ves"
    -- many
    refine sx_mid (fun ρ' => ∃ m : Nat, m < 2000 ∧ ((i : Int) < 5 → m < 14) ∧ ρ' = [.d (.adr s), .d (.adr d), .d (.int (0 + (i : Int))), .d (natD m), a4, a5, a6, a7, a8, a9, a10]) (sx_asg ?_) ?_
    · walk_at "ves"
      refine if_d (fun h => ?_) (fun h => ?_)
      · walk_at "ves"
        refine ⟨d, s, ns, tr, _, rfl, rfl, by decide, fun m hm => ?_⟩
        walk_at "ves"
        exact ⟨m, by omega, fun _ => by omega, rfl⟩
      · walk_at "ves"
        refine ⟨d, s, ns, tr, _, rfl, rfl, by decide, fun m hm => ?_⟩
        walk_at "ves"
        exact ⟨m, by omega, fun _ => by omega, rfl⟩
    rintro ρ' ⟨m, hm1, hm2, rfl⟩
    -- some
    refine sx_seq (sx_asg ?_)
    walk_at "ves"
    refine ⟨d, s, ns, tr, _, rfl, rfl, by decide, fun k hk => ?_⟩
    walk_at "ves"
    -- the rule of two neighbours
    refine sx_guardq ?_ ?_
    · walk_at "ves"
      refine if_d (fun h => ?_) (fun h => rfl)
      walk_at "ves"
      refine ⟨_, _, rfl, ⟨by omega, by omega, .inr (by omega)⟩, ?_⟩
      walk_at "ves"
      refine ⟨_, _, rfl, ⟨by omega, by omega, .inr (by omega)⟩, ?_⟩
      walk_at "ves"
      refine ⟨_, _, rfl, ⟨by omega, by omega, .inr (by omega)⟩, ?_⟩
      walk_at "ves"
      rw [NM.chI_pascal m (by omega) ((k : Int) - 2)]
      simp
    -- they add up
    refine sx_guardq ?_ ?_
    · walk_at "ves"
      refine if_d (fun h => ?_) (fun h => rfl)
      walk_at "ves"
      refine ev_en (en_lcMap (own_name (by decide)) (ei_rng1 ?_))
      walk_at "ves"
      refine ⟨by omega, by omega, by rw [rngD_len]; omega, fun x => match x with | .int j => natD (NM.chI (m : Int) j) | _ => .non, fun x hx => ?_, ?_⟩
      · obtain ⟨j, hj, rfl⟩ := List.mem_map.mp hx
        walk_at "ves"
        refine ⟨_, _, rfl, ⟨by omega, by omega, .inr (by omega)⟩, ?_⟩
        rfl
      · walk_at "ves"
        have e : (rngD 0 ((m : Int) + 1).toNat).map (fun x => match x with | .int j => natD (NM.chI (m : Int) j) | _ => .non) = intsD ((List.range (m + 1)).map fun j => ((NM.ch m j : Nat) : Int)) := by
          unfold rngD intsD
          rw [List.map_map, List.map_map, show ((m : Int) + 1).toNat = m + 1 by omega]
          refine List.map_congr_left fun j hj => ?_
          show natD (NM.chI (m : Int) (0 + (j : Int))) = natD (NM.ch m j)
          rw [Int.zero_add, NM.chI_nat]
        rw [e]
        refine rva_sum ?_
        walk_at "ves"
        refine ⟨m, rfl, by omega, ?_⟩
        walk_at "ves"
        have e2 : ((List.range (m + 1)).map fun j => ((NM.ch m j : Nat) : Int)).sum = ((2 ^ m : Nat) : Int) := by
          rw [← NM.sum_ch m, NM.cast_sum, List.map_map]
          rfl
        rw [e2]
        simp
    -- the ends
    refine sx_guardq ?_ ?_
    · walk_at "ves"
      refine ⟨_, _, rfl, ⟨by omega, by omega, .inr (by omega)⟩, ?_⟩
      walk_at "ves"
      refine if_nd (fun h => absurd ?_ h) (fun _ => ?_)
      · rw [NM.chI_nat, NM.ch_self]
        rfl
      walk_at "ves"
      refine ⟨_, _, rfl, ⟨by omega, by omega, .inr (by omega)⟩, ?_⟩
      walk_at "ves"
      refine if_nd (fun h => absurd ?_ h) (fun _ => ?_)
      · rw [show (0 : Int) = ((0 : Nat) : Int) from rfl, NM.chI_nat, NM.ch_zero]
        rfl
      walk_at "ves"
      refine ⟨_, _, rfl, ⟨by omega, by omega, .inr (by omega)⟩, ?_⟩
      walk_at "ves"
      refine if_nd (fun h => absurd ?_ h) (fun _ => ?_)
      · rw [show ((m : Int) + 1) = ((m + 1 : Nat) : Int) from rfl, NM.chI_nat, NM.ch_gt m (m + 1) (by omega)]
        rfl
      walk_at "ves"
      refine ⟨_, _, rfl, ⟨by omega, by omega, .inr (by omega)⟩, ?_⟩
      walk_at "ves"
      rw [NM.chI_neg (by decide)]
      rfl
    -- number
    refine sx_seq (sx_asg ?_)
    walk_at "ves"
    refine ⟨d, s, ns, tr, _, rfl, rfl, by decide, fun n hn => ?_⟩
    walk_at "ves"
    have hn6 : n < 1000000 := by
      have e : (10 : Int) ^ Int.toNat 6 = 1000000 := by decide
      rw [e] at hn
      omega
    clear hn
    have en : (1 : Int) + (n : Int) = ((n + 1 : Nat) : Int) := by omega
    rw [en]
    -- least
    refine sx_seq (sx_asg ?_)
    walk_at "ves"
    refine ⟨n + 1, rfl, by omega, ?_⟩
    walk_at "ves"
    have hb1 := NM.bl_le (n + 1) (by omega)
    have hb2 : ∀ j, n + 1 ≤ 2 ^ j → NM.bl (n + 1) ≤ j := fun j => NM.bl_least (n + 1) j (by omega)
    have hb3 : NM.bl (n + 1) ≤ 20 := hb2 20 (by omega)
    generalize NM.bl (n + 1) = b at hb1 hb2 hb3
    refine sx_guardq ?_ ?_
    · walk_at "ves"
      refine ⟨b, rfl, by omega, ?_⟩
      walk_at "ves"
      refine if_d (fun h => ?_) (fun _ => ?_)
      · omega
      walk_at "ves"
      refine if_d (fun h => ?_) (fun _ => rfl)
      walk_at "ves"
      have eb : (b : Int) - 1 = ((b - 1 : Nat) : Int) := by omega
      rw [eb]
      refine ⟨b - 1, rfl, by omega, ?_⟩
      walk_at "ves"
      refine decide_eq_false fun h2 => ?_
      have := hb2 (b - 1) (by omega)
      omega
    -- bits
    have e1 : ((n + 1 : Nat) : Int) - 1 = (n : Int) := by omega
    refine sx_seq (sx_asg ?_)
    walk_at "ves"
    rw [e1]
    refine ⟨n, b, rfl, ⟨by omega, by omega⟩, ?_⟩
    walk_at "ves"
    have hl : (NM.bitsN b n).length = b := NM.bitsN_len b n
    have hlt := NM.bitsN_lt b n
    have hv : NM.bv (NM.bitsN b n) = n := by rw [NM.bv_bitsN, Nat.mod_eq_of_lt (by omega)]
    refine sx_guardq ?_ ?_
    · walk_at "ves"
      rw [List.length_map, hl]
      refine if_nd (fun h => absurd rfl h) (fun _ => ?_)
      walk_at "ves"
      refine ⟨_, rfl, ⟨hlt, by omega⟩, ?_⟩
      walk_at "ves"
      rw [hv, e1]
      refine if_nd (fun h => absurd rfl h) (fun _ => ?_)
      walk_at "ves"
      refine ev_en (en_lcMap (own_name (by decide)) (ei_tup ?_))
      walk_at "ves"
      refine ⟨by rw [List.length_map, hl]; omega, fun x => match x with | .int j => .bl (!([0, 1] : List Int).contains j) | _ => .non, fun x hx => ?_, ?_⟩
      · obtain ⟨j, hj, rfl⟩ := List.mem_map.mp hx
        walk_at "ves"
        refine rv_inI (ns := [0, 1]) (.inr rfl) ?_
        rfl
      · walk_at "ves"
        have e : (bitsD (NM.bitsN b n)).map (fun x => match x with | .int j => .bl (!([0, 1] : List Int).contains j) | _ => .non) = ((NM.bitsN b n).map fun _ => false).map DV.bl := by
          rw [List.map_map, List.map_map]
          refine List.map_congr_left fun j hj => ?_
          have := hlt j hj
          have h2 : j = 0 ∨ j = 1 := by omega
          rcases h2 with z | z <;> subst z <;> rfl
        rw [e]
        refine rva_any ?_
        walk_at "ves"
        rw [List.any_map]
        exact List.any_eq_false.mpr fun x _ => by simp
    · refine sx_guard ?_ ⟨_, _, _, _, _, _, _, _, _, rfl⟩
      walk_at "ves"
      refine rv_catA (by rw [List.length_map, hl]; show 2 + b ≤ _; omega) ?_
      walk_at "ves"
      refine ⟨0 :: 0 :: NM.bitsN b n, rfl, ⟨fun j hj => ?_, by show (NM.bitsN b n).length + 2 ≤ 600; omega⟩, ?_⟩
      · rcases List.mem_cons.mp hj with z | hj
        · omega
        · rcases List.mem_cons.mp hj with z | hj
          · omega
          · exact hlt j hj
      walk_at "ves"
      have hv2 : NM.bv (0 :: 0 :: NM.bitsN b n) = n := hv
      rw [hv2, e1]
      refine if_nd (fun h => absurd rfl h) (fun _ => ?_)
      walk_at "ves"
      rw [e1]
      refine ⟨n, b + 3, rfl, ⟨by omega, by rw [Nat.pow_succ, Nat.pow_succ, Nat.pow_succ]; omega⟩, ?_⟩
      walk_at "ves"
      refine rv_catA (by rw [List.length_map, hl]; show 3 + b ≤ _; omega) ?_
      have e : ([.int 0, .int 0, .int 0] ++ bitsD (NM.bitsN b n)) = bitsD (NM.bitsN (b + 3) n) := by
        rw [NM.bitsN_more b 3 n (by omega)]
        rfl
      rw [e]
      refine rv_neD (okD_bits 19 _) (okD_bits 19 _) fun z hz => ?_
      walk_at "ves"
      cases z with
      | false => rfl
      | true => exact absurd rfl (hz.mp rfl)
  · rintro ρ' ⟨a2, a3, a4, a5, a6, a7, a8, a9, a10, rfl⟩
    refine sx_seq (sx_par ?_)
    walk_at "ves"
    refine ⟨d, s, ns, tr, _, rfl, rfl, by decide, fun x hx => ?_⟩
    walk_at "ves"
    refine ⟨d, s, ns, tr, _, rfl, rfl, by decide, fun y hy => ?_⟩
    walk_at "ves"
    refine ⟨_, _, rfl, ?_⟩
    dsimp only [List.set]
    have hx2 : x < 60 := by omega
    have hy2 : y < 60 := by omega
    refine sx_guardq ?_ ?_
    · walk_at "ves"
      refine ⟨x, rfl, by omega, ?_⟩
      walk_at "ves"
      refine ⟨2 ^ x, rfl, Nat.one_le_two_pow, ?_⟩
      walk_at "ves"
      rw [NM.bl_pow]
      refine if_nd (fun h => absurd rfl h) (fun _ => ?_)
      walk_at "ves"
      refine ⟨x, rfl, by omega, ?_⟩
      walk_at "ves"
      refine ⟨2 ^ x + 1, rfl, Nat.le_add_left _ _, ?_⟩
      walk_at "ves"
      rw [NM.bl_pow1]
      simp
    refine sx_ret ?_
    walk_at "ves"
    refine ⟨x, rfl, by omega, ?_⟩
    walk_at "ves"
    refine ⟨y, rfl, by omega, ?_⟩
    have hp : 2 ^ x < 2 ^ 64 := Nat.pow_lt_pow_right (by decide) (by omega)
    refine rv_Ii (.inl (nat64 hp)) ?_
    walk_at "ves"
    refine ⟨x + y, rfl, by omega, ?_⟩
    walk_at "ves"
    refine if_d (fun _ => ?_) (fun h => absurd (by rw [Nat.pow_add, Int.natCast_mul]) h)
    walk_at "ves"
    refine ⟨[], rfl, ⟨fun b hb => (nomatch hb), by decide⟩, ?_⟩
    walk_at "ves"
    rw [if_pos (by decide)]
    walk_at "ves"
    refine ⟨0, 0, rfl, ⟨by decide, by decide⟩, ?_⟩
    walk_at "ves"
    refine rv_eqD (okD_bits 19 []) rfl fun z hz => ?_
    walk_at "ves"
    rw [hz.mpr rfl, if_pos rfl]
    walk_at "ves"
    refine ⟨0, rfl, by decide, ?_⟩
    walk_at "ves"
    rfl
end
theorem all_mk {l : PySem.W.OpenLaw} {w : World} {K : PySem.W.Frag} {h : Heap} {mg : Str → Option Value} {fa : Addr} (X : K.In h) (G : h.Ns mainGlobals mg) (hfa : mg "law" = some (.ref fa))
    {od1 an1 : Option Addr} {sl1 : Array (Option Value)} {oc1 kV1 dc1 pm1 cd1 ct1 : Value} {f1 : Addr}
    (a1 : PySem.W.nsIn K mainGlobals "power" = some (some (.ref f1))) (l1 : K.lookup f1 = some ⟨oc1, od1, .func (PySem.W.fnOf "power" "power" (defArgs s_power) (defBody s_power) (defScope s_power) .none kV1 dc1 pm1 an1 cd1 ct1), sl1⟩) (c1 : PySem.W.codeIn K cd1 "power" = true) (k1 : PySem.W.keepIn K (.ref f1) = true)
    {od2 an2 : Option Addr} {sl2 : Array (Option Value)} {oc2 kV2 dc2 pm2 cd2 ct2 : Value} {f2 : Addr}
    (a2 : PySem.W.nsIn K mainGlobals "choices" = some (some (.ref f2))) (l2 : K.lookup f2 = some ⟨oc2, od2, .func (PySem.W.fnOf "choices" "choices" (defArgs s_choices) (defBody s_choices) (defScope s_choices) .none kV2 dc2 pm2 an2 cd2 ct2), sl2⟩) (c2 : PySem.W.codeIn K cd2 "choices" = true) (k2 : PySem.W.keepIn K (.ref f2) = true)
    {od3 an3 : Option Addr} {sl3 : Array (Option Value)} {oc3 kV3 dc3 pm3 cd3 ct3 : Value} {f3 : Addr}
    (a3 : PySem.W.nsIn K mainGlobals "bits_for" = some (some (.ref f3))) (l3 : K.lookup f3 = some ⟨oc3, od3, .func (PySem.W.fnOf "bits_for" "bits_for" (defArgs s_bits_for) (defBody s_bits_for) (defScope s_bits_for) .none kV3 dc3 pm3 an3 cd3 ct3), sl3⟩) (c3 : PySem.W.codeIn K cd3 "bits_for" = true) (k3 : PySem.W.keepIn K (.ref f3) = true)
    {od4 an4 : Option Addr} {sl4 : Array (Option Value)} {oc4 kV4 dc4 pm4 cd4 ct4 : Value} {f4 : Addr}
    (a4 : PySem.W.nsIn K mainGlobals "bits_of" = some (some (.ref f4))) (l4 : K.lookup f4 = some ⟨oc4, od4, .func (PySem.W.fnOf "bits_of" "bits_of" (defArgs s_bits_of) (defBody s_bits_of) (defScope s_bits_of) .none kV4 dc4 pm4 an4 cd4 ct4), sl4⟩) (c4 : PySem.W.codeIn K cd4 "bits_of" = true) (k4 : PySem.W.keepIn K (.ref f4) = true)
    {od5 an5 : Option Addr} {sl5 : Array (Option Value)} {oc5 kV5 dc5 pm5 cd5 ct5 : Value} {f5 : Addr}
    (a5 : PySem.W.nsIn K mainGlobals "number_of" = some (some (.ref f5))) (l5 : K.lookup f5 = some ⟨oc5, od5, .func (PySem.W.fnOf "number_of" "number_of" (defArgs s_number_of) (defBody s_number_of) (defScope s_number_of) .none kV5 dc5 pm5 an5 cd5 ct5), sl5⟩) (c5 : PySem.W.codeIn K cd5 "number_of" = true) (k5 : PySem.W.keepIn K (.ref f5) = true)
    {od6 an6 : Option Addr} {sl6 : Array (Option Value)} {oc6 kV6 dc6 pm6 cd6 ct6 : Value} {f6 : Addr}
    (a6 : PySem.W.nsIn K mainGlobals "_law_number" = some (some (.ref f6))) (l6 : K.lookup f6 = some ⟨oc6, od6, .func (PySem.W.fnOf "_law_number" "_law_number" (defArgs s__law_number) (defBody s__law_number) (defScope s__law_number) .none kV6 dc6 pm6 an6 cd6 ct6), sl6⟩) (c6 : PySem.W.codeIn K cd6 "_law_number" = true) (k6 : PySem.W.keepIn K (.ref f6) = true)
    {od7 an7 : Option Addr} {sl7 : Array (Option Value)} {oc7 kV7 dc7 pm7 cd7 ct7 : Value} {f7 : Addr}
    (a7 : PySem.W.nsIn K mainGlobals "_law_take" = some (some (.ref f7))) (l7 : K.lookup f7 = some ⟨oc7, od7, .func (PySem.W.fnOf "_law_take" "_law_take" (defArgs s__law_take) (defBody s__law_take) (defScope s__law_take) .none kV7 dc7 pm7 an7 cd7 ct7), sl7⟩) (c7 : PySem.W.codeIn K cd7 "_law_take" = true) (k7 : PySem.W.keepIn K (.ref f7) = true)
    {od8 an8 : Option Addr} {sl8 : Array (Option Value)} {oc8 kV8 dc8 pm8 cd8 ct8 : Value} {f8 : Addr}
    (a8 : PySem.W.nsIn K mainGlobals "law" = some (some (.ref f8))) (l8 : K.lookup f8 = some ⟨oc8, od8, .func (PySem.W.fnOf "law" "law" (defArgs s_law) (defBody s_law) (defScope s_law) .none kV8 dc8 pm8 an8 cd8 ct8), sl8⟩) (c8 : PySem.W.codeIn K cd8 "law" = true) (k8 : PySem.W.keepIn K (.ref f8) = true)
    (z9 : PySem.W.nsIn K mainGlobals "comb" = some (some (.builtin "math.comb")))
    (z10 : PySem.W.nsIn K mainGlobals "int" = some none)
    (z11 : PySem.W.nsIn K mainGlobals "str" = some none)
    (z12 : PySem.W.nsIn K mainGlobals "tuple" = some none)
    (z13 : PySem.W.nsIn K mainGlobals "len" = some none)
    (z14 : PySem.W.nsIn K mainGlobals "abs" = some none)
    (z15 : PySem.W.nsIn K mainGlobals "sum" = some none)
    (z16 : PySem.W.nsIn K mainGlobals "any" = some none)
    (z17 : PySem.W.nsIn K mainGlobals "range" = some none) :
    ∃ fd : FuncData, (∀ (s : Shared) (v : Value), BindsTo s fd ⟨[v], []⟩ [("script", v)]) ∧ ∀ base : Heap, K.In base → base.Ns mainGlobals mg → FnOk l.prog w K mg base CX0 3 fa fd ["script"] (spLaw K) := by
  have e := hfa.symm.trans (PySem.W.mg_of X G a8)
  cases e
  have F_power := fun_mk (st := s_power) l1 c1 k1
  have B_power := F_power.binds (ps := ["times"]) fun _ _ _ _ _ _ us hl => match us, hl with | [_], _ => rfl
  have M_power := PySem.W.mg_of X G a1
  have F_choices := fun_mk (st := s_choices) l2 c2 k2
  have B_choices := F_choices.binds (ps := ["many", "some"]) fun _ _ _ _ _ _ us hl => match us, hl with | [_, _], _ => rfl
  have M_choices := PySem.W.mg_of X G a2
  have F_bits_for := fun_mk (st := s_bits_for) l3 c3 k3
  have B_bits_for := F_bits_for.binds (ps := ["many"]) fun _ _ _ _ _ _ us hl => match us, hl with | [_], _ => rfl
  have M_bits_for := PySem.W.mg_of X G a3
  have F_bits_of := fun_mk (st := s_bits_of) l4 c4 k4
  have B_bits_of := F_bits_of.binds (ps := ["number", "many"]) fun _ _ _ _ _ _ us hl => match us, hl with | [_, _], _ => rfl
  have M_bits_of := PySem.W.mg_of X G a4
  have F_number_of := fun_mk (st := s_number_of) l5 c5 k5
  have B_number_of := F_number_of.binds (ps := ["bits"]) fun _ _ _ _ _ _ us hl => match us, hl with | [_], _ => rfl
  have M_number_of := PySem.W.mg_of X G a5
  have F__law_number := fun_mk (st := s__law_number) l6 c6 k6
  have B__law_number := F__law_number.binds (ps := ["script", "index"]) fun _ _ _ _ _ _ us hl => match us, hl with | [_, _], _ => rfl
  have M__law_number := PySem.W.mg_of X G a6
  have F__law_take := fun_mk (st := s__law_take) l7 c7 k7
  have B__law_take := F__law_take.binds (ps := ["draw", "many"]) fun _ _ _ _ _ _ us hl => match us, hl with | [_, _], _ => rfl
  have M__law_take := PySem.W.mg_of X G a7
  have F_law := fun_mk (st := s_law) l8 c8 k8
  have B_law := F_law.binds (ps := ["script"]) fun _ _ _ _ _ _ us hl => match us, hl with | [_], _ => rfl
  have M_law := PySem.W.mg_of X G a8
  have T : Tx K mg := ⟨PySem.W.mg_of X G z9, PySem.W.mg_none_of X G z10, PySem.W.mg_none_of X G z11, PySem.W.mg_none_of X G z12, PySem.W.mg_none_of X G z13, PySem.W.mg_none_of X G z14, PySem.W.mg_none_of X G z15, PySem.W.mg_none_of X G z16, PySem.W.mg_none_of X G z17⟩
  refine ⟨PySem.W.fnOf "law" "law" (defArgs s_law) (defBody s_law) (defScope s_law) .none kV8 dc8 pm8 an8 cd8 ct8, fun s v => .of_eq rfl, fun base _ _ => ?_⟩
  have C_power : Cal l.prog w K mg base 1 "power" (SpD K fPower) := ⟨_, _, _, ok_power F_power, M_power, F_power.kp, B_power⟩
  have C_choices : Cal l.prog w K mg base 1 "choices" (SpD K fChoices) := ⟨_, _, _, ok_choices F_choices T, M_choices, F_choices.kp, B_choices⟩
  have C_bits_for : Cal l.prog w K mg base 1 "bits_for" (SpD K fBitsFor) := ⟨_, _, _, ok_bits_for F_bits_for, M_bits_for, F_bits_for.kp, B_bits_for⟩
  have C_bits_of : Cal l.prog w K mg base 1 "bits_of" (SpD K fBitsOf) := ⟨_, _, _, ok_bits_of F_bits_of T, M_bits_of, F_bits_of.kp, B_bits_of⟩
  have C_number_of : Cal l.prog w K mg base 1 "number_of" (SpD K fNumberOf) := ⟨_, _, _, ok_number_of F_number_of T, M_number_of, F_number_of.kp, B_number_of⟩
  have C__law_number : Cal l.prog w K mg base 1 "_law_number" (SpD K (fNumber K)) := ⟨_, _, _, ok__law_number F__law_number T, M__law_number, F__law_number.kp, B__law_number⟩
  have C__law_take : Cal l.prog w K mg base 2 "_law_take" (SpD K (fTake K)) := ⟨_, _, _, ok__law_take F__law_take T C__law_number, M__law_take, F__law_take.kp, B__law_take⟩
  exact ok_law F_law T C__law_take C_choices C_power C_bits_for C_bits_of C_number_of
end K59
open PySem PySem.W PyProof.Rows
set_option maxHeartbeats 0 in
theorem PySem.Challenge.cw_finecloud_k59_whole_numbers_holds : PySem.Challenge.rw_finecloud_k59_whole_numbers.Holds := by
  w_on; o_law; k_head; (case hw => w_witness2)
  k_fill
  refine L2.walk_of (l := PySem.Challenge.rw_finecloud_k59_whole_numbers) (n := 63) (k := 3) (x := "script") (CX := fun _ => L2.CX0) (sp := fun w => VL.spLaw _) rfl (by decide) rfl ⟨rfl, by decide, by decide⟩ (fun w h Y => PySem.W.kIn_of Y) ?F (fun _ _ a ns hl _ hS => ⟨a, ns, rfl, hS, hl, fun _ => rfl⟩) (fun _ _ _ _ _ h => h)
  case F =>
    intro w mg fa h KX G hmg
    refine' K59.all_mk KX G hmg ?a1 ?l1 ?c1 ?k1 ?a2 ?l2 ?c2 ?k2 ?a3 ?l3 ?c3 ?k3 ?a4 ?l4 ?c4 ?k4 ?a5 ?l5 ?c5 ?k5 ?a6 ?l6 ?c6 ?k6 ?a7 ?l7 ?c7 ?k7 ?a8 ?l8 ?c8 ?k8 ?z9 ?z10 ?z11 ?z12 ?z13 ?z14 ?z15 ?z16 ?z17
    (case a1 => k_is); (case l1 => k_is); (case c1 => k_is); (case k1 => k_is); (case a2 => k_is); (case l2 => k_is); (case c2 => k_is); (case k2 => k_is); (case a3 => k_is); (case l3 => k_is); (case c3 => k_is); (case k3 => k_is); (case a4 => k_is); (case l4 => k_is); (case c4 => k_is); (case k4 => k_is); (case a5 => k_is); (case l5 => k_is); (case c5 => k_is); (case k5 => k_is); (case a6 => k_is); (case l6 => k_is); (case c6 => k_is); (case k6 => k_is); (case a7 => k_is); (case l7 => k_is); (case c7 => k_is); (case k7 => k_is); (case a8 => k_is); (case l8 => k_is); (case c8 => k_is); (case k8 => k_is); (case z9 => k_is); (case z10 => k_is); (case z11 => k_is); (case z12 => k_is); (case z13 => k_is); (case z14 => k_is); (case z15 => k_is); (case z16 => k_is); (case z17 => k_is)
