import PyProof.Rows.All
import Wide.All
import OpenK.AllK
import Wide.FinOn
import KE.KIntText
import KE.IntTextLaws
import KE.KMathGC
import PyProof.RangeFor
import PyProof.FString3
import HandS.Base
import HandS.Call
import HandS.Codes
import HandS.Gcd
import HandS.IntHex
import HandS.FStr
import PyProof.Rows.StrIntSpec
import HandS.StrMore
import HandS.ForExc
import HandS.ForMost
import HandS.Evl
import HandS.Walk
import HandS.Strs
import HandS.WideBits
import HandS.TupAny
import HandS.SortInts
import HandS.DictComp
import HandS.IsInst
import HandS.RevRange
import HandS.Conv
import HandS.Text
import HandS.Deep
import HandS.Style
import HandS.Dict
import HandS.ExcSuper
import PyProof.ExcBaseAll.Exception
import HandS.OwnEq
import HandS.More
import HandS.ListItems
import HandS.SetFor
import HandS.TupMul
import PyProof.TupleOfGen
import HandS.Zip
import KE.GoesMore
import KE.DataFind
import KE.DataMinMax
import HandS.Wide
import PySem.Challenge.RW_finecloud_k60_whole_boxes
set_option Elab.async false
set_option linter.all false
set_option maxRecDepth 100000
/-! my own rules: int(t, 2), f"{n:b}", comb -/
namespace XA
open PySem PySem.Spec PyProof.Rows L2

namespace Bx
open PySem.NumText PySem.Calls
def IsB (c : Nat) : Prop := c = 48 ∨ c = 49
def bNum (l : List Nat) : Nat := l.foldl (fun a c => a * 2 + (c - 48)) 0
theorem dig {c : Nat} (h : IsB c) : digit? c = some (c - 48) := by
  rcases h with h | h <;> (subst h; rfl)
theorem step_b {ds : Array Nat} {b : Bool} {c : Nat} (h : IsB c) : PySem.NumText.step 2 (ds, b) c = some (ds.push (c - 48), true) := by
  rcases h with h | h <;> (subst h; rfl)
theorem foldl_b : ∀ (cs : List Nat) (ds : Array Nat), (∀ c ∈ cs, IsB c) → cs.foldlM (PySem.NumText.step 2) (ds, true) = some (cs.foldl (fun acc c => acc.push (c - 48)) ds, true)
  | [], _, _ => rfl
  | c :: cs, ds, h => by
    rw [List.foldlM_cons, step_b (h c (List.mem_cons_self ..))]
    show cs.foldlM (PySem.NumText.step 2) (ds.push (c - 48), true) = _
    exact foldl_b cs (ds.push (c - 48)) fun d hd => h d (List.mem_cons_of_mem _ hd)
theorem digits_b {cs : List Nat} (h : ∀ c ∈ cs, IsB c) (hne : cs ≠ []) : digits? 2 cs = some (cs.foldl (fun acc c => acc.push (c - 48)) #[]) := by
  cases cs with
  | nil => exact absurd rfl hne
  | cons c cs =>
    unfold digits?
    rw [List.foldlM_cons, step_b (h c (List.mem_cons_self ..))]
    show (cs.foldlM (PySem.NumText.step 2) ((#[] : Array Nat).push (c - 48), true)).bind _ = _
    rw [foldl_b cs _ fun d hd => h d (List.mem_cons_of_mem _ hd)]
    rfl
theorem push_b : ∀ (cs : List Nat) (ds : Array Nat), (cs.foldl (fun acc c => acc.push (c - 48)) ds).foldl (fun acc d => acc * 2 + d) 0 = cs.foldl (fun a c => a * 2 + (c - 48)) (ds.foldl (fun acc d => acc * 2 + d) 0)
  | [], _ => rfl
  | c :: cs, ds => by
    rw [List.foldl_cons, push_b cs (ds.push (c - 48)), List.foldl_cons]
    congr 1
    simp
theorem b_rng {c : Nat} (h : IsB c) : 48 ≤ c ∧ c ≤ 49 := by
  rcases h with h | h <;> omega
theorem dropB {cs : List Nat} (h : ∀ c ∈ cs, IsB c) : cs.dropWhile blank = cs := by
  cases cs with
  | nil => rfl
  | cons c cs => exact dropWhile_of (by have := b_rng (h c (List.mem_cons_self ..)); omega)
theorem signB {cs : List Nat} (h : ∀ c ∈ cs, IsB c) : sign cs = (false, cs) := by
  cases cs with
  | nil => rfl
  | cons c cs =>
    have := b_rng (h c (List.mem_cons_self ..))
    exact sign_of (by omega) (by omega)
theorem basedB {cs : List Nat} (h : ∀ c ∈ cs, IsB c) : based 2 cs = (2, false, cs) := by
  match cs, h with
  | [], _ => rfl
  | [a], h => rcases h a (List.mem_cons_self ..) with e | e <;> (subst e; rfl)
  | a :: c :: r, h =>
    have hc := h c (List.mem_cons_of_mem _ (List.mem_cons_self ..))
    have ha := h a (List.mem_cons_self ..)
    rcases ha with ha | ha <;> rcases hc with hc | hc <;> (subst ha; subst hc; rfl)
theorem read_b {cs : List Nat} (h : ∀ c ∈ cs, IsB c) (hne : cs ≠ []) : (int_private% "readNumeral") 0 2 cs = (int_private% "Numeral.value") ((bNum cs : Nat) : Int) := by
  have hr : ∀ c ∈ cs.reverse, IsB c := fun c hc => h c (List.mem_reverse.mp hc)
  refine (readNumeral_eq 0 2 cs).trans ?_
  rw [dropB h, signB h]
  show judge 0 false (based 2 cs).1 (based 2 cs).2.1 (digits? (based 2 cs).1 (((based 2 cs).2.2.reverse.dropWhile blank).reverse)) = _
  rw [basedB h]
  show judge 0 false 2 false (digits? 2 ((cs.reverse.dropWhile blank).reverse)) = _
  rw [dropB hr, List.reverse_reverse, digits_b h hne]
  show (int_private% "Numeral.value") (((cs.foldl (fun acc c => acc.push (c - 48)) (#[] : Array Nat)).foldl (fun acc d => acc * 2 + d) 0 : Nat) : Int) = _
  have z : (#[] : Array Nat).foldl (fun acc d => acc * 2 + d) 0 = 0 := by first | rfl | simp
  rw [push_b, z] <;> rfl
theorem seen_b {x : Str} (h : ∀ c ∈ x.cps.toList, IsB c) : numTextOf x = x.cps.toList ∧ numSeenOf x = x.cps.toList := by
  have e1 : numTextOf x = x.cps.toList := by
    refine if_pos ?_
    rw [← Array.all_toList, List.all_eq_true]
    intro c hc
    have := b_rng (h c hc)
    exact decide_eq_true (by omega)
  refine ⟨e1, ?_⟩
  show (numTextOf x).takeWhile _ = _
  rw [e1]
  refine takeWhile_all fun c hc => ?_
  have := b_rng (h c hc)
  exact bne_iff_ne.mpr (by omega)
set_option maxHeartbeats 4000000 in
theorem gives_b {x : PySem.Str} {u t : Tok} (hl : x.length ≤ 640) (h : ∀ c ∈ x.cps.toList, IsB c) (hne : x.cps.toList ≠ []) :
    Gives (Builtin.«int.__new__» ⟨[.type "int", .str x u, .int 2 t], []⟩) (.int ((bNum x.cps.toList : Nat) : Int)) :=
  .of_wp fun M A E s Q hQ => by
    obtain ⟨hp, g, d, tk, os⟩ := s
    have f1 := F.conv_sub_int
    have f2 := F.madeHere_int
    have f6 : typeOf (.str x u) = pure (.type "str") := rfl
    obtain ⟨e1, e2⟩ := seen_b h
    have hs : (numSeenOf x).length ≤ 640 := by
      rw [e2, Array.length_toList]
      exact hl
    have hr : (int_private% "readNumeral") 0 2 (numSeenOf x) = (int_private% "Numeral.value") ((bNum x.cps.toList : Nat) : Int) := by
      rw [e2]
      exact read_b h hne
    have ha : ((numSeenOf x).length == (numTextOf x).length) = true := by
      rw [e1, e2]
      exact beq_self_eq_true _
    have hk := Hx.Hid.mk (And.intro hs (And.intro hr ha))
    clear hs hr ha e1 e2 hl hne h
    repeat (any_goals (first
      | assumption
      | ((with_reducible show wpAny _ _ ((int_private% "intFromText") _ _ _) _ _ _); refine Hx.wp_textB hk.out.1 hk.out.2.1 hk.out.2.2 ?_)
      | wp_step))
    all_goals first | exact ⟨_, rfl, hQ⟩ | skip
theorem call_b {prog : Program} {w : World} {A : Around} {E : Value → Shared → Prop} {s : Shared} {Q : Value → Shared → Prop} {x : PySem.Str} {u t : Tok} (hl : x.length ≤ 640) (h : ∀ c ∈ x.cps.toList, IsB c) (hne : x.cps.toList ≠ [])
    (hQ : Q (.int ((bNum x.cps.toList : Nat) : Int) s.toks) { s with toks := s.toks + 1 }) : wpAny (model prog w) A (call (.type "int") [.str x u, .int 2 t]) Q E s :=
  callType_new F.called_int F.newNe_int (Hx.typeCall_int_2 _ _) (Hx.newCall_int_2 _ _) (fun obj => F.initArgs_range_2 obj _ _) F.entry_int_new (gives_b hl h hne).meets (show (Made.int ((bNum x.cps.toList : Nat) : Int)).post _ s from ⟨rfl, hQ⟩)

/-! f"{n:b}" -/
theorem spec_b : ∀ name, Builtin.Float.parseFormatSpec [98] name 62 = .ok { fill := 32, align := 62, type := some 98 } := fun name => by kernel_rfl
end Bx
end XA

set_option Elab.async false
set_option linter.all false
set_option maxRecDepth 100000
set_option maxHeartbeats 4000000
namespace XA
open PySem PySem.Spec PyProof.Rows L2
namespace Bx
open Builtin Builtin.Float
/-- the binary figures of a number, greatest first; 0 is one figure -/
def bCodes (n : Nat) : List Nat := (Nat.toDigits 2 n).map Char.toNat
theorem codes_ne (n : Nat) : Nat.toDigits 2 n ≠ [] := by
  intro h
  have := tDigits_len_ge 2 n
  rw [h] at this
  simp at this
section
variable {prog : Program} {w : World} {A : Around} {E : Value → Shared → Prop} {s : Shared}
theorem field_b {n : Nat} {t : Tok} {Q : Value → Shared → Prop} (hz : (bCodes n).length ≤ sizeLine)
    (h : Q (.str ⟨(bCodes n).toArray⟩ (s.toks + 1)) { s with toks := s.toks + 1 + 1 }) : wpAny (model prog w) A (formatField (.int (n : Int) t) ⟨#[98]⟩) Q E s := by
  show wpAny _ _ (holding [.int (n : Int) t] (pyFormat (.int (n : Int) t) ⟨#[98]⟩)) Q E s
  refine wpAny_holding ?_
  unfold pyFormat
  refine wpAny_bind (wpAny_mkStr ?_ (by decide))
  refine wpAny_bind (m := callSpecial? (.int (n : Int) t) (Str.ofString "__format__") [.str ⟨#[98]⟩ s.toks]) (wpAny_callSpecial?_slot (name := Str.ofString "__format__") (typeIs_int _ _ t) PyProof.Rows.slot_int_format ?_)
  refine wpAny_call (codeAny_call_builtin PyProof.Rows.slot_int_format.plain PyProof.Rows.entry_int_format (PyProof.Rows.slot_int_format.check _ _ _ _ _ _ _ _ (typeIs_int _ _ t) (PyProof.Rows.args_int_format _ _) ?_))
  unfold Builtin.«int.__format__»
  have hne : ((⟨#[98]⟩ : Str).length == 0) = false := by decide
  have hasc : (((⟨#[98]⟩ : Str).cps.toList.drop 1).any (· ≥ 128) || ((⟨#[98]⟩ : Str).cps.getD 0 0 ≥ 128 && !([60, 62, 61, 94] : List Nat).contains ((⟨#[98]⟩ : Str).cps.getD 1 0))) = false := by decide
  have hp := spec_b "int"
  simp only [selfAndOne, noKeywords, Int.intOfSelf, asInt?, asStr?, List.isEmpty_nil, if_true, pure_bind, bind_pure, bind_assoc, hne, hasc, Bool.false_eq_true, if_false,
    show (Value.str ⟨#[98]⟩ s.toks == Value.none) = false from rfl]
  refine wpAny_bind (wpAny_typeNameOf (T := "str") (typeIs_str _ _ _) (by decide) fun _ => ?_)
  first | refine wpAny_bind (wpAny_typeNameOfCut_int ?_) | refine wpAny_bind (wpAny_typeNameOf_int ?_)
  simp only [hp]
  refine wpAny_ite_true (by decide) ?_
  have key : ∀ l : List Nat, l ≠ [] → ∀ neg : Bool, neg = false → (⟨(List.replicate (((-1 : Int) - (((if neg = true then ([45] : List Nat) else []).length : Int) + (0 : Nat) + (0 : Nat)) - ((if l.isEmpty = true then ([] : List Nat) else List.replicate (Int.toNat 0 - l.length) 48 ++ l).length : Int)).toNat) 32 ++ (if neg = true then ([45] : List Nat) else []) ++ [] ++ List.replicate 0 32 ++ (if l.isEmpty = true then ([] : List Nat) else List.replicate (Int.toNat 0 - l.length) 48 ++ l) ++ [] ++ List.replicate 0 32).toArray⟩ : Str) = ⟨l.toArray⟩ := by
    intro l hl neg hn
    subst hn
    have e : l.isEmpty = false := by
      cases l with
      | nil => exact absurd rfl hl
      | cons _ _ => rfl
    rw [e]
    have z : ((-1 : Int) - (((if false = true then ([45] : List Nat) else []).length : Int) + (0 : Nat) + (0 : Nat)) - ((if false = true then ([] : List Nat) else List.replicate (Int.toNat 0 - l.length) 48 ++ l).length : Int)).toNat = 0 := by
      simp
    rw [z]
    simp
  have hd : ∀ l : List Char, (l.map fun c => (if (98 : Nat) == 88 then c.toUpper else c).toNat) = l.map Char.toNat := fun l => rfl
  have hneg : decide ((n : Int) < 0) = false := decide_eq_false (by omega)
  have hl : bCodes n ≠ [] := by
    unfold bCodes
    intro e
    exact codes_ne n (List.map_eq_nil_iff.mp e)
  show wpAny _ _ (retStr _) _ _ _
  unfold retStr
  refine wpAny_bind (wpAny_mkStr (wpAny_pure ?_) ?hs2)
  case hs2 =>
    show Str.length (⟨(List.replicate (((-1 : Int) - (((if decide ((n : Int) < 0) = true then ([45] : List Nat) else []).length : Int) + (0 : Nat) + (0 : Nat)) - ((if (bCodes n).isEmpty = true then ([] : List Nat) else List.replicate (Int.toNat 0 - (bCodes n).length) 48 ++ (bCodes n)).length : Int)).toNat) 32 ++ (if decide ((n : Int) < 0) = true then ([45] : List Nat) else []) ++ [] ++ List.replicate 0 32 ++ (if (bCodes n).isEmpty = true then ([] : List Nat) else List.replicate (Int.toNat 0 - (bCodes n).length) 48 ++ (bCodes n)) ++ [] ++ List.replicate 0 32).toArray⟩ : Str) ≤ _
    rw [key (bCodes n) hl _ hneg]
    simpa [Str.length] using hz
  dsimp only
  refine wpAny_bind (wpAny_isInstance (typeIs_str _ _ _) isSubtype_str_str (wpAny_pure ?_))
  show Q (.str (⟨(List.replicate (((-1 : Int) - (((if decide ((n : Int) < 0) = true then ([45] : List Nat) else []).length : Int) + (0 : Nat) + (0 : Nat)) - ((if (bCodes n).isEmpty = true then ([] : List Nat) else List.replicate (Int.toNat 0 - (bCodes n).length) 48 ++ (bCodes n)).length : Int)).toNat) 32 ++ (if decide ((n : Int) < 0) = true then ([45] : List Nat) else []) ++ [] ++ List.replicate 0 32 ++ (if (bCodes n).isEmpty = true then ([] : List Nat) else List.replicate (Int.toNat 0 - (bCodes n).length) 48 ++ (bCodes n)) ++ [] ++ List.replicate 0 32).toArray⟩ : Str) _) _
  rw [key (bCodes n) hl _ hneg]
  exact h
end
end Bx
/-- {x:b} of an int that is 0 or more -/
def tFmtB (te : TE) : TE := fun σ H Q => te σ H fun x H1 => ∃ n : Nat, x = .int (n : Int) ∧ (Bx.bCodes n).length ≤ sizeLine ∧ Q (.str (SX.S (Bx.bCodes n))) H1
theorem pe_fmtB {X : Cx} {e : Expr} {te : TE} {pos p1 p2 : Pos} {j : Nat} (he : PE X e te) :
    PE X (.FormattedValue e (-1) (some (.JoinedStr [.Constant (.str "b") j p1] p2)) pos) (tFmtB te) := by
  refine ⟨fun pins s σ H Q I h => ?_⟩
  refine wpAny_FormattedValue_spec (thn (he.run pins s σ H _ I h) fun v s1 hv => ?_)
  obtain ⟨x, H1, I1, r1, n, rfl, hz, q⟩ := hv
  obtain ⟨t, rfl⟩ := r1
  refine wpAny_JoinedStr_one ?_
  refine wpAny_Constant_str ?_
  exact ⟨_, _, rfl, Bx.field_b hz ⟨.str (SX.S (Bx.bCodes n)), H1, (I1.tok _).tok _, ⟨_, rfl⟩, q⟩⟩
end XA

set_option Elab.async false
set_option linter.all false
set_option maxRecDepth 100000
/-! data, and what readings make of them -/
namespace VL
open PySem PySem.Spec L2
open Evl (Ex)

inductive DV where
  | non | bl (b : Bool) | int (i : Int) | str (x : Str) | ty (n : String) | lst (xs : List DV) | tup (xs : List DV) | ins (c : Addr) (fs : List (Str × DV)) | adr (a : Addr) | tuf (xs : List DV)

mutual
/-- what a value stands for, its objects in the still part F -/
inductive Rel (K : PySem.W.Frag) (F : Hp) : V → DV → Prop where
  | non : Rel K F .non .non
  | bl (b : Bool) : Rel K F (.bl b) (.bl b)
  | int (i : Int) : Rel K F (.int i) (.int i)
  | str (x : Str) : Rel K F (.str x) (.str x)
  | ty (n : String) : Rel K F (.ty n) (.ty n)
  | adr (a : Addr) : Rel K F (.ref a) (.adr a)
  | lst {a : Addr} {xs : List V} {ds : List DV} : F a = some (.lst xs) → RelA K F xs ds → Rel K F (.ref a) (.lst ds)
  | tup {a : Addr} {xs : List V} {ds : List DV} : SqT K F a xs → RelA K F xs ds → Rel K F (.ref a) (.tup ds)
  | ins {a C dx : Addr} {fs : List (Str × V)} {ds : List (Str × DV)} : F a = some (.ins C dx fs) → RelF K F fs ds → Rel K F (.ref a) (.ins C ds)
  | tuf {a : Addr} {o : Obj} {xs : List V} {ds : List DV} : F a = some (.frz o (.tup xs)) → o.dict = none → o.cls = .type "tuple" → RelA K F xs ds → Rel K F (.ref a) (.tuf ds)
inductive RelA (K : PySem.W.Frag) (F : Hp) : List V → List DV → Prop where
  | nil : RelA K F [] []
  | cons {v : V} {vs : List V} {d : DV} {ds : List DV} : Rel K F v d → RelA K F vs ds → RelA K F (v :: vs) (d :: ds)
inductive RelF (K : PySem.W.Frag) (F : Hp) : List (Str × V) → List (Str × DV) → Prop where
  | nil : RelF K F [] []
  | cons {n : Str} {v : V} {vs : List (Str × V)} {d : DV} {ds : List (Str × DV)} : Rel K F v d → RelF K F vs ds → RelF K F ((n, v) :: vs) ((n, d) :: ds)
end

section
variable {K : PySem.W.Frag} {F F' : Hp}
mutual
theorem Rel.mono (e : Ex F F') : ∀ {v d}, Rel K F v d → Rel K F' v d
  | _, _, .non => .non
  | _, _, .bl b => .bl b
  | _, _, .int i => .int i
  | _, _, .str x => .str x
  | _, _, .ty n => .ty n
  | _, _, .adr a => .adr a
  | _, _, .lst h r => .lst (e _ _ h) (RelA.mono e r)
  | _, _, .tup h r => .tup (Evl.ex_t e h) (RelA.mono e r)
  | _, _, .ins h r => .ins (e _ _ h) (RelF.mono e r)
  | _, _, .tuf h d c r => .tuf (e _ _ h) d c (RelA.mono e r)
theorem RelA.mono (e : Ex F F') : ∀ {vs ds}, RelA K F vs ds → RelA K F' vs ds
  | _, _, .nil => .nil
  | _, _, .cons h r => .cons (Rel.mono e h) (RelA.mono e r)
theorem RelF.mono (e : Ex F F') : ∀ {vs ds}, RelF K F vs ds → RelF K F' vs ds
  | _, _, .nil => .nil
  | _, _, .cons h r => .cons (Rel.mono e h) (RelF.mono e r)
end
theorem RelA.len : ∀ {vs ds}, RelA K F vs ds → vs.length = ds.length
  | _, _, .nil => rfl
  | _, _, .cons _ r => congrArg (· + 1) r.len
theorem RelA.get : ∀ {vs : List V} {ds : List DV} {i : Nat} {d : DV}, RelA K F vs ds → ds[i]? = some d → ∃ v, vs[i]? = some v ∧ Rel K F v d
  | _, _, _, _, .nil, e => by simp at e
  | _, _, 0, _, .cons h _, e => ⟨_, rfl, by simp at e; subst e; exact h⟩
  | _, _, i + 1, d, .cons _ r, e => by
    obtain ⟨v, h1, h2⟩ := RelA.get (i := i) (d := d) r (by simpa using e)
    exact ⟨v, by simpa using h1, h2⟩
theorem RelA.getV : ∀ {vs : List V} {ds : List DV} {i : Nat} {v : V}, RelA K F vs ds → vs[i]? = some v → ∃ d, ds[i]? = some d ∧ Rel K F v d
  | _, _, _, _, .nil, e => by simp at e
  | _, _, 0, _, .cons h _, e => ⟨_, rfl, by simp at e; subst e; exact h⟩
  | _, _, i + 1, d, .cons _ r, e => by
    obtain ⟨v, h1, h2⟩ := RelA.getV (i := i) (v := d) r (by simpa using e)
    exact ⟨v, by simpa using h1, h2⟩
theorem RelA.app : ∀ {vs ws : List V} {ds es : List DV}, RelA K F vs ds → RelA K F ws es → RelA K F (vs ++ ws) (ds ++ es)
  | _, _, _, _, .nil, s => s
  | _, _, _, _, .cons h r, s => .cons h (r.app s)
theorem RelA.snoc {vs : List V} {ds : List DV} {v : V} {d : DV} (r : RelA K F vs ds) (h : Rel K F v d) : RelA K F (vs ++ [v]) (ds ++ [d]) := r.app (.cons h .nil)
theorem RelA.take : ∀ {vs : List V} {ds : List DV} (n : Nat), RelA K F vs ds → RelA K F (vs.take n) (ds.take n)
  | _, _, 0, _ => .nil
  | _, _, _ + 1, .nil => .nil
  | _, _, n + 1, .cons h r => .cons h (r.take n)
theorem RelA.drop : ∀ {vs : List V} {ds : List DV} (n : Nat), RelA K F vs ds → RelA K F (vs.drop n) (ds.drop n)
  | _, _, 0, r => r
  | _, _, _ + 1, .nil => .nil
  | _, _, n + 1, .cons _ r => r.drop n
theorem RelA.set {v : V} {d : DV} (h : Rel K F v d) : ∀ {vs : List V} {ds : List DV} (i : Nat), RelA K F vs ds → RelA K F (vs.set i v) (ds.set i d)
  | _, _, _, .nil => .nil
  | _, _, 0, .cons _ r => .cons h r
  | _, _, i + 1, .cons g r => .cons g (RelA.set h i r)
theorem RelF.look {f : Str} : ∀ {vs ds} {d : DV}, RelF K F vs ds → ds.lookup f = some d → ∃ v, vs.lookup f = some v ∧ Rel K F v d
  | _, _, _, .nil, e => by cases e
  | (n, v) :: vs, (_, d) :: ds, d', .cons h r, e => by
    unfold List.lookup at e ⊢
    cases q : f == n with
    | true =>
      rw [q] at e
      simp at e
      subst e
      exact ⟨v, rfl, h⟩
    | false =>
      rw [q] at e
      exact r.look e
theorem RelF.no {f : Str} : ∀ {vs ds}, RelF K F vs ds → ds.lookup f = none → vs.lookup f = none
  | _, _, .nil, _ => rfl
  | (n, v) :: vs, (_, d) :: ds, .cons h r, e => by
    unfold List.lookup at e ⊢
    cases q : f == n with
    | true =>
      rw [q] at e
      cases e
    | false =>
      rw [q] at e
      exact r.no e
end

/-- what may change (T), what holds of it (M) -/
structure Cfg where
  T : Addr → Prop
  M : Hp → Hp → Prop
  st : ∀ F H F' H', (∀ a o, T a → H a = some o → H' a = some o) → (∀ a, T a → F a = none → F' a = none) → M F H → M F' H'
  al : ∀ F H a, M F H → T a → H a ≠ none

/-- on from the still part F of the heap H to F' of H' -/
structure Go (c : Cfg) (F H F' H' : Hp) : Prop where
  ff : Ex F F'
  fh : Ex F' H'
  hh : ∀ a o, H a = some o → ¬ c.T a → H' a = some o
  dom : ∀ a o, H a = some o → H' a ≠ none
  fr : ∀ a o, H a = some o → F a = none → F' a = none
  m : c.M F' H'
theorem Go.refl {c : Cfg} {F H : Hp} (e : Ex F H) (m : c.M F H) : Go c F H F H := ⟨Evl.Ex.refl F, e, fun _ _ h _ => h, fun a o h z => (by rw [h] at z; cases z), fun _ _ _ h => h, m⟩
theorem Go.trans {c : Cfg} {F H F1 H1 F2 H2 : Hp} (a : Go c F H F1 H1) (b : Go c F1 H1 F2 H2) : Go c F H F2 H2 := by
  refine ⟨a.ff.trans b.ff, b.fh, fun x o h t => b.hh x o (a.hh x o h t) t, fun x o h => ?_, fun x o h z => ?_, b.m⟩
  · cases q : H1 x with
    | none => exact absurd q (a.dom x o h)
    | some o1 => exact b.dom x o1 q
  · cases q : H1 x with
    | none => exact absurd q (a.dom x o h)
    | some o1 => exact b.fr x o1 q (a.fr x o h z)
/-- a new still object -/
theorem Go.new {c : Cfg} {F H : Hp} {p : Addr} {o : HO} (e : Ex F H) (m : c.M F H) (h : H p = none) : Go c F H (upd F p o) (upd H p o) := by
  have hf : F p = none := by
    cases q : F p with
    | none => rfl
    | some o1 => rw [e p o1 q] at h; cases h
  refine ⟨Evl.Ex.new hf, fun a u q => ?_, fun a u q _ => ?_, fun a u q => ?_, fun a u q z => ?_, c.st _ _ _ _ (fun a u _ q => Evl.Ex.new h a u q) (fun a ta q => ?_) m⟩
  · unfold upd at q ⊢
    split at q
    · rename_i z
      rw [if_pos z]
      exact q
    · rename_i z
      rw [if_neg z]
      exact e a u q
  · rw [upd_ne (ne_of_none q h)]
    exact q
  · rw [upd_ne (ne_of_none q h), q]
    exact fun z => nomatch z
  · rw [upd_ne (ne_of_none q h)]
    exact z
  · rw [upd_ne (show a ≠ p from fun z => c.al F H a m ta (by rw [z]; exact h))]
    exact q
/-- a new object that is not still -/
theorem Go.newM {c : Cfg} {F H : Hp} {p : Addr} {o : HO} (e : Ex F H) (m : c.M F H) (h : H p = none) : Go c F H F (upd H p o) := by
  refine ⟨Evl.Ex.refl F, e.trans (Evl.Ex.new h), fun a u q _ => ?_, fun a u q => ?_, fun a u q z => z, c.st _ _ _ _ (fun a u _ q => Evl.Ex.new h a u q) (fun _ _ q => q) m⟩
  · rw [upd_ne (ne_of_none q h)]
    exact q
  · rw [upd_ne (ne_of_none q h), q]
    exact fun z => nomatch z

/-- what a slot holds: nothing, data, a list of one's own, anything -/
inductive OV where
  | lst (xs : List DV) | obj (a C : Addr) (fs : List (Str × DV)) | dK (kvs : List (Key × DV)) | st (w : World) (a : Addr) (S : Int → Bool) (n : Nat)
inductive SV where
  | non | d (x : DV) | own (o : OV) | any
def RelKV (K : PySem.W.Frag) (F : Hp) : List (Key × V) → List (Key × DV) → Prop := Paired fun p q => p.1 = q.1 ∧ Rel K F p.2 q.2
def RelO (K : PySem.W.Frag) (F : Hp) : HO → OV → Prop
  | .lst vs, .lst ds => RelA K F vs ds
  | .ins C _ fs, .obj _ C' ds => C = C' ∧ RelF K F fs ds
  | .dK kvs, .dK ds => RelKV K F kvs ds
  | o, .st w a S n => o = SetO w a S n
  | _, _ => False
theorem RelKV.mono {K : PySem.W.Frag} {F F' : Hp} (e : Ex F F') : ∀ {vs : List (Key × V)} {ds : List (Key × DV)}, RelKV K F vs ds → RelKV K F' vs ds
  | _, _, .nil => .nil
  | _, _, .cons h r => .cons ⟨h.1, h.2.mono e⟩ (RelKV.mono e r)
theorem RelO.mono {K : PySem.W.Frag} {F F' : Hp} (e : Ex F F') {o : HO} {x : OV} (h : RelO K F o x) : RelO K F' o x := by
  cases x with
  | lst ds =>
    cases o with
    | lst vs => exact RelA.mono e h
    | _ => exact h
  | obj a C ds =>
    cases o with
    | ins C' dx fs => exact ⟨h.1, RelF.mono e h.2⟩
    | _ => exact h
  | dK ds =>
    cases o with
    | dK kvs => exact RelKV.mono e h
    | _ => exact h
  | st w a S n => cases o <;> exact h

def OvAt (l : Addr) : OV → Prop
  | .obj a _ _ => l = a
  | .st _ a _ _ => l = a
  | _ => True
def SlotOk (K : PySem.W.Frag) (c : Cfg) (B : Addr → Prop) (F H : Hp) : Option V → SV → Prop
  | v, .non => v = none
  | _, .any => True
  | v, .d x => ∃ y, v = some y ∧ Rel K F y x
  | v, .own x => ∃ l o, v = some (.ref l) ∧ H l = some o ∧ F l = none ∧ ¬ c.T l ∧ (B l ∧ OvAt l x) ∧ RelO K F o x
structure Slots (K : PySem.W.Frag) (c : Cfg) (B : Addr → Prop) (F H : Hp) (σ : St) (ρ : List SV) : Prop where
  len : σ.length = ρ.length
  ok : ∀ (i : Nat) (s : SV), ρ[i]? = some s → ∃ v, σ[i]? = some v ∧ SlotOk K c B F H v s
  dj : ∀ (i j : Nat) (xs ys : OV), i ≠ j → ρ[i]? = some (.own xs) → ρ[j]? = some (.own ys) → σ[i]? ≠ σ[j]?
section
variable {K : PySem.W.Frag} {c : Cfg} {B : Addr → Prop} {F H F' H' : Hp} {σ : St} {ρ : List SV}
theorem SlotOk.go (g : Go c F H F' H') : ∀ {v : Option V} {s : SV}, SlotOk K c B F H v s → SlotOk K c B F' H' v s
  | _, .non, h => h
  | _, .any, _ => trivial
  | _, .d _, h => by
    obtain ⟨y, e, r⟩ := h
    exact ⟨y, e, r.mono g.ff⟩
  | _, .own _, h => by
    obtain ⟨l, vs, e, h1, h2, h3, h4, r⟩ := h
    exact ⟨l, vs, e, g.hh l _ h1 h3, g.fr l _ h1 h2, h3, h4, r.mono g.ff⟩
theorem Slots.go (S : Slots K c B F H σ ρ) (g : Go c F H F' H') : Slots K c B F' H' σ ρ :=
  ⟨S.len, fun i s e => by
    obtain ⟨v, e1, h⟩ := S.ok i s e
    exact ⟨v, e1, h.go g⟩, S.dj⟩
theorem Slots.dat (S : Slots K c B F H σ ρ) {i : Nat} {x : DV} (e : ρ[i]? = some (.d x)) : ∃ v, σ[i]? = some (some v) ∧ Rel K F v x := by
  obtain ⟨v, e1, y, rfl, r⟩ := S.ok i _ e
  exact ⟨y, e1, r⟩
/-- data into a slot -/
theorem Slots.put (S : Slots K c B F H σ ρ) (i : Nat) {v : V} {x : DV} (r : Rel K F v x) : Slots K c B F H (σ.set i (some v)) (ρ.set i (.d x)) := by
  refine ⟨by rw [List.length_set, List.length_set]; exact S.len, fun j s e => ?_, fun j k xs ys hjk e1 e2 => ?_⟩
  · by_cases h : i = j
    · subst h
      have hl : i < ρ.length := by
        have := (List.getElem?_eq_some_iff.mp e).1
        rw [List.length_set] at this
        exact this
      rw [List.getElem?_set_self hl] at e
      refine ⟨some v, List.getElem?_set_self (by rw [S.len]; exact hl), ?_⟩
      cases e
      exact ⟨v, rfl, r⟩
    · rw [List.getElem?_set_ne h] at e
      obtain ⟨w, e1, q⟩ := S.ok j s e
      exact ⟨w, by rw [List.getElem?_set_ne h]; exact e1, q⟩
  · have n1 : i ≠ j := by
      intro z
      subst z
      have hl := (List.getElem?_eq_some_iff.mp e1).1
      rw [List.length_set] at hl
      rw [List.getElem?_set_self hl] at e1
      cases e1
    have n2 : i ≠ k := by
      intro z
      subst z
      have hl := (List.getElem?_eq_some_iff.mp e2).1
      rw [List.length_set] at hl
      rw [List.getElem?_set_self hl] at e2
      cases e2
    rw [List.getElem?_set_ne n1] at e1 ⊢
    rw [List.getElem?_set_ne n2] at e2 ⊢
    exact S.dj j k xs ys hjk e1 e2
/-- a slot forgotten -/
theorem Slots.wipe1 (S : Slots K c B F H σ ρ) (i : Nat) : Slots K c B F H (σ.set i none) (ρ.set i .non) := by
  refine ⟨by rw [List.length_set, List.length_set]; exact S.len, fun j s e => ?_, fun j k xs ys hjk e1 e2 => ?_⟩
  · by_cases h : i = j
    · subst h
      have hl : i < ρ.length := by
        have := (List.getElem?_eq_some_iff.mp e).1
        rw [List.length_set] at this
        exact this
      rw [List.getElem?_set_self hl] at e
      refine ⟨none, List.getElem?_set_self (by rw [S.len]; exact hl), ?_⟩
      cases e
      rfl
    · rw [List.getElem?_set_ne h] at e
      obtain ⟨w, e1, q⟩ := S.ok j s e
      exact ⟨w, by rw [List.getElem?_set_ne h]; exact e1, q⟩
  · have n1 : i ≠ j := by
      intro z
      subst z
      have hl := (List.getElem?_eq_some_iff.mp e1).1
      rw [List.length_set] at hl
      rw [List.getElem?_set_self hl] at e1
      cases e1
    have n2 : i ≠ k := by
      intro z
      subst z
      have hl := (List.getElem?_eq_some_iff.mp e2).1
      rw [List.length_set] at hl
      rw [List.getElem?_set_self hl] at e2
      cases e2
    rw [List.getElem?_set_ne n1] at e1 ⊢
    rw [List.getElem?_set_ne n2] at e2 ⊢
    exact S.dj j k xs ys hjk e1 e2
def wipeR (ρ : List SV) : List Nat → List SV
  | [] => ρ
  | v :: vs => (wipeR ρ vs).set v .non
theorem Slots.wipes (S : Slots K c B F H σ ρ) : ∀ vs : List Nat, Slots K c B F H (wipe σ vs) (wipeR ρ vs)
  | [] => S
  | v :: vs => (S.wipes vs).wipe1 v
end

/-! ### expressions -/
def Ev (K : PySem.W.Frag) (c : Cfg) (t : TE) (ρ : List SV) (P : DV → Prop) : Prop := ∀ (B : Addr → Prop) (σ : St) (F H : Hp), Slots K c B F H σ ρ → Ex F H → c.M F H → ∀ Q : VK, (∀ v d F' H', Go c F H F' H' → Rel K F' v d → P d → Q v H') → t σ H Q
def EvT (K : PySem.W.Frag) (c : Cfg) (t : TT) (ρ : List SV) (P : Bool → Prop) : Prop := ∀ (B : Addr → Prop) (σ : St) (F H : Hp), Slots K c B F H σ ρ → Ex F H → c.M F H → ∀ Q : Bool → Hp → Prop, (∀ b F' H', Go c F H F' H' → P b → Q b H') → t σ H Q
def EvA (K : PySem.W.Frag) (c : Cfg) (t : TA) (ρ : List SV) (P : List DV → Prop) : Prop := ∀ (B : Addr → Prop) (σ : St) (F H : Hp), Slots K c B F H σ ρ → Ex F H → c.M F H → ∀ Q : List V → Hp → Prop, (∀ vs ds F' H', Go c F H F' H' → RelA K F' vs ds → P ds → Q vs H') → t σ H Q
def EvO (K : PySem.W.Frag) (c : Cfg) (t : TO) (ρ : List SV) (P : Option Int → Prop) : Prop := ∀ (B : Addr → Prop) (σ : St) (F H : Hp), Slots K c B F H σ ρ → Ex F H → c.M F H → ∀ Q : Option Int → Hp → Prop, (∀ o F' H', Go c F H F' H' → P o → Q o H') → t σ H Q
def RV1 (K : PySem.W.Frag) (c : Cfg) (r : V → Hp → VK → Prop) (x : DV) (P : DV → Prop) : Prop := ∀ (F H : Hp) (v : V), Rel K F v x → Ex F H → c.M F H → ∀ Q : VK, (∀ v d F' H', Go c F H F' H' → Rel K F' v d → P d → Q v H') → r v H Q
def RV2 (K : PySem.W.Frag) (c : Cfg) (r : R2) (x y : DV) (P : DV → Prop) : Prop := ∀ (F H : Hp) (v w : V), Rel K F v x → Rel K F w y → Ex F H → c.M F H → ∀ Q : VK, (∀ v d F' H', Go c F H F' H' → Rel K F' v d → P d → Q v H') → r v w H Q
def RVA (K : PySem.W.Frag) (c : Cfg) (r : List V → Hp → VK → Prop) (xs : List DV) (P : DV → Prop) : Prop := ∀ (F H : Hp) (vs : List V), RelA K F vs xs → Ex F H → c.M F H → ∀ Q : VK, (∀ v d F' H', Go c F H F' H' → Rel K F' v d → P d → Q v H') → r vs H Q
def RVM (K : PySem.W.Frag) (c : Cfg) (r : V → List V → Hp → VK → Prop) (x : DV) (xs : List DV) (P : DV → Prop) : Prop := ∀ (F H : Hp) (v : V) (vs : List V), Rel K F v x → RelA K F vs xs → Ex F H → c.M F H → ∀ Q : VK, (∀ v d F' H', Go c F H F' H' → Rel K F' v d → P d → Q v H') → r v vs H Q

section
variable {K : PySem.W.Frag} {c : Cfg} {ρ : List SV} {P P' : DV → Prop} {t ta tb tc : TE}
theorem Ev.imp (h : Ev K c t ρ P) (k : ∀ d, P d → P' d) : Ev K c t ρ P' := fun B σ F H S e m Q q => h B σ F H S e m Q fun v d F' H' g r p => q v d F' H' g r (k d p)
theorem EvT.imp {t : TT} {P P' : Bool → Prop} (h : EvT K c t ρ P) (k : ∀ d, P d → P' d) : EvT K c t ρ P' := fun B σ F H S e m Q q => h B σ F H S e m Q fun b F' H' g p => q b F' H' g (k b p)
theorem ev_var {i : Nat} {x : DV} (e : ρ[i]? = some (.d x)) (h : P x) : Ev K c (tVar i) ρ P := fun B σ F H S ex m Q q => by
  obtain ⟨v, e1, r⟩ := S.dat e
  exact ⟨v, e1, q v x F H (Go.refl ex m) r h⟩
theorem ev_int {i : Int} (h : P (.int i)) : Ev K c (tC (.int i)) ρ P := fun _ _ F H _ ex m Q q => q _ _ F H (Go.refl ex m) (.int i) h
theorem ev_bl {b : Bool} (h : P (.bl b)) : Ev K c (tC (.bl b)) ρ P := fun _ _ F H _ ex m Q q => q _ _ F H (Go.refl ex m) (.bl b) h
theorem ev_str {x : Str} (h : P (.str x)) : Ev K c (tC (.str x)) ρ P := fun _ _ F H _ ex m Q q => q _ _ F H (Go.refl ex m) (.str x) h
theorem ev_non (h : P .non) : Ev K c (tC .non) ρ P := fun _ _ F H _ ex m Q q => q _ _ F H (Go.refl ex m) .non h
theorem ev_ty {n : String} (h : P (.ty n)) : Ev K c (tC (.ty n)) ρ P := fun _ _ F H _ ex m Q q => q _ _ F H (Go.refl ex m) (.ty n) h
theorem ev_adr {a : Addr} (h : P (.adr a)) : Ev K c (tC (.ref a)) ρ P := fun _ _ F H _ ex m Q q => q _ _ F H (Go.refl ex m) (.adr a) h
theorem ev_op {r : R2} (h : Ev K c ta ρ fun x => Ev K c tb ρ fun y => RV2 K c r x y P) : Ev K c (tOp r ta tb) ρ P := fun B σ F H S ex m Q q =>
  h B σ F H S ex m _ fun v x F1 H1 g1 r1 h1 => h1 B σ F1 H1 (S.go g1) g1.fh g1.m _ fun w y F2 H2 g2 r2 h2 =>
    h2 F2 H2 v w (r1.mono g2.ff) r2 g2.fh g2.m Q fun z d F3 H3 g3 r3 p => q z d F3 H3 ((g1.trans g2).trans g3) r3 p
theorem ev_un {r : V → Hp → VK → Prop} (h : Ev K c ta ρ fun x => RV1 K c r x P) : Ev K c (tUn r ta) ρ P := fun B σ F H S ex m Q q =>
  h B σ F H S ex m _ fun v x F1 H1 g1 r1 h1 => h1 F1 H1 v r1 g1.fh g1.m Q fun z d F3 H3 g3 r3 p => q z d F3 H3 (g1.trans g3) r3 p
theorem ev_chain {r r' : R2} (h : Ev K c ta ρ fun x => Ev K c tb ρ fun y => RV2 K c r x y fun z => ∃ k, z = .bl k ∧ if k = true then Ev K c tc ρ fun w => RV2 K c r' y w P else P (.bl false)) : Ev K c (tChain r r' ta tb tc) ρ P := fun B σ F H S ex m Q q =>
  h B σ F H S ex m _ fun v x F1 H1 g1 r1 h1 => h1 B σ F1 H1 (S.go g1) g1.fh g1.m _ fun w y F2 H2 g2 r2 h2 =>
    h2 F2 H2 v w (r1.mono g2.ff) r2 g2.fh g2.m _ fun z d F3 H3 g3 r3 p => by
      obtain ⟨k, rfl, p⟩ := p
      cases r3
      refine ⟨k, rfl, ?_⟩
      have g := (g1.trans g2).trans g3
      cases k with
      | true => exact p B σ F3 H3 (S.go g) g3.fh g3.m _ fun z2 d2 F4 H4 g4 r4 h4 => h4 F4 H4 w z2 (r2.mono (g3.ff.trans g4.ff)) r4 g4.fh g4.m Q fun z3 d3 F5 H5 g5 r5 p5 => q z3 d3 F5 H5 (g.trans (g4.trans g5)) r5 p5
      | false => exact q _ _ F3 H3 g (.bl false) p
theorem ev_andV (h : Ev K c ta ρ fun x => ∃ k, x = .bl k ∧ if k = true then Ev K c tb ρ P else P (.bl false)) : Ev K c (tAndV ta tb) ρ P := fun B σ F H S ex m Q q =>
  h B σ F H S ex m _ fun v x F1 H1 g1 r1 h1 => by
    obtain ⟨k, rfl, p⟩ := h1
    cases r1
    refine ⟨k, rfl, ?_⟩
    cases k with
    | true => exact p B σ F1 H1 (S.go g1) g1.fh g1.m Q fun z d F2 H2 g2 r2 p2 => q z d F2 H2 (g1.trans g2) r2 p2
    | false => exact q _ _ F1 H1 g1 (.bl false) p
theorem ev_orV (h : Ev K c ta ρ fun x => ∃ k, x = .bl k ∧ if k = true then P (.bl true) else Ev K c tb ρ P) : Ev K c (tOrV ta tb) ρ P := fun B σ F H S ex m Q q =>
  h B σ F H S ex m _ fun v x F1 H1 g1 r1 h1 => by
    obtain ⟨k, rfl, p⟩ := h1
    cases r1
    refine ⟨k, rfl, ?_⟩
    cases k with
    | true => exact q _ _ F1 H1 g1 (.bl true) p
    | false => exact p B σ F1 H1 (S.go g1) g1.fh g1.m Q fun z d F2 H2 g2 r2 p2 => q z d F2 H2 (g1.trans g2) r2 p2
theorem ev_notV (h : Ev K c ta ρ fun x => ∃ k, x = .bl k ∧ P (.bl (!k))) : Ev K c (tNotV ta) ρ P := fun B σ F H S ex m Q q =>
  h B σ F H S ex m _ fun v x F1 H1 g1 r1 h1 => by
    obtain ⟨k, rfl, p⟩ := h1
    cases r1
    exact ⟨k, rfl, q _ _ F1 H1 g1 (.bl _) p⟩
theorem ev_if {t : TT} (h : EvT K c t ρ fun k => if k = true then Ev K c ta ρ P else Ev K c tb ρ P) : Ev K c (tIf t ta tb) ρ P := fun B σ F H S ex m Q q =>
  h B σ F H S ex m _ fun k F1 H1 g1 h1 => by
    cases k with
    | true => exact h1 B σ F1 H1 (S.go g1) g1.fh g1.m Q fun z d F2 H2 g2 r2 p2 => q z d F2 H2 (g1.trans g2) r2 p2
    | false => exact h1 B σ F1 H1 (S.go g1) g1.fh g1.m Q fun z d F2 H2 g2 r2 p2 => q z d F2 H2 (g1.trans g2) r2 p2
/-! tests -/
theorem et_test {P : Bool → Prop} (h : Ev K c ta ρ fun x => ∃ k, x = .bl k ∧ P k) : EvT K c (tTest ta) ρ P := fun B σ F H S ex m Q q =>
  h B σ F H S ex m _ fun v x F1 H1 g1 r1 h1 => by
    obtain ⟨k, rfl, p⟩ := h1
    cases r1
    exact ⟨k, rfl, q k F1 H1 g1 p⟩
theorem et_B {P : Bool → Prop} (h : Ev K c ta ρ fun x => ∃ k, x = .bl k ∧ P k) : EvT K c (tB ta) ρ P := et_test h
theorem et_and {t u : TT} {P : Bool → Prop} (h : EvT K c t ρ fun k => if k = true then EvT K c u ρ P else P false) : EvT K c (tAnd t u) ρ P := fun B σ F H S ex m Q q =>
  h B σ F H S ex m _ fun k F1 H1 g1 h1 => by
    cases k with
    | true => exact h1 B σ F1 H1 (S.go g1) g1.fh g1.m Q fun b F2 H2 g2 p2 => q b F2 H2 (g1.trans g2) p2
    | false => exact q false F1 H1 g1 h1
theorem et_or {t u : TT} {P : Bool → Prop} (h : EvT K c t ρ fun k => if k = true then P true else EvT K c u ρ P) : EvT K c (tOr t u) ρ P := fun B σ F H S ex m Q q =>
  h B σ F H S ex m _ fun k F1 H1 g1 h1 => by
    cases k with
    | true => exact q true F1 H1 g1 h1
    | false => exact h1 B σ F1 H1 (S.go g1) g1.fh g1.m Q fun b F2 H2 g2 p2 => q b F2 H2 (g1.trans g2) p2
theorem et_not {t : TT} {P : Bool → Prop} (h : EvT K c t ρ fun k => P (!k)) : EvT K c (tNot t) ρ P := fun B σ F H S ex m Q q =>
  h B σ F H S ex m _ fun k F1 H1 g1 h1 => q _ F1 H1 g1 h1
theorem et_yes {P : Bool → Prop} (h : P true) : EvT K c tYes ρ P := fun _ _ F H _ ex m Q q => q true F H (Go.refl ex m) h
/-! arguments, tuples, lists -/
theorem ea_nil {P : List DV → Prop} (h : P []) : EvA K c tNil ρ P := fun _ _ F H _ ex m Q q => q [] [] F H (Go.refl ex m) .nil h
theorem ea_cons {tr : TA} {P : List DV → Prop} (h : Ev K c ta ρ fun x => EvA K c tr ρ fun xs => P (x :: xs)) : EvA K c (tCons ta tr) ρ P := fun B σ F H S ex m Q q =>
  h B σ F H S ex m _ fun v x F1 H1 g1 r1 h1 => h1 B σ F1 H1 (S.go g1) g1.fh g1.m _ fun vs xs F2 H2 g2 r2 p => q (v :: vs) (x :: xs) F2 H2 (g1.trans g2) (.cons (r1.mono g2.ff) r2) p
theorem new_tup {F H : Hp} {Q : VK} {vs : List V} {ds : List DV} {p : Addr} (r : RelA K F vs ds) (ex : Ex F H) (m : c.M F H) (hp : H p = none) (q : ∀ v d F' H', Go c F H F' H' → Rel K F' v d → P d → Q v H') (h : P (.tup ds)) : Q (.ref p) (upd H p (.tup vs)) := by
  have g : Go c F H (upd F p (.tup vs)) (upd H p (.tup vs)) := Go.new ex m hp
  exact q _ _ _ _ g (.tup (Evl.st_of upd_same) (r.mono g.ff)) h
theorem new_lst {F H : Hp} {Q : VK} {vs : List V} {ds : List DV} {p : Addr} (r : RelA K F vs ds) (ex : Ex F H) (m : c.M F H) (hp : H p = none) (q : ∀ v d F' H', Go c F H F' H' → Rel K F' v d → P d → Q v H') (h : P (.lst ds)) : Q (.ref p) (upd H p (.lst vs)) := by
  have g : Go c F H (upd F p (.lst vs)) (upd H p (.lst vs)) := Go.new ex m hp
  exact q _ _ _ _ g (.lst upd_same (r.mono g.ff)) h
theorem ev_tup {t : TA} (h : EvA K c t ρ fun xs => xs.length ≤ 1000000 ∧ P (.tup xs)) : Ev K c (tTup t) ρ P := fun B σ F H S ex m Q q =>
  h B σ F H S ex m _ fun vs xs F1 H1 g1 r1 h1 => ⟨by rw [r1.len]; exact Nat.le_trans h1.1 (by decide), fun p hp => new_tup r1 g1.fh g1.m hp (fun v d F' H' g r p => q v d F' H' (g1.trans g) r p) h1.2⟩
theorem ev_lst {t : TA} (h : EvA K c t ρ fun xs => xs.length ≤ 1000000 ∧ P (.lst xs)) : Ev K c (tLst t) ρ P := fun B σ F H S ex m Q q =>
  h B σ F H S ex m _ fun vs xs F1 H1 g1 r1 h1 => ⟨by rw [r1.len]; exact Nat.le_trans h1.1 (by decide), fun p hp => new_lst r1 g1.fh g1.m hp (fun v d F' H' g r p => q v d F' H' (g1.trans g) r p) h1.2⟩
theorem ev_cb {r : List V → Hp → VK → Prop} {t : TA} (h : EvA K c t ρ fun xs => RVA K c r xs P) : Ev K c (tCB r t) ρ P := fun B σ F H S ex m Q q =>
  h B σ F H S ex m _ fun vs xs F1 H1 g1 r1 h1 => h1 F1 H1 vs r1 g1.fh g1.m Q fun z d F3 H3 g3 r3 p => q z d F3 H3 (g1.trans g3) r3 p
/-! attributes -/
theorem ev_fld {f : Str} {C : Addr} (hc : Cls K C) (hn : NoAttr K C f) (h : Ev K c ta ρ fun x => ∃ fs d, x = .ins C fs ∧ fs.lookup f = some d ∧ P d) : Ev K c (tFld K ta f) ρ P := fun B σ F H S ex m Q q =>
  h B σ F H S ex m _ fun v x F1 H1 g1 r1 h1 => by
    obtain ⟨fs, d, rfl, hl, p⟩ := h1
    cases r1 with
    | ins ha rf =>
      obtain ⟨w, e, r⟩ := rf.look hl
      exact ⟨_, C, _, _, w, rfl, g1.fh _ _ ha, hc, hn, e, q w d F1 H1 g1 r p⟩
/-! operators on scalars -/
theorem rv_I0i {f : Int → Int → Int} {i j : Int} (h : P (.int (f i j))) : RV2 K c (rI0 fun i j => .int (f i j)) (.int i) (.int j) P := fun F H v w r1 r2 ex m Q q => by
  cases r1
  cases r2
  exact ⟨i, j, rfl, rfl, q _ _ F H (Go.refl ex m) (.int _) h⟩
theorem rv_I0b {f : Int → Int → Bool} {i j : Int} (h : P (.bl (f i j))) : RV2 K c (rI0 fun i j => .bl (f i j)) (.int i) (.int j) P := fun F H v w r1 r2 ex m Q q => by
  cases r1
  cases r2
  exact ⟨i, j, rfl, rfl, q _ _ F H (Go.refl ex m) (.bl _) h⟩
theorem rv_Ii {C : Int → Int → Prop} {f : Int → Int → Int} {i j : Int} (hc : C i j) (h : P (.int (f i j))) : RV2 K c (rI C fun i j => .int (f i j)) (.int i) (.int j) P := fun F H v w r1 r2 ex m Q q => by
  cases r1
  cases r2
  exact ⟨i, j, rfl, rfl, hc, q _ _ F H (Go.refl ex m) (.int _) h⟩
theorem rv_eqI {i j : Int} (h : P (.bl (decide (i = j)))) : RV2 K c rEq (.int i) (.int j) P := fun F H v w r1 r2 ex m Q q => by
  cases r1
  cases r2
  refine ⟨rfl, q _ _ F H (Go.refl ex m) (.bl _) ?_⟩
  have e : decide (V.int i = V.int j) = decide (i = j) := by
    by_cases z : i = j
    · subst z; simp
    · rw [decide_eq_false z, decide_eq_false (fun y => z (V.int.inj y))]
  rw [e]
  exact h
theorem rv_neI {i j : Int} (h : P (.bl (!decide (i = j)))) : RV2 K c rNe (.int i) (.int j) P := fun F H v w r1 r2 ex m Q q => by
  cases r1
  cases r2
  refine ⟨rfl, q _ _ F H (Go.refl ex m) (.bl _) ?_⟩
  have e : decide (V.int i = V.int j) = decide (i = j) := by
    by_cases z : i = j
    · subst z; simp
    · rw [decide_eq_false z, decide_eq_false (fun y => z (V.int.inj y))]
  rw [e]
  exact h
end
/-- a branch, by what the test says -/
theorem if_b {b : Bool} {A B : Prop} (h1 : b = true → A) (h2 : b = false → B) : if b = true then A else B := by
  cases b with
  | true => exact h1 rfl
  | false => exact h2 rfl
theorem if_d {p : Prop} [Decidable p] {A B : Prop} (h1 : p → A) (h2 : ¬ p → B) : if decide p = true then A else B := if_b (fun h => h1 (of_decide_eq_true h)) (fun h => h2 (of_decide_eq_false h))
theorem if_nd {p : Prop} [Decidable p] {A B : Prop} (h1 : ¬ p → A) (h2 : p → B) : if (!decide p) = true then A else B := if_b (fun h => h1 (fun y => by rw [decide_eq_true y] at h; cases h)) (fun h => h2 (by cases z : decide p with | true => exact of_decide_eq_true z | false => rw [z] at h; cases h))
end VL

set_option Elab.async false
set_option linter.all false
set_option maxRecDepth 100000
namespace VL
open PySem PySem.Spec L2
open Evl (Ex)
section
variable {K : PySem.W.Frag} {c : Cfg} {ρ : List SV} {P : DV → Prop}

/-! ### what is walked -/
structure Walks (K : PySem.W.Frag) (c : Cfg) (F : Hp) (J : It) (xs : List DV) : Prop where
  go : ∀ i H, i < xs.length → Ex F H → J.go i H
  stop : ∀ H, Ex F H → J.stop xs.length H
  yld : ∀ i x H H' F1, i < xs.length → Ex F F1 → Ex F1 H → c.M F1 H → J.yld i H x H' → ∃ F' d, xs[i]? = some d ∧ Go c F1 H F' H' ∧ Rel K F' x d
def EvI (K : PySem.W.Frag) (c : Cfg) (wi : TI) (ρ : List SV) (P : List DV → Prop) : Prop := ∀ (B : Addr → Prop) (σ : St) (F H : Hp), Slots K c B F H σ ρ → Ex F H → c.M F H → ∀ R : It → Hp → Prop, (∀ J xs F' H', Go c F H F' H' → Walks K c F' J xs → P xs → R J H') → wi σ H R
theorem walks_at {F : Hp} {J : It} {vs : List V} {ds : List DV} {G : Hp → Prop} (w : Walk J vs.length G (YAt vs)) (hG : ∀ H, Ex F H → G H) (r : RelA K F vs ds) : Walks K c F J ds := by
  refine ⟨fun i H hi e => w.goes i H (by rw [r.len]; exact hi) (hG H e), fun H e => by rw [← r.len]; exact w.stops H (hG H e), fun i x H H' F1 hi e1 e2 m y => ?_⟩
  obtain ⟨rfl, hx⟩ := w.yields i H x H' (by rw [r.len]; exact hi) (hG H (e1.trans e2)) y
  obtain ⟨d, hd, rd⟩ := r.getV hx
  exact ⟨F1, d, hd, Go.refl e2 m, rd.mono e1⟩
theorem ei_list {tl : TE} {P : List DV → Prop} (h : Ev K c tl ρ fun x => ∃ ds, x = .lst ds ∧ P ds) : EvI K c (iList K tl) ρ P := fun B σ F H S ex m R q =>
  h B σ F H S ex m _ fun v x F1 H1 g1 r1 h1 => by
    obtain ⟨ds, rfl, p⟩ := h1
    cases r1 with
    | lst hs ra => exact ⟨_, rfl, ⟨_, Evl.sq_of (g1.fh _ _ hs)⟩, q _ ds F1 H1 g1 (walks_at walk_list (fun H e => Evl.sq_of (e _ _ hs)) ra) p⟩
theorem ei_tup {tl : TE} {P : List DV → Prop} (h : Ev K c tl ρ fun x => ∃ ds, x = .tup ds ∧ P ds) : EvI K c (iTup K tl) ρ P := fun B σ F H S ex m R q =>
  h B σ F H S ex m _ fun v x F1 H1 g1 r1 h1 => by
    obtain ⟨ds, rfl, p⟩ := h1
    cases r1 with
    | tup hs ra => exact ⟨_, rfl, ⟨_, Evl.ex_t g1.fh hs⟩, q _ ds F1 H1 g1 (walks_at walk_tup (fun H e => Evl.ex_t e hs) ra) p⟩
/-- the ints lo, lo + 1, .. -/
def rngD (lo : Int) (n : Nat) : List DV := (List.range n).map fun i => .int (lo + (i : Nat))
theorem rngD_get {lo : Int} {n i : Nat} (h : i < n) : (rngD lo n)[i]? = some (.int (lo + (i : Nat))) := by
  unfold rngD
  rw [List.getElem?_map, List.getElem?_range h]
  rfl
theorem rngD_of {lo : Int} {n i : Nat} {x : DV} (h : (rngD lo n)[i]? = some x) : i < n ∧ x = .int (lo + (i : Nat)) := by
  have hl : i < n := by
    have := (List.getElem?_eq_some_iff.mp h).1
    unfold rngD at this
    rw [List.length_map, List.length_range] at this
    exact this
  rw [rngD_get hl] at h
  exact ⟨hl, (Option.some.inj h).symm⟩
theorem rngD_len {lo : Int} {n : Nat} : (rngD lo n).length = n := by
  unfold rngD
  rw [List.length_map, List.length_range]
theorem walks_rng {F : Hp} {lo : Int} {n : Nat} : Walks K c F (Itr lo n) (rngD lo n) := by
  refine ⟨fun i H hi _ => walk_range.goes i H (by rw [rngD_len] at hi; exact hi) trivial, fun H _ => by rw [rngD_len]; exact walk_range.stops H trivial, fun i x H H' F1 hi e1 e2 m y => ?_⟩
  rw [rngD_len] at hi
  obtain ⟨rfl, hx⟩ := walk_range.yields i H x H' hi trivial y
  exact ⟨F1, _, rngD_get hi, Go.refl e2 m, by rw [hx]; exact .int _⟩
theorem ei_rng1 {ta : TA} {P : List DV → Prop} (h : EvA K c ta ρ fun xs => ∃ n : Int, xs = [.int n] ∧ -(2 ^ 62) ≤ n ∧ n < 2 ^ 62 ∧ P (rngD 0 n.toNat)) : EvI K c (iRng1 ta) ρ P := fun B σ F H S ex m R q =>
  h B σ F H S ex m _ fun vs xs F1 H1 g1 r1 h1 => by
    obtain ⟨n, rfl, a1, a2, p⟩ := h1
    cases r1 with
    | cons ra rb =>
      cases ra
      cases rb
      exact ⟨n, rfl, a1, a2, q _ _ F1 H1 g1 walks_rng p⟩
theorem ei_rng2 {ta : TA} {P : List DV → Prop} (h : EvA K c ta ρ fun xs => ∃ i n : Int, xs = [.int i, .int n] ∧ (-(2 ^ 62) ≤ i ∧ i < 2 ^ 62 ∧ -(2 ^ 62) ≤ n ∧ n < 2 ^ 62) ∧ P (rngD i (n - i).toNat)) : EvI K c (iRng2 ta) ρ P := fun B σ F H S ex m R q =>
  h B σ F H S ex m _ fun vs xs F1 H1 g1 r1 h1 => by
    obtain ⟨i, n, rfl, a1, p⟩ := h1
    cases r1 with
    | cons ra rb =>
      cases ra
      cases rb with
      | cons rc rd =>
        cases rc
        cases rd
        exact ⟨i, n, rfl, a1, q _ _ F1 H1 g1 walks_rng p⟩
/-- the signs of a text, each a text -/
def signsD (z : List Nat) : List DV := z.map fun c => .str ⟨#[c]⟩
theorem ei_str {te : TE} {P : List DV → Prop} (h : Ev K c te ρ fun x => ∃ z, x = .str z ∧ P (signsD z.cps.toList)) : EvI K c (iStr te) ρ P := fun B σ F H S ex m R q =>
  h B σ F H S ex m _ fun v x F1 H1 g1 r1 h1 => by
    obtain ⟨z, rfl, p⟩ := h1
    cases r1
    have hl : (signsD z.cps.toList).length = z.cps.size := by simp [signsD]
    refine ⟨z, rfl, q _ _ F1 H1 g1 ⟨fun i H hi _ => walk_str.goes i H (by rw [← hl]; exact hi) trivial, fun H _ => by rw [hl]; exact walk_str.stops H trivial, fun i x H H' F1 hi e1 e2 m y => ?_⟩ p⟩
    obtain ⟨rfl, k, hk, rfl⟩ := walk_str.yields i H x H' (by rw [← hl]; exact hi) trivial y
    refine ⟨F1, .str ⟨#[k]⟩, ?_, Go.refl e2 m, .str _⟩
    unfold signsD
    rw [List.getElem?_map, Array.getElem?_toList, hk]
    rfl

/-! ### targets -/
def EvG (K : PySem.W.Frag) (c : Cfg) (g : TG) (x : DV) (ρ : List SV) (N : List SV → Prop) : Prop := ∀ (B : Addr → Prop) (σ : St) (F H : Hp) (v : V), Slots K c B F H σ ρ → Ex F H → c.M F H → Rel K F v x → ∀ Q : St → Hp → Prop, (∀ σ' ρ' F' H', Go c F H F' H' → Slots K c B F' H' σ' ρ' → N ρ' → Q σ' H') → g v σ H Q
def EvGs (K : PySem.W.Frag) (c : Cfg) (g : TGs) (xs : List DV) (ρ : List SV) (N : List SV → Prop) : Prop := ∀ (B : Addr → Prop) (σ : St) (F H : Hp) (vs : List V), Slots K c B F H σ ρ → Ex F H → c.M F H → RelA K F vs xs → ∀ Q : St → Hp → Prop, (∀ σ' ρ' F' H', Go c F H F' H' → Slots K c B F' H' σ' ρ' → N ρ' → Q σ' H') → g vs σ H Q
theorem eg_name {i : Nat} {x : DV} {N : List SV → Prop} (h : N (ρ.set i (.d x))) : EvG K c (gName i) x ρ N := fun B σ F H v S ex m r Q q => q _ _ F H (Go.refl ex m) (S.put i r) h
theorem egs_nil {N : List SV → Prop} (h : N ρ) : EvGs K c gNil [] ρ N := fun B σ F H v S ex m r Q q => by
  cases r
  exact ⟨rfl, q _ _ F H (Go.refl ex m) S h⟩
theorem egs_cons {t : TG} {u : TGs} {x : DV} {xs : List DV} {N : List SV → Prop} (h : EvG K c t x ρ fun ρ1 => EvGs K c u xs ρ1 N) : EvGs K c (gCons t u) (x :: xs) ρ N := fun B σ F H vs S ex m r Q q => by
  cases r with
  | cons r1 r2 =>
    exact ⟨_, _, rfl, h B σ F H _ S ex m r1 _ fun σ1 ρ1 F1 H1 g1 S1 h1 => h1 B σ1 F1 H1 _ S1 g1.fh g1.m (r2.mono g1.ff) Q fun σ2 ρ2 F2 H2 g2 S2 h2 => q σ2 ρ2 F2 H2 (g1.trans g2) S2 h2⟩
theorem eg_tup {t : TGs} {n : Nat} {x : DV} {N : List SV → Prop} (h : ∃ xs, x = .tup xs ∧ xs.length = n ∧ EvGs K c t xs ρ N) : EvG K c (gTup K n t) x ρ N := fun B σ F H v S ex m r Q q => by
  obtain ⟨xs, rfl, hl, h⟩ := h
  cases r with
  | tup hs ra => exact ⟨_, _, rfl, Evl.ex_t ex hs, by rw [ra.len, hl], h B σ F H _ S ex m ra Q q⟩

/-! ### comprehensions -/
theorem wipe_set (σ : St) (i : Nat) (x : Option V) : ∀ vs : List Nat, i ∈ vs → wipe (σ.set i x) vs = wipe σ vs
  | [], h => nomatch h
  | v :: vs, h => by
    show (wipe (σ.set i x) vs).set v none = (wipe σ vs).set v none
    by_cases e : i ∈ vs
    · rw [wipe_set σ i x vs e]
    · have hv : i = v := by
        cases h with
        | head => rfl
        | tail _ h => exact absurd h e
      subst hv
      clear h
      have key : ∀ (vs : List Nat) (σ : St), i ∉ vs → wipe (σ.set i x) vs = (wipe σ vs).set i x := by
        intro vs
        induction vs with
        | nil => intro σ _; rfl
        | cons w vs ih =>
          intro σ hn
          show (wipe (σ.set i x) vs).set w none = ((wipe σ vs).set w none).set i x
          rw [ih σ (fun z => hn (List.mem_cons_of_mem _ z))]
          exact List.set_comm _ _ (fun z => hn (by rw [z]; exact List.mem_cons_self))
      rw [key vs σ e, List.set_set]
theorem wipe_wipe (σ : St) : ∀ vs : List Nat, wipe (wipe σ vs) vs = wipe σ vs := by
  have key : ∀ (ws vs : List Nat), (∀ v ∈ ws, v ∈ vs) → wipe (wipe σ ws) vs = wipe σ vs := by
    intro ws
    induction ws with
    | nil => intro vs _; rfl
    | cons w ws ih =>
      intro vs hv
      show wipe ((wipe σ ws).set w none) vs = wipe σ vs
      rw [wipe_set _ _ _ _ (hv w List.mem_cons_self), ih vs fun v h => hv v (List.mem_cons_of_mem _ h)]
  exact fun vs => key vs vs fun _ h => h
/-- a target that stores in these slots alone -/
def OwnG (g : TG) (vs : List Nat) : Prop := ∀ v (σ : St) (H : Hp) (Q : St → Hp → Prop), g v σ H Q → g v σ H fun σ2 H2 => wipe σ2 vs = wipe σ vs ∧ Q σ2 H2
def OwnGs (g : TGs) (vs : List Nat) : Prop := ∀ v (σ : St) (H : Hp) (Q : St → Hp → Prop), g v σ H Q → g v σ H fun σ2 H2 => wipe σ2 vs = wipe σ vs ∧ Q σ2 H2
theorem own_name {i : Nat} {vs : List Nat} (h : i ∈ vs) : OwnG (gName i) vs := fun _ σ _ _ q => ⟨wipe_set σ i _ vs h, q⟩
theorem own_nil {vs : List Nat} : OwnGs gNil vs := fun _ _ _ _ q => ⟨q.1, rfl, q.2⟩
theorem own_cons {t : TG} {u : TGs} {vs : List Nat} (h1 : OwnG t vs) (h2 : OwnGs u vs) (m1 : ∀ v σ H (Q Q' : St → Hp → Prop), (∀ σ' H', Q σ' H' → Q' σ' H') → t v σ H Q → t v σ H Q')
    (m2 : ∀ v σ H (Q Q' : St → Hp → Prop), (∀ σ' H', Q σ' H' → Q' σ' H') → u v σ H Q → u v σ H Q') : OwnGs (gCons t u) vs := fun xs σ H Q q => by
  obtain ⟨v, r, e, q⟩ := q
  refine ⟨v, r, e, ?_⟩
  refine m1 _ _ _ _ _ (fun σ' H' z => ?_) (h1 _ _ _ _ q)
  obtain ⟨z1, z2⟩ := z
  exact m2 _ _ _ _ _ (fun σ2 H2 y => ⟨y.1.trans z1, y.2⟩) (h2 _ _ _ _ z2)
theorem mono_name {i : Nat} : ∀ v σ H (Q Q' : St → Hp → Prop), (∀ σ' H', Q σ' H' → Q' σ' H') → gName i v σ H Q → gName i v σ H Q' := fun _ _ _ _ _ k q => k _ _ q
theorem mono_nil : ∀ v σ H (Q Q' : St → Hp → Prop), (∀ σ' H', Q σ' H' → Q' σ' H') → gNil v σ H Q → gNil v σ H Q' := fun _ _ _ _ _ k q => ⟨q.1, k _ _ q.2⟩
theorem mono_cons {t : TG} {u : TGs} (m1 : ∀ v σ H (Q Q' : St → Hp → Prop), (∀ σ' H', Q σ' H' → Q' σ' H') → t v σ H Q → t v σ H Q')
    (m2 : ∀ v σ H (Q Q' : St → Hp → Prop), (∀ σ' H', Q σ' H' → Q' σ' H') → u v σ H Q → u v σ H Q') : ∀ v σ H (Q Q' : St → Hp → Prop), (∀ σ' H', Q σ' H' → Q' σ' H') → gCons t u v σ H Q → gCons t u v σ H Q' := fun xs σ H Q Q' k q => by
  obtain ⟨v, r, e, q⟩ := q
  exact ⟨v, r, e, m1 _ _ _ _ _ (fun σ' H' z => m2 _ _ _ _ _ k z) q⟩
theorem own_tup {t : TGs} {n : Nat} {vs : List Nat} (h : OwnGs t vs) : OwnG (gTup K n t) vs := fun v σ H Q q => by
  obtain ⟨a, xs, e, h1, h2, q⟩ := q
  exact ⟨a, xs, e, h1, h2, h _ _ _ _ q⟩
theorem mono_tup {t : TGs} {n : Nat} (m : ∀ v σ H (Q Q' : St → Hp → Prop), (∀ σ' H', Q σ' H' → Q' σ' H') → t v σ H Q → t v σ H Q') : ∀ v σ H (Q Q' : St → Hp → Prop), (∀ σ' H', Q σ' H' → Q' σ' H') → gTup K n t v σ H Q → gTup K n t v σ H Q' := fun v σ H Q Q' k q => by
  obtain ⟨a, xs, e, h1, h2, q⟩ := q
  exact ⟨a, xs, e, h1, h2, m _ _ _ _ _ k q⟩
theorem ev_lc {wi : TI} {g : TG} {tt : TT} {te : TE} {vs : List Nat} (ho : OwnG g vs)
    (h : EvI K c wi ρ fun xs => xs.length ≤ 1000000 ∧ ∃ Inv : Nat → List DV → Prop, Inv 0 [] ∧
      (∀ i x acc, xs[i]? = some x → Inv i acc → acc.length ≤ i → EvG K c g x (wipeR ρ vs) fun ρ2 => EvT K c tt ρ2 fun b => if b = true then Ev K c te ρ2 fun y => Inv (i + 1) (acc ++ [y]) else Inv (i + 1) acc) ∧
      ∀ acc, Inv xs.length acc → acc.length ≤ xs.length → P (.lst acc)) : Ev K c (tLc wi g tt te vs) ρ P := fun B σ F H S ex m Q q =>
  h B σ F H S ex m _ fun J xs F1 H1 g1 w h1 => by
    obtain ⟨hz, Inv, i0, hs, hd⟩ := h1
    intro D hD
    have hT : ¬ c.T D := fun t => c.al F1 H1 D g1.m t hD
    have hFn : F1 D = none := by
      cases z : F1 D with
      | none => rfl
      | some o => exact absurd (g1.fh D o z) (by rw [hD]; exact fun y => nomatch y)
    refine ⟨fun i n H2 => n = xs.length - i ∧ i ≤ xs.length ∧ ∃ F2 ws acc, Go c F1 H1 F2 H2 ∧ H2 D = some (.lst ws) ∧ F2 D = none ∧ RelA K F2 ws acc ∧ Inv i acc ∧ acc.length ≤ i, ⟨xs.length, by simp, Nat.zero_le _, F1, [], [], Go.newM g1.fh g1.m hD, upd_same, hFn, .nil, i0, Nat.le_refl _⟩, ?_⟩
    rintro i n H2 ⟨rfl, hi, F2, ws, acc, g2, hl, hf2, ra, hI, hlen⟩
    by_cases hlt : i < xs.length
    · refine .inr ⟨w.go i H2 hlt (g2.ff.trans g2.fh), fun H3 => ∃ F2 ws acc, Go c F1 H1 F2 H3 ∧ H3 D = some (.lst ws) ∧ F2 D = none ∧ RelA K F2 ws acc ∧ Inv (i + 1) acc ∧ acc.length ≤ i + 1, fun H3 p => ⟨xs.length - (i + 1), by omega, rfl, hlt, p⟩, fun x H3 y => ?_⟩
      obtain ⟨F3, d, hx, g3, rx⟩ := w.yld i x H2 H3 F2 hlt g2.ff g2.fh g2.m y
      have hW : Slots K c B F3 H3 (wipe σ vs) (wipeR ρ vs) := ((S.go g1).go (g2.trans g3)).wipes vs
      have e1 := hs i d acc hx hI hlen B (wipe σ vs) F3 H3 x hW g3.fh g3.m rx (fun σ2 H4 => tt σ2 H4 fun b H5 => if b = true then te σ2 H5 fun y H6 => ∃ acc, H6 D = some (.lst acc) ∧ acc.length < sizeLine ∧ (∃ F2 ws acc_1, Go c F1 H1 F2 (upd H6 D (.lst (acc ++ [y]))) ∧ (upd H6 D (.lst (acc ++ [y]))) D = some (.lst ws) ∧ F2 D = none ∧ RelA K F2 ws acc_1 ∧ Inv (i + 1) acc_1 ∧ acc_1.length ≤ i + 1) else ∃ F2 ws acc, Go c F1 H1 F2 H5 ∧ H5 D = some (.lst ws) ∧ F2 D = none ∧ RelA K F2 ws acc ∧ Inv (i + 1) acc ∧ acc.length ≤ i + 1) fun σ2 ρ2 F4 H4 g4 S4 h4 => ?_
      · have e2 := ho x (wipe σ vs) H3 _ e1
        rw [wipe_wipe] at e2
        exact e2
      · refine h4 B σ2 F4 H4 S4 g4.fh g4.m _ fun b F5 H5 g5 h5 => ?_
        have g35 := (g3.trans g4).trans g5
        cases b with
        | true =>
          refine h5 B σ2 F5 H5 (S4.go g5) g5.fh g5.m _ fun y dy F6 H6 g6 ry hI2 => ?_
          have g36 := g35.trans g6
          have hl6 := g36.hh D _ hl hT
          have hf6 := g36.fr D _ hl hf2
          refine ⟨ws, hl6, ?_, F6, ws ++ [y], acc ++ [dy], ?_, upd_same, hf6, (ra.mono g36.ff).snoc ry, hI2, by rw [List.length_append]; simp; omega⟩
          · rw [ra.len]
            exact Nat.lt_of_le_of_lt (Nat.le_trans hlen (Nat.le_trans hi hz)) (by decide)
          · have gg := g2.trans g36
            refine ⟨gg.ff, fun a u e => ?_, fun a u e t => ?_, fun a u e => ?_, gg.fr, ?_⟩
            · rw [upd_ne (ne_of_none e hf6)]
              exact gg.fh a u e
            · rw [upd_ne (ne_of_none e hD)]
              exact gg.hh a u e t
            · rw [upd_ne (ne_of_none e hD)]
              exact gg.dom a u e
            · refine c.st _ _ _ _ (fun a u ta q => ?_) (fun _ _ q => q) gg.m
              rw [upd_ne (show a ≠ D from fun z => hT (by rw [← z]; exact ta))]
              exact q
        | false => exact ⟨F5, ws, acc, g2.trans g35, g35.hh D _ hl hT, g35.fr D _ hl hf2, ra.mono g35.ff, h5, by omega⟩
    · have ei : i = xs.length := by omega
      subst ei
      refine .inl ⟨w.stop H2 (g2.ff.trans g2.fh), ?_⟩
      have gN : Go c F1 H1 (upd F2 D (.lst ws)) H2 := by
        refine ⟨fun a u e => ?_, fun a u e => ?_, g2.hh, g2.dom, fun a u e z => ?_, c.st _ _ _ _ (fun _ _ _ q => q) (fun a ta q => ?_) g2.m⟩
        · rw [upd_ne (ne_of_none e hFn)]
          exact g2.ff a u e
        · unfold upd at e
          split at e
          · rename_i z
            subst z
            cases e
            exact hl
          · exact g2.fh a u e
        · rw [upd_ne (ne_of_none e hD)]
          exact g2.fr a u e z
        · rw [upd_ne (show a ≠ D from fun z => hT (by rw [← z]; exact ta))]
          exact q
      refine q _ _ _ _ (g1.trans gN) (.lst upd_same (ra.mono (Evl.Ex.new hf2))) (hd acc hI hlen)
end
end VL

set_option Elab.async false
set_option linter.all false
set_option maxRecDepth 100000
namespace VL
open PySem PySem.Spec L2
open Evl (Ex)
/-! ### statements, from the def's start (F0, H0) on; S: what else may change -/
structure Gs (c : Cfg) (S : Addr → Prop) (F0 H0 F H : Hp) : Prop where
  ff : Ex F0 F
  fh : Ex F H
  hh : ∀ a o, H0 a = some o → ¬ c.T a → ¬ S a → H a = some o
  dom : ∀ a o, H0 a = some o → H a ≠ none
  fr : ∀ a o, H0 a = some o → F0 a = none → F a = none
  m : c.M F H
theorem Gs.refl {c : Cfg} {S : Addr → Prop} {F H : Hp} (e : Ex F H) (m : c.M F H) : Gs c S F H F H := ⟨Evl.Ex.refl F, e, fun _ _ h _ _ => h, fun a o h z => (by rw [h] at z; cases z), fun _ _ _ h => h, m⟩
theorem Gs.go {c : Cfg} {S : Addr → Prop} {F0 H0 F H F' H' : Hp} (a : Gs c S F0 H0 F H) (b : Go c F H F' H') : Gs c S F0 H0 F' H' := by
  refine ⟨a.ff.trans b.ff, b.fh, fun x o h t s => b.hh x o (a.hh x o h t s) t, fun x o h => ?_, fun x o h z => ?_, b.m⟩
  · cases q : H x with
    | none => exact absurd q (a.dom x o h)
    | some o1 => exact b.dom x o1 q
  · cases q : H x with
    | none => exact absurd q (a.dom x o h)
    | some o1 => exact b.fr x o1 q (a.fr x o h z)
theorem Gs.toGo {c : Cfg} {F0 H0 F H : Hp} (a : Gs c (fun _ => False) F0 H0 F H) : Go c F0 H0 F H := ⟨a.ff, a.fh, fun x o h t => a.hh x o h t id, a.dom, a.fr, a.m⟩
def Own (S : Addr → Prop) (H0 : Hp) : Addr → Prop := fun a => H0 a = none ∨ S a
structure At (K : PySem.W.Frag) (c : Cfg) (S : Addr → Prop) (F0 H0 F H : Hp) (σ : St) (ρ : List SV) : Prop where
  g : Gs c S F0 H0 F H
  s : Slots K c (Own S H0) F H σ ρ
structure Fi where
  nx : List SV → Prop
  rt : DV → Prop := fun _ => False
  bk : List SV → Prop := fun _ => False
  ct : List SV → Prop := fun _ => False
def Sx (K : PySem.W.Frag) (c : Cfg) (S : Addr → Prop) (F0 H0 : Hp) (t : TS) (ρ : List SV) (N : Fi) : Prop :=
  ∀ (σ : St) (F H : Hp) (D : Ends), At K c S F0 H0 F H σ ρ →
    (∀ σ' ρ' F' H', At K c S F0 H0 F' H' σ' ρ' → Ex F F' → N.nx ρ' → D.nx σ' H') →
    (∀ v d F' H', Gs c S F0 H0 F' H' → Rel K F' v d → N.rt d → D.rt v H') →
    (∀ σ' ρ' F' H', At K c S F0 H0 F' H' σ' ρ' → Ex F F' → N.bk ρ' → D.bk σ' H') →
    (∀ σ' ρ' F' H', At K c S F0 H0 F' H' σ' ρ' → Ex F F' → N.ct ρ' → D.ct σ' H') → t D σ H
section
variable {K : PySem.W.Frag} {c : Cfg} {S : Addr → Prop} {F0 H0 : Hp} {ρ : List SV} {N : Fi} {t u : TS} {te : TE}
theorem At.go {F H F' H' : Hp} {σ : St} (a : At K c S F0 H0 F H σ ρ) (g : Go c F H F' H') : At K c S F0 H0 F' H' σ ρ := ⟨a.g.go g, a.s.go g⟩
theorem Ex.rfl' (F : Hp) : Ex F F := fun _ _ h => h
theorem sx_next (h : N.nx ρ) : Sx K c S F0 H0 tNext ρ N := fun σ F H D a k1 _ _ _ => k1 σ ρ F H a (Ex.rfl' F) h
theorem sx_break (h : N.bk ρ) : Sx K c S F0 H0 tBreak ρ N := fun σ F H D a _ _ k3 _ => k3 σ ρ F H a (Ex.rfl' F) h
theorem sx_cont (h : N.ct ρ) : Sx K c S F0 H0 tCont ρ N := fun σ F H D a _ _ _ k4 => k4 σ ρ F H a (Ex.rfl' F) h
theorem sx_seq (h : Sx K c S F0 H0 t ρ { N with nx := fun ρ' => Sx K c S F0 H0 u ρ' N }) : Sx K c S F0 H0 (tSeq t u) ρ N := fun σ F H D a k1 k2 k3 k4 =>
  h σ F H { D with nx := u D } a (fun σ' ρ' F' H' a' e q => q σ' F' H' D a' (fun σ2 ρ2 F2 H2 a2 e2 q2 => k1 σ2 ρ2 F2 H2 a2 (e.trans e2) q2) k2 (fun σ2 ρ2 F2 H2 a2 e2 q2 => k3 σ2 ρ2 F2 H2 a2 (e.trans e2) q2) (fun σ2 ρ2 F2 H2 a2 e2 q2 => k4 σ2 ρ2 F2 H2 a2 (e.trans e2) q2)) k2 k3 k4
/-- what holds between two statements -/
theorem sx_mid (Mid : List SV → Prop) (h : Sx K c S F0 H0 t ρ { N with nx := Mid }) (k : ∀ ρ', Mid ρ' → Sx K c S F0 H0 u ρ' N) : Sx K c S F0 H0 (tSeq t u) ρ N := sx_seq fun σ F H D a k1 k2 k3 k4 => h σ F H D a (fun σ' ρ' F' H' a' e q => k1 σ' ρ' F' H' a' e (k ρ' q)) k2 k3 k4
theorem sx_ret (h : Ev K c te ρ N.rt) : Sx K c S F0 H0 (tRet te) ρ N := fun σ F H D a _ k2 _ _ =>
  h _ σ F H a.s a.g.fh a.g.m _ fun v d F' H' g r p => k2 v d F' H' (a.g.go g) r p
theorem sx_retN (h : N.rt .non) : Sx K c S F0 H0 tRetN ρ N := fun σ F H D a _ k2 _ _ => k2 .non .non F H a.g .non h
theorem sx_drop (h : Ev K c te ρ fun _ => N.nx ρ) : Sx K c S F0 H0 (tDrop te) ρ N := fun σ F H D a k1 _ _ _ =>
  h _ σ F H a.s a.g.fh a.g.m _ fun v d F' H' g r p => k1 σ ρ F' H' (a.go g) g.ff p
theorem sx_asg {g : TG} (h : Ev K c te ρ fun x => EvG K c g x ρ N.nx) : Sx K c S F0 H0 (tAsg te g) ρ N := fun σ F H D a k1 _ _ _ =>
  h _ σ F H a.s a.g.fh a.g.m _ fun v d F1 H1 g1 r p => p _ σ F1 H1 v (a.go g1).s g1.fh g1.m r _ fun σ2 ρ2 F2 H2 g2 S2 q => k1 σ2 ρ2 F2 H2 ⟨a.g.go (g1.trans g2), S2⟩ (g1.ff.trans g2.ff) q
theorem sx_if {tc : TT} (h : EvT K c tc ρ fun b => if b = true then Sx K c S F0 H0 t ρ N else Sx K c S F0 H0 u ρ N) : Sx K c S F0 H0 (tIfS tc t u) ρ N := fun σ F H D a k1 k2 k3 k4 =>
  h _ σ F H a.s a.g.fh a.g.m _ fun b F1 H1 g1 p => by
    have l1 : ∀ σ' ρ' F' H', At K c S F0 H0 F' H' σ' ρ' → Ex F1 F' → N.nx ρ' → D.nx σ' H' := fun σ2 ρ2 F2 H2 a2 e2 q2 => k1 σ2 ρ2 F2 H2 a2 (g1.ff.trans e2) q2
    have l3 : ∀ σ' ρ' F' H', At K c S F0 H0 F' H' σ' ρ' → Ex F1 F' → N.bk ρ' → D.bk σ' H' := fun σ2 ρ2 F2 H2 a2 e2 q2 => k3 σ2 ρ2 F2 H2 a2 (g1.ff.trans e2) q2
    have l4 : ∀ σ' ρ' F' H', At K c S F0 H0 F' H' σ' ρ' → Ex F1 F' → N.ct ρ' → D.ct σ' H' := fun σ2 ρ2 F2 H2 a2 e2 q2 => k4 σ2 ρ2 F2 H2 a2 (g1.ff.trans e2) q2
    cases b with
    | true => exact p σ F1 H1 D (a.go g1) l1 k2 l3 l4
    | false => exact p σ F1 H1 D (a.go g1) l1 k2 l3 l4
/-- if test: .., where the test is known to fail -/
theorem sx_guard {tc : TT} (h : EvT K c tc ρ fun b => b = false) (k : N.nx ρ) : Sx K c S F0 H0 (tIfS tc t tNext) ρ N := sx_if (h.imp fun b hb => by
  subst hb
  rw [if_neg Bool.false_ne_true]
  exact sx_next k)
theorem sx_guardq {tc : TT} (h : EvT K c tc ρ fun b => b = false) (k : Sx K c S F0 H0 u ρ N) : Sx K c S F0 H0 (tSeq (tIfS tc t tNext) u) ρ N := sx_seq (sx_guard (N := { N with nx := fun ρ' => Sx K c S F0 H0 u ρ' N }) h k)
/-- x, y = a, b -/
theorem sx_par {i j : Nat} {ta : TA} (h : EvA K c ta ρ fun ds => ∃ x y, ds = [x, y] ∧ N.nx ((ρ.set i (.d x)).set j (.d y))) : Sx K c S F0 H0 (tPar i j ta) ρ N := fun σ F H D a k1 _ _ _ =>
  h _ σ F H a.s a.g.fh a.g.m _ fun vs ds F1 H1 g1 r1 p => by
    obtain ⟨x, y, rfl, p⟩ := p
    cases r1 with
    | cons rx r2 =>
      cases r2 with
      | cons ry r3 =>
        cases r3
        exact ⟨_, _, rfl, k1 _ _ F1 H1 ⟨a.g.go g1, ((a.s.go g1).put i rx).put j ry⟩ g1.ff p⟩
theorem sx_aug {i : Nat} {ti : TIp} (h : ∃ x, ρ[i]? = some (.d x) ∧ Ev K c te ρ fun y => RV2 K c ti x y fun z => N.nx (ρ.set i (.d z))) : Sx K c S F0 H0 (tAug i te ti) ρ N := fun σ F H D a k1 _ _ _ => by
  obtain ⟨x, e, h⟩ := h
  obtain ⟨v, e1, r⟩ := a.s.dat e
  exact ⟨v, e1, h _ σ F H a.s a.g.fh a.g.m _ fun w y F1 H1 g1 r1 p => p F1 H1 v w (r.mono g1.ff) r1 g1.fh g1.m _ fun z d F2 H2 g2 r2 q =>
    k1 _ _ F2 H2 ⟨(a.g.go g1).go g2, ((a.s.go g1).go g2).put i r2⟩ (g1.ff.trans g2.ff) q⟩
theorem sx_for {wi : TI} {g : TG} {tb : TS}
    (h : EvI K c wi ρ fun xs => ∃ Inv : Nat → List SV → Prop, Inv 0 ρ ∧
      (∀ i x ρ', xs[i]? = some x → Inv i ρ' → EvG K c g x ρ' fun ρ2 => Sx K c S F0 H0 tb ρ2 { N with nx := Inv (i + 1), ct := Inv (i + 1), bk := N.nx }) ∧ ∀ ρ', Inv xs.length ρ' → N.nx ρ') :
    Sx K c S F0 H0 (tFor wi g tb) ρ N := fun σ F H D a k1 k2 k3 k4 =>
  h _ σ F H a.s a.g.fh a.g.m _ fun J xs F1 H1 g1 w h1 => by
    obtain ⟨Inv, i0, hs, hd⟩ := h1
    refine ⟨fun i n σ2 H2 => n = xs.length - i ∧ i ≤ xs.length ∧ ∃ F2 ρ2, At K c S F0 H0 F2 H2 σ2 ρ2 ∧ Ex F1 F2 ∧ Inv i ρ2, ⟨xs.length, by simp, Nat.zero_le _, F1, ρ, a.go g1, Ex.rfl' F1, i0⟩, ?_⟩
    rintro i n σ2 H2 ⟨rfl, hi, F2, ρ2, a2, e2, hI⟩
    by_cases hlt : i < xs.length
    · refine .inr ⟨w.go i H2 hlt (e2.trans a2.g.fh), fun σ3 H3 => ∃ F3 ρ3, At K c S F0 H0 F3 H3 σ3 ρ3 ∧ Ex F1 F3 ∧ Inv (i + 1) ρ3, fun σ3 H3 p => ⟨xs.length - (i + 1), by omega, rfl, hlt, p⟩, fun x H3 y => ?_⟩
      obtain ⟨F3, d, hx, g3, rx⟩ := w.yld i x H2 H3 F2 hlt e2 a2.g.fh a2.g.m y
      refine hs i d ρ2 hx hI _ σ2 F3 H3 x (a2.go g3).s g3.fh g3.m rx _ fun σ4 ρ4 F4 H4 g4 S4 p => ?_
      have e14 : Ex F1 F4 := e2.trans (g3.ff.trans g4.ff)
      exact p σ4 F4 H4 _ ⟨(a2.g.go g3).go g4, S4⟩ (fun σ5 ρ5 F5 H5 a5 e5 q => ⟨F5, ρ5, a5, e14.trans e5, q⟩) k2
        (fun σ5 ρ5 F5 H5 a5 e5 q => k1 σ5 ρ5 F5 H5 a5 ((g1.ff.trans e14).trans e5) q) (fun σ5 ρ5 F5 H5 a5 e5 q => ⟨F5, ρ5, a5, e14.trans e5, q⟩)
    · have ei : i = xs.length := by omega
      subst ei
      exact .inl ⟨w.stop H2 (e2.trans a2.g.fh), k1 σ2 ρ2 F2 H2 a2 (g1.ff.trans e2) (hd ρ2 hI)⟩
theorem sx_while {tc : TT} {tb : TS} (Inv : Nat → List SV → Prop) (h0 : ∃ m, Inv m ρ)
    (hs : ∀ m ρ', Inv m ρ' → EvT K c tc ρ' fun b => if b = true then Sx K c S F0 H0 tb ρ' { N with nx := fun ρ2 => ∃ m', m' < m ∧ Inv m' ρ2, ct := fun ρ2 => ∃ m', m' < m ∧ Inv m' ρ2, bk := N.nx } else N.nx ρ') :
    Sx K c S F0 H0 (tWhile tc tb) ρ N := fun σ F H D a k1 k2 k3 k4 => by
  obtain ⟨m0, h0⟩ := h0
  refine ⟨fun m σ2 H2 => ∃ F2 ρ2, At K c S F0 H0 F2 H2 σ2 ρ2 ∧ Ex F F2 ∧ Inv m ρ2, ⟨m0, F, ρ, a, Ex.rfl' F, h0⟩, ?_⟩
  rintro m σ2 H2 ⟨F2, ρ2, a2, e2, hI⟩
  refine hs m ρ2 hI _ σ2 F2 H2 a2.s a2.g.fh a2.g.m _ fun b F3 H3 g3 p => ?_
  cases b with
  | true =>
    refine ⟨fun σ3 H3 => ∃ m', m' < m ∧ ∃ F3 ρ3, At K c S F0 H0 F3 H3 σ3 ρ3 ∧ Ex F F3 ∧ Inv m' ρ3, fun σ3 H3 q => q, ?_⟩
    have e3 : Ex F F3 := e2.trans g3.ff
    exact p σ2 F3 H3 _ (a2.go g3) (fun σ5 ρ5 F5 H5 a5 e5 ⟨m', l, q⟩ => ⟨m', l, F5, ρ5, a5, e3.trans e5, q⟩) k2
      (fun σ5 ρ5 F5 H5 a5 e5 q => k1 σ5 ρ5 F5 H5 a5 (e3.trans e5) q) (fun σ5 ρ5 F5 H5 a5 e5 ⟨m', l, q⟩ => ⟨m', l, F5, ρ5, a5, e3.trans e5, q⟩)
  | false => exact k1 σ2 ρ2 F3 H3 (a2.go g3) (e2.trans g3.ff) p
theorem Sx.imp {N' : Fi} (h : Sx K c S F0 H0 t ρ N) (k1 : ∀ ρ', N.nx ρ' → N'.nx ρ') (k2 : ∀ d, N.rt d → N'.rt d) (k3 : ∀ ρ', N.bk ρ' → N'.bk ρ') (k4 : ∀ ρ', N.ct ρ' → N'.ct ρ') : Sx K c S F0 H0 t ρ N' := fun σ F H D a l1 l2 l3 l4 =>
  h σ F H D a (fun σ' ρ' F' H' a e q => l1 σ' ρ' F' H' a e (k1 _ q)) (fun v d F' H' g r q => l2 v d F' H' g r (k2 _ q)) (fun σ' ρ' F' H' a e q => l3 σ' ρ' F' H' a e (k3 _ q)) (fun σ' ρ' F' H' a e q => l4 σ' ρ' F' H' a e (k4 _ q))

/-! ### lists of one's own -/
/-- a list of one's own becomes still -/
theorem Slots.freeze {F H : Hp} {σ : St} {B : Addr → Prop} (s : Slots K c B F H σ ρ) {i : Nat} {ds : List DV} (e : ρ[i]? = some (.own (.lst ds))) :
    ∃ l vs, σ[i]? = some (some (.ref l)) ∧ H l = some (.lst vs) ∧ F l = none ∧ B l ∧ ¬ c.T l ∧ Slots K c B (upd F l (.lst vs)) H σ (ρ.set i (.d (.lst ds))) := by
  obtain ⟨v, e1, l, o, rfl, hl, hf, hT, hB, r⟩ := s.ok i _ e
  cases o with
  | lst vs =>
    have r : RelA K F vs ds := r
    have ex : Ex F (upd F l (.lst vs)) := Evl.Ex.new hf
    refine ⟨l, vs, e1, hl, hf, hB.1, hT, by rw [List.length_set]; exact s.len, fun j x q => ?_, fun j k xs ys hjk q1 q2 => ?_⟩
    · by_cases z : i = j
      · subst z
        have hlt : i < ρ.length := (List.getElem?_eq_some_iff.mp e).1
        rw [List.getElem?_set_self hlt] at q
        cases q
        exact ⟨_, e1, _, rfl, .lst upd_same (r.mono ex)⟩
      · rw [List.getElem?_set_ne z] at q
        obtain ⟨w, e2, q2⟩ := s.ok j x q
        refine ⟨w, e2, ?_⟩
        cases x with
        | non => exact q2
        | any => trivial
        | d y =>
          obtain ⟨y1, y2, y3⟩ := q2
          exact ⟨y1, y2, y3.mono ex⟩
        | own y =>
          obtain ⟨l2, o2, f1, f2, f3, f4, f5, f6⟩ := q2
          refine ⟨l2, o2, f1, f2, ?_, f4, f5, f6.mono ex⟩
          have hne : l2 ≠ l := by
            intro y
            have := s.dj i j _ _ z e q
            rw [e1, e2, f1, y] at this
            exact this rfl
          rw [upd_ne hne]
          exact f3
    · have n1 : i ≠ j := by
        intro z
        subst z
        have hlt : i < ρ.length := (List.getElem?_eq_some_iff.mp e).1
        rw [List.getElem?_set_self hlt] at q1
        cases q1
      have n2 : i ≠ k := by
        intro z
        subst z
        have hlt : i < ρ.length := (List.getElem?_eq_some_iff.mp e).1
        rw [List.getElem?_set_self hlt] at q2
        cases q2
      rw [List.getElem?_set_ne n1] at q1
      rw [List.getElem?_set_ne n2] at q2
      exact s.dj j k xs ys hjk q1 q2
  | _ => exact absurd r (fun z => z)
theorem sx_freeze {i : Nat} {ds : List DV} (e : ρ[i]? = some (.own (.lst ds))) (h : Sx K c (fun _ => False) F0 H0 t (ρ.set i (.d (.lst ds))) N) : Sx K c (fun _ => False) F0 H0 t ρ N := fun σ F H D a k1 k2 k3 k4 => by
  obtain ⟨l, vs, e1, hl, hf, hB, hT, s⟩ := a.s.freeze e
  have hB0 : H0 l = none := by
    rcases hB with h | h
    · exact h
    · exact h.elim
  have ex : Ex F (upd F l (.lst vs)) := Evl.Ex.new hf
  have g : Gs c (fun _ => False) F0 H0 (upd F l (.lst vs)) H := by
    refine ⟨a.g.ff.trans ex, fun x o q => ?_, a.g.hh, a.g.dom, fun x o q z => ?_, c.st _ _ _ _ (fun _ _ _ q => q) (fun x tx q => ?_) a.g.m⟩
    · unfold upd at q
      split at q
      · rename_i z
        subst z
        cases q
        exact hl
      · exact a.g.fh x o q
    · rw [upd_ne (ne_of_none q hB0)]
      exact a.g.fr x o q z
    · rw [upd_ne (show x ≠ l from fun z => hT (by rw [← z]; exact tx))]
      exact q
  exact h σ _ H D ⟨g, s⟩ (fun σ' ρ' F' H' a' e' q => k1 σ' ρ' F' H' a' (ex.trans e') q) k2 (fun σ' ρ' F' H' a' e' q => k3 σ' ρ' F' H' a' (ex.trans e') q) (fun σ' ρ' F' H' a' e' q => k4 σ' ρ' F' H' a' (ex.trans e') q)
end
end VL

set_option Elab.async false
set_option linter.all false
set_option maxRecDepth 100000
namespace VL
open PySem PySem.Spec L2
open Evl (Ex)
section
variable {K : PySem.W.Frag} {c : Cfg} {S : Addr → Prop} {F0 H0 : Hp} {ρ : List SV} {N : Fi} {t u : TS} {te ta tb : TE} {P : DV → Prop}
/-! ### new objects that may still change -/
def EvN (K : PySem.W.Frag) (c : Cfg) (t : TE) (ρ : List SV) (P : OV → Prop) : Prop := ∀ (B : Addr → Prop) (σ : St) (F H : Hp), Slots K c B F H σ ρ → Ex F H → c.M F H → ∀ Q : VK,
  (∀ l o x F' H', Go c F H F' H' → H' l = some o → H l = none → F' l = none → RelO K F' o x → P x → Q (.ref l) H') → t σ H Q
theorem none_of_ex {F H : Hp} {a : Addr} (e : Ex F H) (h : H a = none) : F a = none := by
  cases z : F a with
  | none => rfl
  | some o => exact absurd (e a o z) (by rw [h]; exact fun y => nomatch y)
theorem Go.back {F H F' H' : Hp} (g : Go c F H F' H') {a : Addr} (h : H' a = none) : H a = none := by
  cases z : H a with
  | none => rfl
  | some o => exact absurd h (g.dom a o z)
theorem en_lst {tl : TA} {P : OV → Prop} (h : EvA K c tl ρ fun xs => xs.length ≤ 1000000 ∧ P (.lst xs)) : EvN K c (tLst tl) ρ P := fun B σ F H S ex m Q q =>
  h B σ F H S ex m _ fun vs xs F1 H1 g1 r1 h1 => ⟨by rw [r1.len]; exact Nat.le_trans h1.1 (by decide), fun p hp =>
    q p _ (.lst xs) F1 _ (g1.trans (Go.newM g1.fh g1.m hp)) upd_same (g1.back hp) (none_of_ex g1.fh hp) r1 h1.2⟩
theorem en_lc {wi : TI} {g : TG} {tt : TT} {te : TE} {vs : List Nat} {P : OV → Prop} (ho : OwnG g vs)
    (h : EvI K c wi ρ fun xs => xs.length ≤ 1000000 ∧ ∃ Inv : Nat → List DV → Prop, Inv 0 [] ∧
      (∀ i x acc, xs[i]? = some x → Inv i acc → acc.length ≤ i → EvG K c g x (wipeR ρ vs) fun ρ2 => EvT K c tt ρ2 fun b => if b = true then Ev K c te ρ2 fun y => Inv (i + 1) (acc ++ [y]) else Inv (i + 1) acc) ∧
      ∀ acc, Inv xs.length acc → acc.length ≤ xs.length → P (.lst acc)) : EvN K c (tLc wi g tt te vs) ρ P := fun B σ F H S ex m Q q =>
  h B σ F H S ex m _ fun J xs F1 H1 g1 w h1 => by
    obtain ⟨hz, Inv, i0, hs, hd⟩ := h1
    intro D hD
    have hT : ¬ c.T D := fun t => c.al F1 H1 D g1.m t hD
    have hFn : F1 D = none := none_of_ex g1.fh hD
    refine ⟨fun i n H2 => n = xs.length - i ∧ i ≤ xs.length ∧ ∃ F2 ws acc, Go c F1 H1 F2 H2 ∧ H2 D = some (.lst ws) ∧ F2 D = none ∧ RelA K F2 ws acc ∧ Inv i acc ∧ acc.length ≤ i, ⟨xs.length, by simp, Nat.zero_le _, F1, [], [], Go.newM g1.fh g1.m hD, upd_same, hFn, .nil, i0, Nat.le_refl _⟩, ?_⟩
    rintro i n H2 ⟨rfl, hi, F2, ws, acc, g2, hl, hf2, ra, hI, hlen⟩
    by_cases hlt : i < xs.length
    · refine .inr ⟨w.go i H2 hlt (g2.ff.trans g2.fh), fun H3 => ∃ F2 ws acc, Go c F1 H1 F2 H3 ∧ H3 D = some (.lst ws) ∧ F2 D = none ∧ RelA K F2 ws acc ∧ Inv (i + 1) acc ∧ acc.length ≤ i + 1, fun H3 p => ⟨xs.length - (i + 1), by omega, rfl, hlt, p⟩, fun x H3 y => ?_⟩
      obtain ⟨F3, d, hx, g3, rx⟩ := w.yld i x H2 H3 F2 hlt g2.ff g2.fh g2.m y
      have hW : Slots K c B F3 H3 (wipe σ vs) (wipeR ρ vs) := ((S.go g1).go (g2.trans g3)).wipes vs
      have e1 := hs i d acc hx hI hlen B (wipe σ vs) F3 H3 x hW g3.fh g3.m rx (fun σ2 H4 => tt σ2 H4 fun b H5 => if b = true then te σ2 H5 fun y H6 => ∃ acc, H6 D = some (.lst acc) ∧ acc.length < sizeLine ∧ (∃ F2 ws acc_1, Go c F1 H1 F2 (upd H6 D (.lst (acc ++ [y]))) ∧ (upd H6 D (.lst (acc ++ [y]))) D = some (.lst ws) ∧ F2 D = none ∧ RelA K F2 ws acc_1 ∧ Inv (i + 1) acc_1 ∧ acc_1.length ≤ i + 1) else ∃ F2 ws acc, Go c F1 H1 F2 H5 ∧ H5 D = some (.lst ws) ∧ F2 D = none ∧ RelA K F2 ws acc ∧ Inv (i + 1) acc ∧ acc.length ≤ i + 1) fun σ2 ρ2 F4 H4 g4 S4 h4 => ?_
      · have e2 := ho x (wipe σ vs) H3 _ e1
        rw [wipe_wipe] at e2
        exact e2
      · refine h4 B σ2 F4 H4 S4 g4.fh g4.m _ fun b F5 H5 g5 h5 => ?_
        have g35 := (g3.trans g4).trans g5
        cases b with
        | true =>
          refine h5 B σ2 F5 H5 (S4.go g5) g5.fh g5.m _ fun y dy F6 H6 g6 ry hI2 => ?_
          have g36 := g35.trans g6
          have hl6 := g36.hh D _ hl hT
          have hf6 := g36.fr D _ hl hf2
          refine ⟨ws, hl6, ?_, F6, ws ++ [y], acc ++ [dy], ?_, upd_same, hf6, (ra.mono g36.ff).snoc ry, hI2, by rw [List.length_append]; simp; omega⟩
          · rw [ra.len]
            exact Nat.lt_of_le_of_lt (Nat.le_trans hlen (Nat.le_trans hi hz)) (by decide)
          · have gg := g2.trans g36
            refine ⟨gg.ff, fun a u e => ?_, fun a u e t => ?_, fun a u e => ?_, gg.fr, ?_⟩
            · rw [upd_ne (ne_of_none e hf6)]
              exact gg.fh a u e
            · rw [upd_ne (ne_of_none e hD)]
              exact gg.hh a u e t
            · rw [upd_ne (ne_of_none e hD)]
              exact gg.dom a u e
            · refine c.st _ _ _ _ (fun a u ta q => ?_) (fun _ _ q => q) gg.m
              rw [upd_ne (show a ≠ D from fun z => hT (by rw [← z]; exact ta))]
              exact q
        | false => exact ⟨F5, ws, acc, g2.trans g35, g35.hh D _ hl hT, g35.fr D _ hl hf2, ra.mono g35.ff, h5, by omega⟩
    · have ei : i = xs.length := by omega
      subst ei
      exact .inl ⟨w.stop H2 (g2.ff.trans g2.fh), q D _ (.lst acc) F2 H2 (g1.trans g2) hl (g1.back hD) hf2 ra (hd acc hI hlen)⟩
theorem go_still {F H F' H' : Hp} {l : Addr} {o : HO} (m : c.M F H) (g : Go c F H F' H') (hl : H' l = some o) (h0 : H l = none) (hf : F' l = none) : Go c F H (upd F' l o) H' := by
  refine ⟨g.ff.trans (Evl.Ex.new hf), fun a u e => ?_, g.hh, g.dom, fun a u e z => ?_, c.st _ _ _ _ (fun _ _ _ q => q) (fun a ta q => ?_) g.m⟩
  · unfold upd at e
    split at e
    · rename_i z
      subst z
      cases e
      exact hl
    · exact g.fh a u e
  · rw [upd_ne (ne_of_none e h0)]
    exact g.fr a u e z
  · rw [upd_ne (show a ≠ l from fun z => c.al F H a m ta (by rw [z]; exact h0))]
    exact q
/-- a new list as data -/
theorem ev_en (h : EvN K c te ρ fun x => ∃ ds, x = .lst ds ∧ P (.lst ds)) : Ev K c te ρ P := fun B σ F H S ex m Q q =>
  h B σ F H S ex m Q fun l o x F' H' g hl h0 hf r p => by
    obtain ⟨ds, rfl, p⟩ := p
    cases o with
    | lst vs => exact q _ _ _ _ (go_still m g hl h0 hf) (.lst upd_same (RelA.mono (Evl.Ex.new hf) r)) p
    | _ => exact absurd r (fun z => z)
/-- the deterministic cases of a comprehension -/
theorem en_lcMap {wi : TI} {g : TG} {te : TE} {vs : List Nat} {P : OV → Prop} (ho : OwnG g vs) 
    (h : EvI K c wi ρ fun xs => xs.length ≤ 1000000 ∧ ∃ f : DV → DV, (∀ x ∈ xs, EvG K c g x (wipeR ρ vs) fun ρ2 => Ev K c te ρ2 fun y => y = f x) ∧ P (.lst (xs.map f))) : EvN K c (tLc wi g tYes te vs) ρ P :=
  en_lc ho fun B σ F H S ex m R q => h B σ F H S ex m R fun J xs F' H' g' w p => by
    obtain ⟨hz, f, hf, p⟩ := p
    refine q J xs F' H' g' w ⟨hz, fun i acc => acc = (xs.take i).map f, rfl, fun i x acc hx e _ => ?_, fun acc e _ => ?_⟩
    · intro B σ F H v S ex m r Q q
      refine hf x (List.mem_of_getElem? hx) B σ F H v S ex m r Q fun σ2 ρ2 F2 H2 g2 S2 k => q σ2 ρ2 F2 H2 g2 S2 (et_yes ?_)
      show Ev K c te ρ2 _
      refine k.imp fun y hy => ?_
      show acc ++ [y] = (xs.take (i + 1)).map f
      rw [e, hy, List.take_add_one, hx, List.map_append]
      rfl
    · rw [e, List.take_length]
      exact p
/-- .. with a test -/
theorem en_lcFil {wi : TI} {g : TG} {tt : TT} {te : TE} {vs : List Nat} {P : OV → Prop} (ho : OwnG g vs) 
    (h : EvI K c wi ρ fun xs => xs.length ≤ 1000000 ∧ ∃ (p : DV → Bool) (f : DV → DV), (∀ x ∈ xs, EvG K c g x (wipeR ρ vs) fun ρ2 => EvT K c tt ρ2 fun b => b = p x ∧ (b = true → Ev K c te ρ2 fun y => y = f x)) ∧ P (.lst ((xs.filter p).map f))) : EvN K c (tLc wi g tt te vs) ρ P :=
  en_lc ho fun B σ F H S ex m R q => h B σ F H S ex m R fun J xs F' H' g' w pp => by
    obtain ⟨hz, p, f, hf, pp⟩ := pp
    refine q J xs F' H' g' w ⟨hz, fun i acc => acc = ((xs.take i).filter p).map f, rfl, fun i x acc hx e _ => ?_, fun acc e _ => ?_⟩
    · intro B σ F H v S ex m r Q q
      refine hf x (List.mem_of_getElem? hx) B σ F H v S ex m r Q fun σ2 ρ2 F2 H2 g2 S2 k => q σ2 ρ2 F2 H2 g2 S2 (k.imp fun b hb => ?_)
      obtain ⟨rfl, hb⟩ := hb
      cases hp : p x with
      | true =>
        show Ev K c te ρ2 _
        refine (hb hp).imp fun y hy => ?_
        show acc ++ [y] = ((xs.take (i + 1)).filter p).map f
        rw [e, hy, List.take_add_one, hx]
        simp [hp]
      | false =>
        show acc = ((xs.take (i + 1)).filter p).map f
        rw [e, List.take_add_one, hx]
        simp [hp]
    · rw [e, List.take_length]
      exact pp

/-! ### calls -/
def SpD (K : PySem.W.Frag) (f : Cfg → List DV → (DV → Prop) → Prop) : Sp := fun vs H Q _ => ∃ (c : Cfg) (F : Hp) (ds : List DV) (P : DV → Prop), Ex F H ∧ c.M F H ∧ RelA K F vs ds ∧ f c ds P ∧ ∀ v d F' H', Go c F H F' H' → Rel K F' v d → P d → Q v H'
theorem ev_call {f : Cfg → List DV → (DV → Prop) → Prop} {E : XK} {tl : TA} (h : EvA K c tl ρ fun ds => f c ds P) : Ev K c (tCall (SpD K f) [] E tl) ρ P := fun B σ F H S ex m Q q =>
  h B σ F H S ex m _ fun vs ds F1 H1 g1 r1 h1 => ⟨c, F1, ds, P, g1.fh, g1.m, by rw [List.append_nil]; exact r1, h1, fun v d F2 H2 g2 r2 p => q v d F2 H2 (g1.trans g2) r2 p⟩
theorem ev_meth {f : Cfg → List DV → (DV → Prop) → Prop} {E : XK} {tl : TA} {C : Addr} {m : Str} (h : Ev K c ta ρ fun x => ∃ fs, x = .ins C fs ∧ fs.lookup m = none ∧ EvA K c tl ρ fun ds => f c (x :: ds) P) : Ev K c (tMeth C m (SpD K f) [] E ta tl) ρ P := fun B σ F H S ex mm Q q =>
  h B σ F H S ex mm _ fun v x F1 H1 g1 r1 h1 => by
    obtain ⟨fs, rfl, hl, h2⟩ := h1
    cases r1 with
    | ins ha rf => exact ⟨_, _, _, rfl, g1.fh _ _ ha, rf.no hl, h2 B σ F1 H1 (S.go g1) g1.fh g1.m _ fun vs ds F2 H2 g2 r2 h3 =>
        ⟨c, F2, _ :: ds, P, g2.fh, g2.m, by rw [List.append_nil]; exact .cons (.ins (g2.ff _ _ ha) (rf.mono g2.ff)) r2, h3, fun v d F3 H3 g3 r3 p => q v d F3 H3 ((g1.trans g2).trans g3) r3 p⟩⟩
/-- a def's slots at its start -/
def slots0 (n : Nat) (ds : List DV) : List SV := ds.map .d ++ List.replicate (n - ds.length) .non
theorem slots_start {B : Addr → Prop} {F H : Hp} {N : List Str} {vs : List V} {ds : List DV} (r : RelA K F vs ds) : Slots K c B F H (L2.start N vs) (slots0 N.length ds) := by
  have hlen := r.len
  have hno : ∀ (j : Nat) (x : OV), (slots0 N.length ds)[j]? ≠ some (.own x) := by
    intro j x e
    unfold slots0 at e
    rw [List.getElem?_append] at e
    split at e
    · rw [List.getElem?_map] at e
      cases z : ds[j]? with
      | none => rw [z] at e; cases e
      | some y => rw [z] at e; cases e
    · rw [List.getElem?_replicate] at e
      split at e <;> cases e
  refine ⟨by unfold L2.start slots0; simp [hlen], fun i s e => ?_, fun i j xs ys _ e1 => absurd e1 (hno i xs)⟩
  unfold slots0 at e
  unfold L2.start
  rw [List.getElem?_append] at e ⊢
  rw [List.length_map] at e ⊢
  rw [hlen]
  split at e
  · rename_i hi
    rw [if_pos hi]
    rw [List.getElem?_map] at e ⊢
    cases z : ds[i]? with
    | none => rw [z] at e; cases e
    | some y =>
      rw [z] at e
      cases e
      obtain ⟨v, e1, r1⟩ := r.get z
      exact ⟨some v, by rw [e1]; rfl, v, rfl, r1⟩
  · rename_i hi
    rw [if_neg hi]
    rw [List.getElem?_replicate] at e ⊢
    split at e
    · rename_i h2
      cases e
      exact ⟨none, by rw [if_pos h2], rfl⟩
    · cases e
theorem fn_pure {Pg : Program} {w : World} {mg : Str → Option Value} {base : Heap} {x qual : Str} {st : Stmt} {fa : Addr} {fd : FuncData} {Ns ps : List Str} {k : Nat} {f : Cfg → List DV → (DV → Prop) → Prop} (F : Fun K x qual st fa fd) (S : FnScope Ns ps (defScope st)) (len : ∀ c ds P, f c ds P → ds.length = ps.length)
    (hbody : ∀ (cdv : Value) (A : Around) (outer : List Env) (s : Shared) (H : Hp) (E : XK), Room k (A.deeper (PyProof.Rows.envOfC qual (defScope st) s.heap.objs.size fa cdv)) →
      ∃ t, PSs (cxOf CX0 Pg w K mg base Ns qual (defScope st) fa cdv A outer s H E).nox (defBody st) t ∧ ∀ (c : Cfg) (F : Hp) (ds : List DV) (P : DV → Prop), f c ds P → Sx K c (fun _ => False) F H t (slots0 Ns.length ds) { nx := fun _ => P .non, rt := P }) :
    FnOk Pg w K mg base CX0 (k + 1) fa fd ps (SpD K f) := by
  refine F.ok S (fun vs H Q E h => ?_) (fun cdv A outer s H vs Q E hr h => ?_)
  · obtain ⟨c, Fr, ds, P, _, _, r, h, _⟩ := h
    rw [r.len]
    exact len c ds P h
  · obtain ⟨c, Fr, ds, P, ex, m, r, h, q⟩ := h
    obtain ⟨t, ht, hs⟩ := hbody cdv A outer s H E hr
    refine ⟨t, ht, ?_⟩
    refine hs c Fr ds P h (L2.start Ns vs) Fr H _ ⟨Gs.refl ex m, slots_start r⟩ (fun σ' ρ' F' H' a _ p => ?_) (fun v d F' H' g r p => q v d F' H' g.toGo r p) (fun _ _ _ _ _ _ p => p.elim) (fun _ _ _ _ _ _ p => p.elim)
    exact q .non .non F' H' a.g.toGo .non p
end
/-- a def that may be called by its name -/
structure Cal (Pg : Program) (w : World) (K : PySem.W.Frag) (mg : Str → Option Value) (base : Heap) (k : Nat) (x : Str) (sp : Sp) : Prop where
  ex : ∃ (f : Addr) (fd : FuncData) (ps : List Str), FnOk Pg w K mg base CX0 k f fd ps sp ∧ mg x = some (.ref f) ∧ PySem.W.keepIn K (.ref f) = true ∧ Binds K fd ps []
/-- a method of the class at C -/
structure Met (Pg : Program) (w : World) (K : PySem.W.Frag) (mg : Str → Option Value) (base : Heap) (k : Nat) (C : Addr) (m : Str) (sp : Sp) : Prop where
  ex : ∃ (f : Addr) (fd : FuncData) (ps : List Str), Cls K C ∧ Meth K C m f ∧ FnOk Pg w K mg base CX0 k f fd ps sp ∧ Binds K fd ps []
section
variable {X : Cx} {k j : Nat} {C : Addr} {x m : Str} {sp : Sp} {p pos apos : Pos} {e o : Expr} {es : List Expr} {ta : TE} {t : TA}
theorem pe_cal (c : Cal X.prog X.w X.K X.mg X.base k x sp) (hr : Room j X.A) (hk : k ≤ j) (hg : Gl X x) (ha : PA X (e :: es) t) (hdb : (x == ("__debug__" : Str)) = false := by decide)
    (h1 : starEach (e :: es) X.env = (false, eval e X.env) :: starEach es X.env := by rfl) (h2 : (backTo pos (starEach es X.env)).any (·.1) = false := by rfl) : PE X (.Call (.Name x p) (e :: es) [] pos) (tCall sp [] E0 t) := by
  obtain ⟨f, fd, ps, F, hm, kp, b⟩ := c.ex
  exact pe_call F (hr.mono hk) hg hm kp b .nil pass0 ha hdb h1 h2
end
end VL

set_option Elab.async false
set_option linter.all false
set_option maxRecDepth 10000
/-! the mathematics of numbers -/
namespace NM
open PySem
/-! ### choices -/
def ch : Nat → Nat → Nat
  | _, 0 => 1
  | 0, _ + 1 => 0
  | n + 1, k + 1 => ch n k + ch n (k + 1)
theorem ch_zero (n : Nat) : ch n 0 = 1 := by cases n <;> rfl
theorem ch_gt : ∀ (n k : Nat), n < k → ch n k = 0
  | 0, k + 1, _ => rfl
  | n + 1, k + 1, h => by
    show ch n k + ch n (k + 1) = 0
    rw [ch_gt n k (by omega), ch_gt n (k + 1) (by omega)]
theorem ch_self : ∀ n : Nat, ch n n = 1
  | 0 => rfl
  | n + 1 => by
    show ch n n + ch n (n + 1) = 1
    rw [ch_self n, ch_gt n (n + 1) (by omega)]
theorem ch_sym : ∀ (n k : Nat), k ≤ n → ch n k = ch n (n - k)
  | 0, 0, _ => rfl
  | n + 1, 0, _ => by
    rw [Nat.sub_zero, ch_self, ch_zero]
  | n + 1, k + 1, h => by
    by_cases e : k = n
    · subst e
      rw [Nat.sub_self, ch_self, ch_zero]
    · have h1 := ch_sym n k (by omega)
      have h2 := ch_sym n (k + 1) (by omega)
      have e1 : n + 1 - (k + 1) = (n - (k + 1)) + 1 := by omega
      rw [e1]
      show ch n k + ch n (k + 1) = ch n (n - (k + 1)) + ch n (n - (k + 1) + 1)
      rw [show n - (k + 1) + 1 = n - k by omega, ← h1, ← h2, Nat.add_comm]
/-- (k + 1) C(n, k + 1) = (n - k) C(n, k) -/
theorem ch_step : ∀ (n k : Nat), (k + 1) * ch n (k + 1) = (n - k) * ch n k
  | 0, k => by
    show (k + 1) * 0 = (0 - k) * ch 0 k
    rw [Nat.zero_sub, Nat.zero_mul, Nat.mul_zero]
  | n + 1, 0 => by
    have := ch_step n 0
    rw [ch_zero, Nat.sub_zero] at this
    show (0 + 1) * (ch n 0 + ch n (0 + 1)) = (n + 1 - 0) * ch (n + 1) 0
    rw [Nat.mul_add, this, ch_zero, ch_zero]
    omega
  | n + 1, k + 1 => by
    have h1 := ch_step n k
    have h2 := ch_step n (k + 1)
    show (k + 1 + 1) * (ch n (k + 1) + ch n (k + 1 + 1)) = (n + 1 - (k + 1)) * (ch n k + ch n (k + 1))
    rw [Nat.mul_add, h2]
    by_cases h : k + 1 ≤ n
    · obtain ⟨m, rfl⟩ : ∃ m, n = k + 1 + m := ⟨n - (k + 1), by omega⟩
      rw [show k + 1 + m - k = m + 1 by omega] at h1
      rw [show k + 1 + m - (k + 1) = m by omega, show k + 1 + m + 1 - (k + 1) = m + 1 by omega, Nat.mul_add, ← h1]
      simp only [Nat.add_mul, Nat.one_mul]
      omega
    · by_cases e : n = k
      · subst e
        rw [ch_gt n (n + 1) (by omega)]
        simp
      · rw [ch_gt n (k + 1) (by omega), ch_gt n k (by omega)]
        simp
theorem fp_nat : ∀ (k n : Nat), k ≤ n → Builtin.Math.fallingProduct (n : Int) k = ((ch n k : Nat) : Int) * Builtin.Math.fallingProduct (k : Int) k := by
  have key : ∀ (k n : Nat), k ≤ n → ∀ j, j ≤ k → True := fun _ _ _ _ _ => trivial
  -- n falling k = C(n, k) * k!
  have fact : ∀ k : Nat, Builtin.Math.fallingProduct ((k + 1 : Nat) : Int) (k + 1) = ((k + 1 : Nat) : Int) * Builtin.Math.fallingProduct (k : Int) k := by
    have gen : ∀ (j : Nat) (m : Nat), j ≤ m → Builtin.Math.fallingProduct ((m + 1 : Nat) : Int) (j + 1) = ((m + 1 : Nat) : Int) * Builtin.Math.fallingProduct (m : Int) j := by
      intro j
      induction j with
      | zero =>
        intro m _
        rw [PySem.W.mc_fp_one, PySem.W.mc_fp_zero, Int.mul_one]
      | succ j ih =>
        intro m h
        rw [PySem.W.mc_fp_succ, ih m (by omega), PySem.W.mc_fp_succ, Int.mul_assoc]
        congr 2
        push_cast
        omega
    exact fun k => gen k k (Nat.le_refl _)
  intro k
  induction k with
  | zero =>
    intro n _
    rw [PySem.W.mc_fp_zero, PySem.W.mc_fp_zero, ch_zero]
    rfl
  | succ k ih =>
    intro n h
    rw [PySem.W.mc_fp_succ, ih n (by omega), fact k]
    have s := ch_step n k
    have e : ((n : Int) - (k : Int)) = ((n - k : Nat) : Int) := by omega
    rw [e]
    have s' : (((n - k) * ch n k : Nat) : Int) = (((k + 1) * ch n (k + 1) : Nat) : Int) := by rw [s]
    rw [Int.natCast_mul, Int.natCast_mul] at s'
    calc ((ch n k : Nat) : Int) * Builtin.Math.fallingProduct (k : Int) k * ((n - k : Nat) : Int)
        = (((n - k : Nat) : Int) * ((ch n k : Nat) : Int)) * Builtin.Math.fallingProduct (k : Int) k := by
          rw [Int.mul_right_comm, Int.mul_comm ((ch n k : Nat) : Int)]
      _ = (((k + 1 : Nat) : Int) * ((ch n (k + 1) : Nat) : Int)) * Builtin.Math.fallingProduct (k : Int) k := by rw [s']
      _ = _ := by rw [Int.mul_comm ((k + 1 : Nat) : Int), Int.mul_assoc]
theorem comb_le (n k : Nat) (h : k ≤ n) : PySem.W.mcComb (n : Int) (k : Int) = ((ch n k : Nat) : Int) := by
  by_cases hk : k ≤ n - k
  · have hm : min (k : Int) ((n : Int) - (k : Int)) = (k : Int) := by omega
    rw [PySem.W.mcComb_at (by omega) (by omega) hm, Int.toNat_natCast, fp_nat k n h]
    refine Int.mul_ediv_cancel _ ?_
    have := PySem.W.mc_fp_pos (n := (k : Int)) k (Int.le_refl _)
    omega
  · have hm : min (k : Int) ((n : Int) - (k : Int)) = ((n - k : Nat) : Int) := by omega
    rw [PySem.W.mcComb_at (by omega) (by omega) hm, Int.toNat_natCast, fp_nat (n - k) n (by omega), ch_sym n k h]
    refine Int.mul_ediv_cancel _ ?_
    have := PySem.W.mc_fp_pos (n := ((n - k : Nat) : Int)) (n - k) (Int.le_refl _)
    omega
theorem comb_eq (n k : Nat) : PySem.W.mcComb (n : Int) (k : Int) = ((ch n k : Nat) : Int) := by
  by_cases h : k ≤ n
  · exact comb_le n k h
  · rw [PySem.W.mcComb_above (by omega), ch_gt n k (by omega)]
    rfl
/-- choices of ints: 0 where there are none -/
def chI (n k : Int) : Nat := if k < 0 ∨ k > n then 0 else ch n.toNat k.toNat
theorem chI_nat (n k : Nat) : chI n k = ch n k := by
  unfold chI
  by_cases h : k > n
  · rw [if_pos (by omega), ch_gt n k h]
  · rw [if_neg (by omega), Int.toNat_natCast, Int.toNat_natCast]
theorem chI_neg {n k : Int} (h : k < 0) : chI n k = 0 := if_pos (.inl h)
theorem chI_pascal (n : Nat) (hn : 1 ≤ n) (k : Int) : chI n k = chI ((n : Int) - 1) k + chI ((n : Int) - 1) (k - 1) := by
  obtain ⟨m, rfl⟩ : ∃ m, n = m + 1 := ⟨n - 1, by omega⟩
  have e : (((m + 1 : Nat) : Int) - 1) = (m : Int) := by omega
  rw [e]
  by_cases h : k < 0
  · rw [chI_neg h, chI_neg h, chI_neg (by omega)]
  · obtain ⟨j, rfl⟩ := Int.eq_ofNat_of_zero_le (show 0 ≤ k by omega)
    cases j with
    | zero => rw [chI_neg (show ((0 : Nat) : Int) - 1 < 0 by decide), chI_nat, chI_nat, ch_zero, ch_zero]
    | succ j =>
      have e2 : (((j + 1 : Nat) : Int) - 1) = (j : Int) := by omega
      rw [e2, chI_nat, chI_nat, chI_nat]
      show ch m j + ch m (j + 1) = _
      rw [Nat.add_comm]
theorem sum_ch : ∀ n : Nat, ((List.range (n + 1)).map fun k => ch n k).sum = 2 ^ n := by
  have shift : ∀ (n m : Nat), ((List.range (m + 1)).map fun k => ch (n + 1) k).sum + ch n (m + 1 - 1) = 2 * ((List.range (m + 1)).map fun k => ch n k).sum := by
    intro n m
    induction m with
    | zero =>
      simp [ch_zero]
    | succ m ih =>
      rw [List.range_succ, List.map_append, List.sum_append, List.map_append, List.sum_append]
      simp only [List.map_cons, List.map_nil, List.sum_cons, List.sum_nil, Nat.add_zero]
      rw [Nat.mul_add, ← ih]
      have : ch (n + 1) (m + 1) = ch n m + ch n (m + 1) := rfl
      rw [this]
      simp only [Nat.add_sub_cancel]
      omega
  intro n
  induction n with
  | zero => decide
  | succ n ih =>
    have s := shift n (n + 1)
    rw [show n + 1 + 1 - 1 = n + 1 by omega, ch_gt n (n + 1) (by omega), Nat.add_zero] at s
    rw [s, List.range_succ, List.map_append, List.sum_append, ih]
    simp only [List.map_cons, List.map_nil, List.sum_cons, List.sum_nil, Nat.add_zero]
    rw [ch_gt n (n + 1) (by omega), Nat.pow_succ]
    omega
theorem snoc_ind {α : Type} {p : List α → Prop} (h0 : p []) (hs : ∀ l a, p l → p (l ++ [a])) : ∀ l, p l := by
  have key : ∀ l : List α, p l.reverse := by
    intro l
    induction l with
    | nil => exact h0
    | cons a l ih =>
      rw [List.reverse_cons]
      exact hs _ _ ih
  intro l
  have := key l.reverse
  rwa [List.reverse_reverse] at this
theorem cast_sum : ∀ l : List Nat, ((l.sum : Nat) : Int) = (l.map fun (x : Nat) => (x : Int)).sum
  | [] => rfl
  | b :: l => by
    rw [List.sum_cons, List.map_cons, List.sum_cons, Int.natCast_add, cast_sum l]
theorem sum_ones : ∀ l : List Nat, (l.map fun _ => 1).sum = l.length
  | [] => rfl
  | b :: l => by
    rw [List.map_cons, List.sum_cons, sum_ones l, List.length_cons]
    omega
theorem flat_ones : ∀ l : List Nat, (l.map fun b => [b + 48]).flatten = l.map (· + 48)
  | [] => rfl
  | b :: l => by
    rw [List.map_cons, List.flatten_cons, flat_ones l]
    rfl
/-! ### bits -/
/-- the value of bits, the greatest first -/
def bv (l : List Nat) : Nat := l.foldl (fun a b => a * 2 + b) 0
theorem bv_snoc (l : List Nat) (b : Nat) : bv (l ++ [b]) = bv l * 2 + b := by
  unfold bv
  rw [List.foldl_append]
  rfl
/-- the bits of a number, so many -/
def bitsN : Nat → Nat → List Nat
  | 0, _ => []
  | m + 1, n => bitsN m (n / 2) ++ [n % 2]
theorem bitsN_len : ∀ m n : Nat, (bitsN m n).length = m
  | 0, _ => rfl
  | m + 1, n => by
    show (bitsN m (n / 2) ++ [n % 2]).length = m + 1
    rw [List.length_append, bitsN_len m]
    rfl
theorem bitsN_lt : ∀ m n : Nat, ∀ b ∈ bitsN m n, b < 2
  | 0, _, b, h => nomatch h
  | m + 1, n, b, h => by
    rcases List.mem_append.mp h with h | h
    · exact bitsN_lt m (n / 2) b h
    · have : b = n % 2 := by simpa using h
      omega
theorem bv_bitsN : ∀ m n : Nat, bv (bitsN m n) = n % 2 ^ m
  | 0, n => by
    show 0 = n % 1
    omega
  | m + 1, n => by
    show bv (bitsN m (n / 2) ++ [n % 2]) = n % 2 ^ (m + 1)
    rw [bv_snoc, bv_bitsN m (n / 2), Nat.pow_succ, Nat.mul_comm (2 ^ m) 2, Nat.mod_mul]
    omega
theorem bv_lt : ∀ l : List Nat, (∀ b ∈ l, b < 2) → bv l < 2 ^ l.length := by
  refine snoc_ind ?_ ?_
  · intro _; exact Nat.one_pos
  · intro l b ih h
    rw [bv_snoc, List.length_append]
    have h1 := ih fun x hx => h x (List.mem_append_left _ hx)
    have h2 := h b (by simp)
    show bv l * 2 + b < 2 ^ (l.length + 1)
    rw [Nat.pow_succ]
    omega
theorem bitsN_bv : ∀ l : List Nat, (∀ b ∈ l, b < 2) → bitsN l.length (bv l) = l := by
  refine snoc_ind ?_ ?_
  · intro _; rfl
  · intro l b ih h
    have h1 := ih fun x hx => h x (List.mem_append_left _ hx)
    have h2 := h b (by simp)
    rw [bv_snoc, List.length_append]
    show bitsN l.length ((bv l * 2 + b) / 2) ++ [(bv l * 2 + b) % 2] = l ++ [b]
    rw [show (bv l * 2 + b) / 2 = bv l by omega, show (bv l * 2 + b) % 2 = b by omega, h1]
theorem bitsN_more : ∀ (m k n : Nat), n < 2 ^ m → bitsN (m + k) n = List.replicate k 0 ++ bitsN m n
  | 0, k, n, h => by
    have hn : n = 0 := by
      have : n < 1 := h
      omega
    subst hn
    show bitsN (0 + k) 0 = List.replicate k 0 ++ []
    rw [Nat.zero_add, List.append_nil]
    clear h
    induction k with
    | zero => rfl
    | succ k ih =>
      show bitsN k (0 / 2) ++ [0 % 2] = List.replicate (k + 1) 0
      rw [show 0 / 2 = 0 from rfl, ih, List.replicate_succ']
  | m + 1, k, n, h => by
    have h2 : n / 2 < 2 ^ m := by
      rw [Nat.pow_succ] at h
      omega
    rw [show m + 1 + k = (m + k) + 1 by omega]
    show bitsN (m + k) (n / 2) ++ [n % 2] = List.replicate k 0 ++ (bitsN m (n / 2) ++ [n % 2])
    rw [bitsN_more m k (n / 2) h2, List.append_assoc]
/-- as texts -/
theorem dig2 : ∀ d : Nat, d < 2 → (Nat.digitChar d).toNat = d + 48 := by decide
theorem codes_bits (n : Nat) : ∃ m, 1 ≤ m ∧ n < 2 ^ m ∧ (∀ k, 1 ≤ k → n < 2 ^ k → m ≤ k) ∧ XA.Bx.bCodes n = (bitsN m n).map (· + 48) := by
  induction n using Nat.strongRecOn with
  | _ n ih =>
    by_cases h : n < 2
    · refine ⟨1, Nat.le_refl _, h, fun k hk _ => hk, ?_⟩
      unfold XA.Bx.bCodes
      rw [Nat.toDigits_of_lt_base h]
      show [(Nat.digitChar n).toNat] = [n % 2 + 48]
      rw [dig2 n h, Nat.mod_eq_of_lt h]
    · obtain ⟨m, h1, h2, h3, h4⟩ := ih (n / 2) (by omega)
      refine ⟨m + 1, by omega, by rw [Nat.pow_succ]; omega, fun k hk hn => ?_, ?_⟩
      · cases k with
        | zero => omega
        | succ k =>
          have hk1 : 1 ≤ k := by
            cases k with
            | zero => exact absurd hn (by simpa using h)
            | succ k => omega
          have := h3 k hk1 (by rw [Nat.pow_succ] at hn; omega)
          omega
      · unfold XA.Bx.bCodes at h4 ⊢
        have t : Nat.toDigits 2 (n / 2) ++ Nat.toDigits 2 (n % 2) = Nat.toDigits 2 (2 * (n / 2) + n % 2) := Nat.toDigits_append_toDigits (by decide) (by omega) (by omega)
        rw [Nat.div_add_mod] at t
        rw [← t, List.map_append, h4, Nat.toDigits_of_lt_base (show n % 2 < 2 by omega)]
        show (bitsN m (n / 2)).map (· + 48) ++ [(Nat.digitChar (n % 2)).toNat] = (bitsN m (n / 2) ++ [n % 2]).map (· + 48)
        rw [List.map_append, dig2 (n % 2) (by omega)]
        rfl
theorem codes_len {n m : Nat} (hm : 1 ≤ m) (h : n < 2 ^ m) : (XA.Bx.bCodes n).length ≤ m := by
  obtain ⟨k, h1, h2, h3, h4⟩ := codes_bits n
  rw [h4, List.length_map, bitsN_len]
  exact h3 m hm h
theorem codes_pad {n m : Nat} (hm : 1 ≤ m) (h : n < 2 ^ m) : List.replicate (m - (XA.Bx.bCodes n).length) 48 ++ XA.Bx.bCodes n = (bitsN m n).map (· + 48) := by
  obtain ⟨k, h1, h2, h3, h4⟩ := codes_bits n
  have hk := h3 m hm h
  have e : m = k + (m - k) := by omega
  rw [h4, List.length_map, bitsN_len]
  conv => rhs; rw [e, bitsN_more k (m - k) n h2]
  rw [List.map_append, List.map_replicate]
theorem bNum_bits (l : List Nat) : XA.Bx.bNum (l.map (· + 48)) = bv l := by
  unfold XA.Bx.bNum bv
  rw [List.foldl_map]
  congr 1
/-- how many bits so many things need -/
def bl (m : Nat) : Nat := Builtin.Int.intBits ((m : Int) - 1)
theorem bl_le (m : Nat) (h : 1 ≤ m) : m ≤ 2 ^ bl m := by
  unfold bl Builtin.Int.intBits
  by_cases e : m = 1
  · subst e; decide
  · rw [if_neg (by rw [beq_iff_eq]; omega)]
    have e2 : ((m : Int) - 1).natAbs = m - 1 := by omega
    rw [e2]
    have := Nat.lt_log2_self (n := m - 1)
    omega
theorem bl_least (m k : Nat) (h : 1 ≤ m) (hk : m ≤ 2 ^ k) : bl m ≤ k := by
  unfold bl Builtin.Int.intBits
  by_cases e : m = 1
  · subst e; exact Nat.zero_le _
  · rw [if_neg (by rw [beq_iff_eq]; omega)]
    have e2 : ((m : Int) - 1).natAbs = m - 1 := by omega
    rw [e2]
    have : (m - 1).log2 < k := (Nat.log2_lt (by omega)).mpr (by omega)
    omega
theorem bl_pow (k : Nat) : bl (2 ^ k) = k := by
  have hp := Nat.two_pow_pos k
  have h1 := bl_least (2 ^ k) k (by omega) (Nat.le_refl _)
  have h2 := bl_le (2 ^ k) (by omega)
  have h3 : k ≤ bl (2 ^ k) := (Nat.pow_le_pow_iff_right (by decide : 1 < 2)).mp h2
  omega
theorem bl_pow1 (k : Nat) : bl (2 ^ k + 1) = k + 1 := by
  have hp := Nat.two_pow_pos k
  have h1 := bl_least (2 ^ k + 1) (k + 1) (by omega) (by rw [Nat.pow_succ]; omega)
  have h2 := bl_le (2 ^ k + 1) (by omega)
  have h3 : k < bl (2 ^ k + 1) := (Nat.pow_lt_pow_iff_right (by decide : 1 < 2)).mp (by omega)
  omega
end NM

set_option Elab.async false
set_option linter.all false
set_option maxRecDepth 100000
namespace VL
open PySem PySem.Spec L2
open Evl (Ex)
/-! ### data that == tells apart -/
mutual
def pd : DV → PyData
  | .non => .none
  | .bl b => .bool b
  | .int i => .int i
  | .str x => .str x
  | .ty _ => .none
  | .adr _ => .none
  | .lst xs => .list (pds xs)
  | .tup xs => .tuple (pds xs)
  | .ins _ _ => .none
  | .tuf _ => .none
def pds : List DV → List PyData
  | [] => []
  | x :: xs => pd x :: pds xs
end
/-- ints and None, in lists and tuples at most so deep -/
def okD : Nat → DV → Bool
  | _, .int _ => true
  | _, .non => true
  | n + 1, .lst xs => xs.all (okD n)
  | n + 1, .tup xs => xs.all (okD n)
  | _, _ => false
theorem okD_cons {n : Nat} {x : DV} {xs : List DV} (h : (x :: xs).all (okD n) = true) : okD n x = true ∧ xs.all (okD n) = true := by
  rw [List.all_cons, Bool.and_eq_true] at h
  exact h
section
variable {K : PySem.W.Frag} {F H : Hp}
theorem rel_dp : ∀ (n : Nat) (d : DV) (v : V), okD n d = true → Rel K F v d → Ex F H → Dp K H v (pd d) ∧ (pd d).canLay0 = true ∧ (pd d).depth ≤ n := by
  intro n
  induction n with
  | zero =>
    intro d v h r e
    cases r with
    | int i => exact ⟨by simp only [pd]; exact .int i, by simp only [pd, PyData.canLay0], by simp only [pd, PyData.depth]; omega⟩
    | non => exact ⟨by simp only [pd]; exact .non, by simp only [pd, PyData.canLay0], by simp only [pd, PyData.depth]; omega⟩
    | _ => simp [okD] at h
  | succ n ih =>
    intro d v h r e
    have all : ∀ (ds : List DV) (vs : List V), ds.all (okD n) = true → RelA K F vs ds → DpAll K H vs (pds ds) ∧ PyData.canLayAll0 (pds ds) = true ∧ PyData.depthAll (pds ds) ≤ n := by
      intro ds
      induction ds with
      | nil =>
        intro vs _ r
        cases r
        exact ⟨by simp only [pds]; exact .nil, by simp only [pds, PyData.canLayAll0], by simp only [pds, PyData.depthAll]; omega⟩
      | cons x xs ihx =>
        intro vs h r
        obtain ⟨h1, h2⟩ := okD_cons h
        cases r with
        | cons r1 r2 =>
          obtain ⟨a1, a2, a3⟩ := ih x _ h1 r1 e
          obtain ⟨b1, b2, b3⟩ := ihx _ h2 r2
          refine ⟨by simp only [pds]; exact .cons a1 b1, by simp only [pds, PyData.canLayAll0, a2, b2, Bool.and_self], by simp only [pds, PyData.depthAll]; omega⟩
    cases r with
    | int i => exact ⟨by simp only [pd]; exact .int i, by simp only [pd, PyData.canLay0], by simp only [pd, PyData.depth]; omega⟩
    | non => exact ⟨by simp only [pd]; exact .non, by simp only [pd, PyData.canLay0], by simp only [pd, PyData.depth]; omega⟩
    | lst hs ra =>
      obtain ⟨a1, a2, a3⟩ := all _ _ (by simpa [okD] using h) ra
      exact ⟨by simp only [pd]; exact .lst (Evl.sq_of (e _ _ hs)) a1, by simp only [pd, PyData.canLay0]; exact a2, by simp only [pd, PyData.depth]; omega⟩
    | tup hs ra =>
      obtain ⟨a1, a2, a3⟩ := all _ _ (by simpa [okD] using h) ra
      exact ⟨by simp only [pd]; exact .tup (Evl.ex_t e hs) a1, by simp only [pd, PyData.canLay0]; exact a2, by simp only [pd, PyData.depth]; omega⟩
    | _ => simp [okD] at h
theorem eqv_iff : ∀ (n m : Nat) (d e : DV), okD n d = true → okD m e = true → (PyData.eqv (pd d) (pd e) = true ↔ d = e) := by
  intro n
  induction n with
  | zero =>
    intro m d e h1 h2
    cases d <;> simp [okD] at h1 <;> cases e <;> (try (cases m <;> simp [okD] at h2)) <;> simp [pd, PyData.eqv]
  | succ n ih =>
    intro m d e h1 h2
    have all : ∀ (m : Nat) (ds es : List DV), ds.all (okD n) = true → es.all (okD m) = true → (PyData.eqvAll (pds ds) (pds es) = true ↔ ds = es) := by
      intro m ds
      induction ds with
      | nil =>
        intro es _ _
        cases es <;> simp [pds, PyData.eqvAll]
      | cons x xs ihx =>
        intro es h1 h2
        cases es with
        | nil => simp [pds, PyData.eqvAll]
        | cons y ys =>
          obtain ⟨a1, a2⟩ := okD_cons h1
          obtain ⟨b1, b2⟩ := okD_cons h2
          have p := ih m x y a1 b1
          have q := ihx ys a2 b2
          simp only [pds, PyData.eqvAll, Bool.and_eq_true, p, q, List.cons.injEq]
    cases d with
    | int i => cases e <;> (try (cases m <;> simp [okD] at h2)) <;> simp [pd, PyData.eqv]
    | non => cases e <;> (try (cases m <;> simp [okD] at h2)) <;> simp [pd, PyData.eqv]
    | lst xs =>
      cases e with
      | lst ys =>
        cases m with
        | zero => simp [okD] at h2
        | succ m =>
          have p := all m xs ys (by simpa [okD] using h1) (by simpa [okD] using h2)
          simp only [pd, PyData.eqv, p, DV.lst.injEq]
      | _ => (try (cases m <;> simp [okD] at h2)) <;> simp [pd, PyData.eqv]
    | tup xs =>
      cases e with
      | tup ys =>
        cases m with
        | zero => simp [okD] at h2
        | succ m =>
          have p := all m xs ys (by simpa [okD] using h1) (by simpa [okD] using h2)
          simp only [pd, PyData.eqv, p, DV.tup.injEq]
      | _ => (try (cases m <;> simp [okD] at h2)) <;> simp [pd, PyData.eqv]
    | _ => simp [okD] at h1
end
/-! ### built-ins by data -/
def rLen (K : PySem.W.Frag) : List V → Hp → VK → Prop := fun xs H Q => ∃ p ys, xs = [.ref p] ∧ (SqL K H p ys ∨ SqT K H p ys) ∧ Q (.int ys.length) H
def rInt1 : List V → Hp → VK → Prop := fun xs H Q => (∃ i, xs = [.int i] ∧ Q (.int i) H) ∨ ∃ k, xs = [.bl k] ∧ Q (.int (if k then 1 else 0)) H
def rTupOf (K : PySem.W.Frag) : List V → Hp → VK → Prop := fun xs H Q => ∃ p ys, xs = [.ref p] ∧ ((SqL K H p ys ∧ ∀ l, H l = none → Q (.ref l) (upd H l (.tup ys))) ∨ (SqT K H p ys ∧ Q (.ref p) H))
def rLstOf (K : PySem.W.Frag) : List V → Hp → VK → Prop := fun xs H Q => ∃ p ys, xs = [.ref p] ∧ (SqL K H p ys ∨ SqT K H p ys) ∧ ∀ l, H l = none → Q (.ref l) (upd H l (.lst ys))
def rStrI : List V → Hp → VK → Prop := fun xs H Q => ∃ i, xs = [.int i] ∧ i.natAbs.log2 < 1920 ∧ Q (.str (toString i)) H
def rAbs : List V → Hp → VK → Prop := fun xs H Q => ∃ i, xs = [.int i] ∧ Q (.int (if i < 0 then -i else i)) H
def rMin2 : List V → Hp → VK → Prop := fun xs H Q => ∃ i j, xs = [.int i, .int j] ∧ Q (.int (if j < i then j else i)) H
def rMax2 : List V → Hp → VK → Prop := fun xs H Q => ∃ i j, xs = [.int i, .int j] ∧ Q (.int (if j > i then j else i)) H
def rAddS : R2 := fun x y H Q => ∃ i j, x = .str i ∧ y = .str j ∧ i.length + j.length ≤ sizeLine ∧ Q (.str (i ++ j)) H
def rComb : List V → Hp → VK → Prop := fun xs H Q => ∃ a b : Int, xs = [.int a, .int b] ∧ (0 ≤ a ∧ 0 ≤ b ∧ a < 2 ^ 64 ∧ (b ≤ 9000 ∨ a ≤ 18000)) ∧ Q (.int (PySem.W.mcComb a b)) H
def rInt2 : List V → Hp → VK → Prop := fun xs H Q => ∃ l : List Nat, xs = [.str (SX.S l), .int 2] ∧ l ≠ [] ∧ l.length ≤ 640 ∧ (∀ k ∈ l, XA.Bx.IsB k) ∧ Q (.int ((XA.Bx.bNum l : Nat) : Int)) H
def rIntS : List V → Hp → VK → Prop := fun xs H Q => ∃ a n, xs = [.str a] ∧ PySem.intText? a = some n ∧ a.length ≤ 640 ∧ Q (.int n) H
section
variable {X : Cx}
theorem x_len (K : PySem.W.Frag) (hK : X.K = K := by rfl) : CallR X (.builtin "len") (rLen K) := by subst hK; exact call_len_seq
theorem x_int1 : CallR X (.type "int") rInt1 := call_int1
theorem x_tupOf (K : PySem.W.Frag) (hK : X.K = K := by rfl) : CallR X (.type "tuple") (rTupOf K) := by subst hK; exact call_tuple_of
theorem x_lstOf (K : PySem.W.Frag) (hK : X.K = K := by rfl) : CallR X (.type "list") (rLstOf K) := by subst hK; exact call_list_of
theorem x_strI : CallR X (.type "str") rStrI := call_str_int
theorem x_abs : CallR X (.builtin "abs") rAbs := call_abs
theorem x_min2 (hc : X.calm = true) : CallR X (.builtin "min") rMin2 := call_min2 hc
theorem x_max2 (hc : X.calm = true) : CallR X (.builtin "max") rMax2 := call_max2 hc
theorem x_intS : CallR X (.type "int") rIntS := call_int_str
theorem x_sum (K : PySem.W.Frag) (hc : X.calm = true) (hK : X.K = K := by rfl) : CallR X (.builtin "sum") (rSum K) := by subst hK; exact cr_sum hc
theorem x_any (K : PySem.W.Frag) (hc : X.calm = true) (hK : X.K = K := by rfl) : CallR X (.builtin "any") (rAny K) := by subst hK; exact cr_any hc
theorem x_all (K : PySem.W.Frag) (hc : X.calm = true) (hK : X.K = K := by rfl) : CallR X (.builtin "all") (rAll K) := by subst hK; exact cr_all hc
theorem x_sortedI (K : PySem.W.Frag) (hK : X.K = K := by rfl) : CallR X (.builtin "sorted") (rSortedI K) := by subst hK; exact cr_sortedI
theorem x_addS : OpR X (binaryOp .Add) rAddS := op_add_str
theorem x_in (K : PySem.W.Frag) (hK : X.K = K := by rfl) : OpR X (compareOp .In) (rIn K false) := by subst hK; exact op_in_seq
theorem x_notIn (K : PySem.W.Frag) (hK : X.K = K := by rfl) : OpR X (compareOp .NotIn) (rIn K true) := by subst hK; exact op_notIn_seq
theorem x_eqD (K : PySem.W.Frag) (hu : X.A.units + 64 < cLine) (hK : X.K = K := by rfl) : OpR X (compareOp .Eq) (rEqD K) := by subst hK; exact op_eqD hu
theorem x_neD (K : PySem.W.Frag) (hu : X.A.units + 64 < cLine) (hK : X.K = K := by rfl) : OpR X (compareOp .NotEq) (rNeD K) := by subst hK; exact op_neD hu
theorem x_catA (K : PySem.W.Frag) (hK : X.K = K := by rfl) : OpR X (binaryOp .Add) (rCatA K) := by subst hK; exact op_catA
theorem x_ixL (K : PySem.W.Frag) (hK : X.K = K := by rfl) : IxR X (rIxL K) := by subst hK; exact ix_list
theorem x_ixT (K : PySem.W.Frag) (hK : X.K = K := by rfl) : IxR X (rIxT K) := by subst hK; exact ix_tup
theorem x_slL (K : PySem.W.Frag) (hK : X.K = K := by rfl) : SlR X (rSlL K) := by subst hK; exact sl_list
theorem x_slA (K : PySem.W.Frag) (hK : X.K = K := by rfl) : SlR X (rSlA K) := by subst hK; exact sl_tupA
theorem x_fld (K : PySem.W.Frag) {e : Expr} {ta : TE} {f : Str} {pos : Pos} (he : PE X e ta) (hb : attributeBase e f X.env (eval e X.env) = eval e X.env) (hK : X.K = K := by rfl) : PE X (.Attribute e f pos) (tFld K ta f) := by subst hK; exact pe_fld he hb
theorem x_gtup (K : PySem.W.Frag) {es : List Expr} {k : Nat} {t : TGs} {n : Nat} {pos : Pos} (hc : X.calm = true) (h : PGs X es t) (hn : (assignEach es X.env).length = n := by rfl) (hst : (assignEach es X.env).findIdx? (·.1) = none := by rfl) (hK : X.K = K := by rfl) : PG X (.Tuple es k pos) (gTup K n t) := by subst hK; exact pg_tup hc h hn hst
theorem x_list (K : PySem.W.Frag) {tg l : Expr} {tl : TE} (hl : PE X l tl) (hK : X.K = K := by rfl) : PI X tg l (iList K tl) := by subst hK; exact pi_list hl
theorem x_tup (K : PySem.W.Frag) {tg l : Expr} {tl : TE} (hl : PE X l tl) (hK : X.K = K := by rfl) : PI X tg l (iTup K tl) := by subst hK; exact pi_tup hl
end
section
variable {K : PySem.W.Frag} {c : Cfg} {ρ : List SV} {P : DV → Prop}
theorem shaped_of {n : Nat} {d : PyData} (h1 : d.canLay0 = true) (h2 : d.depth ≤ n) (hn : n ≤ 64) : SeqAt.shaped d = true := by
  show (d.canLay0 && decide (d.depth ≤ 64)) = true
  rw [h1, decide_eq_true (show d.depth ≤ 64 by omega)]
  rfl
theorem rv_eqD {d e : DV} (h1 : okD 20 d = true) (h2 : okD 20 e = true) (h : ∀ b : Bool, (b = true ↔ d = e) → P (.bl b)) : RV2 K c (rEqD K) d e P := fun F H v w r1 r2 ex m Q q => by
  obtain ⟨a1, a2, a3⟩ := rel_dp 20 d v h1 r1 ex
  obtain ⟨b1, b2, b3⟩ := rel_dp 20 e w h2 r2 ex
  exact ⟨pd d, pd e, a1, b1, shaped_of a2 a3 (by decide), shaped_of b2 b3 (by decide), q _ _ F H (Go.refl ex m) (.bl _) (h _ (eqv_iff 20 20 d e h1 h2))⟩
theorem rv_neD {d e : DV} (h1 : okD 20 d = true) (h2 : okD 20 e = true) (h : ∀ b : Bool, (b = true ↔ d ≠ e) → P (.bl b)) : RV2 K c (rNeD K) d e P := fun F H v w r1 r2 ex m Q q => by
  obtain ⟨a1, a2, a3⟩ := rel_dp 20 d v h1 r1 ex
  obtain ⟨b1, b2, b3⟩ := rel_dp 20 e w h2 r2 ex
  have k := eqv_iff 20 20 d e h1 h2
  refine ⟨pd d, pd e, a1, b1, shaped_of a2 a3 (by decide), shaped_of b2 b3 (by decide), q _ _ F H (Go.refl ex m) (.bl _) (h _ ?_)⟩
  cases z : PyData.eqv (pd d) (pd e) with
  | true => exact ⟨fun y => (by cases y), fun y => absurd (k.mp z) y⟩
  | false => exact ⟨fun _ y => (by rw [k.mpr y] at z; cases z), fun _ => rfl⟩
abbrev intsD (ns : List Int) : List DV := ns.map .int
theorem okD_ints (n : Nat) (ns : List Int) : (intsD ns).all (okD n) = true := by
  rw [List.all_eq_true]
  intro x hx
  obtain ⟨i, _, rfl⟩ := List.mem_map.mp hx
  cases n <;> rfl
theorem relA_ints {F : Hp} : ∀ {vs : List V} {ns : List Int}, RelA K F vs (intsD ns) → vs = ns.map V.int
  | _, [], .nil => rfl
  | _, n :: ns, .cons h r => by
    cases h
    rw [relA_ints r]
    rfl
theorem relA_of_ints {F : Hp} : ∀ {ns : List Int}, RelA K F (ns.map V.int) (intsD ns)
  | [] => .nil
  | n :: ns => .cons (.int n) relA_of_ints
theorem relA_bls {F : Hp} : ∀ {vs : List V} {bs : List Bool}, RelA K F vs (bs.map .bl) → vs = bs.map V.bl
  | _, [], .nil => rfl
  | _, b :: bs, .cons h r => by
    cases h
    rw [relA_bls r]
    rfl
theorem rva_len {x : DV} {ds : List DV} (hx : x = .lst ds ∨ x = .tup ds) (h : P (.int (ds.length : Int))) :
    RVA K c (rLen K) [x] P := fun F H vs r ex m Q q => by
  cases r with
  | cons r1 r2 =>
    cases r2
    rcases hx with rfl | rfl
    · cases r1 with
      | lst hs ra => exact ⟨_, _, rfl, .inl (Evl.sq_of (ex _ _ hs)), q _ _ F H (Go.refl ex m) (.int _) (by rw [ra.len]; exact h)⟩
    · cases r1 with
      | tup hs ra => exact ⟨_, _, rfl, .inr (Evl.ex_t ex hs), q _ _ F H (Go.refl ex m) (.int _) (by rw [ra.len]; exact h)⟩
theorem rva_sum {ns : List Int} (h : P (.int ns.sum)) : RVA K c (rSum K) [.lst (intsD ns)] P := fun F H vs r ex m Q q => by
  cases r with
  | cons r1 r2 =>
    cases r2
    cases r1 with
    | lst hs ra =>
      have e := relA_ints ra
      subst e
      exact ⟨_, ns, rfl, Evl.sq_of (ex _ _ hs), q _ _ F H (Go.refl ex m) (.int _) h⟩
theorem rva_any {bs : List Bool} (h : P (.bl (bs.any id))) : RVA K c (rAny K) [.lst (bs.map .bl)] P := fun F H vs r ex m Q q => by
  cases r with
  | cons r1 r2 =>
    cases r2
    cases r1 with
    | lst hs ra =>
      have e := relA_bls ra
      subst e
      exact ⟨_, bs, rfl, Evl.sq_of (ex _ _ hs), q _ _ F H (Go.refl ex m) (.bl _) h⟩
theorem rva_all {bs : List Bool} (h : P (.bl (bs.all id))) : RVA K c (rAll K) [.lst (bs.map .bl)] P := fun F H vs r ex m Q q => by
  cases r with
  | cons r1 r2 =>
    cases r2
    cases r1 with
    | lst hs ra =>
      have e := relA_bls ra
      subst e
      exact ⟨_, bs, rfl, Evl.sq_of (ex _ _ hs), q _ _ F H (Go.refl ex m) (.bl _) h⟩
theorem rva_int1 {i : Int} (h : P (.int i)) : RVA K c rInt1 [.int i] P := fun F H vs r ex m Q q => by
  cases r with
  | cons r1 r2 =>
    cases r2
    cases r1
    exact .inl ⟨i, rfl, q _ _ F H (Go.refl ex m) (.int _) h⟩
theorem rva_tuple {x : DV} {ds : List DV} (hx : x = .lst ds ∨ x = .tup ds) (h : P (.tup ds)) :
    RVA K c (rTupOf K) [x] P := fun F H vs r ex m Q q => by
  cases r with
  | cons r1 r2 =>
    cases r2
    rcases hx with rfl | rfl
    · cases r1 with
      | lst hs ra => exact ⟨_, _, rfl, .inl ⟨Evl.sq_of (ex _ _ hs), fun l hl => new_tup ra ex m hl q h⟩⟩
    · cases r1 with
      | tup hs ra => exact ⟨_, _, rfl, .inr ⟨Evl.ex_t ex hs, q _ _ F H (Go.refl ex m) (.tup hs ra) h⟩⟩
theorem rva_list {x : DV} {ds : List DV} (hx : x = .lst ds ∨ x = .tup ds) (h : P (.lst ds)) :
    RVA K c (rLstOf K) [x] P := fun F H vs r ex m Q q => by
  cases r with
  | cons r1 r2 =>
    cases r2
    rcases hx with rfl | rfl
    · cases r1 with
      | lst hs ra => exact ⟨_, _, rfl, .inl (Evl.sq_of (ex _ _ hs)), fun l hl => new_lst ra ex m hl q h⟩
    · cases r1 with
      | tup hs ra => exact ⟨_, _, rfl, .inr (Evl.ex_t ex hs), fun l hl => new_lst ra ex m hl q h⟩
theorem rva_strI {i : Int} (hz : i.natAbs.log2 < 1920) (h : P (.str (toString i))) : RVA K c rStrI [.int i] P := fun F H vs r ex m Q q => by
  cases r with
  | cons r1 r2 =>
    cases r2
    cases r1
    exact ⟨i, rfl, hz, q _ _ F H (Go.refl ex m) (.str _) h⟩
theorem rva_abs {i : Int} (h : P (.int (if i < 0 then -i else i))) : RVA K c rAbs [.int i] P := fun F H vs r ex m Q q => by
  cases r with
  | cons r1 r2 =>
    cases r2
    cases r1
    exact ⟨i, rfl, q _ _ F H (Go.refl ex m) (.int _) h⟩
theorem rva_min2 {i j : Int} (h : P (.int (if j < i then j else i))) : RVA K c rMin2 [.int i, .int j] P := fun F H vs r ex m Q q => by
  cases r with
  | cons r1 r2 =>
    cases r2 with
    | cons r2 r3 =>
      cases r1
      cases r2
      cases r3
      exact ⟨i, j, rfl, q _ _ F H (Go.refl ex m) (.int _) h⟩
theorem rva_max2 {i j : Int} (h : P (.int (if j > i then j else i))) : RVA K c rMax2 [.int i, .int j] P := fun F H vs r ex m Q q => by
  cases r with
  | cons r1 r2 =>
    cases r2 with
    | cons r2 r3 =>
      cases r1
      cases r2
      cases r3
      exact ⟨i, j, rfl, q _ _ F H (Go.refl ex m) (.int _) h⟩
/-- an int in a list or tuple of ints -/
theorem inV_ints (i : Int) : ∀ ns : List Int, inV (.int i) (ns.map V.int) = ns.contains i := by
  intro ns
  induction ns with
  | nil => rfl
  | cons n ns ih =>
    show ((n == i) || inV (.int i) (ns.map V.int)) = _
    rw [ih, List.contains_cons]
    congr 1
    exact Bool.eq_iff_iff.mpr ⟨fun h => (by rw [beq_iff_eq] at h ⊢; exact h.symm), fun h => (by rw [beq_iff_eq] at h ⊢; exact h.symm)⟩
theorem flat_ints (ns : List Int) : (ns.map V.int).all flatV = true := by
  rw [List.all_eq_true]
  intro x hx
  obtain ⟨i, _, rfl⟩ := List.mem_map.mp hx
  rfl
theorem rv_inI {neg : Bool} {i : Int} {x : DV} {ns : List Int} (hx : x = .lst (intsD ns) ∨ x = .tup (intsD ns)) (h : P (.bl (if neg then !ns.contains i else ns.contains i))) : RV2 K c (rIn K neg) (.int i) x P := fun F H v w r1 r2 ex m Q q => by
  cases r1
  rcases hx with rfl | rfl
  · cases r2 with
    | lst hs ra =>
      have e := relA_ints ra
      subst e
      refine ⟨_, _, rfl, .inl (Evl.sq_of (ex _ _ hs)), rfl, flat_ints ns, q _ _ F H (Go.refl ex m) (.bl _) ?_⟩
      rw [inV_ints]
      exact h
  · cases r2 with
    | tup hs ra =>
      have e := relA_ints ra
      subst e
      refine ⟨_, _, rfl, .inr (Evl.ex_t ex hs), rfl, flat_ints ns, q _ _ F H (Go.refl ex m) (.bl _) ?_⟩
      rw [inV_ints]
      exact h
/-- tuple + tuple -/
theorem rv_catA {xs ys : List DV} (hz : xs.length + ys.length ≤ 1000000) (h : P (.tup (xs ++ ys))) : RV2 K c (rCatA K) (.tup xs) (.tup ys) P := fun F H v w r1 r2 ex m Q q => by
  cases r1 with
  | tup ha ra =>
    cases r2 with
    | tup hb rb =>
      refine ⟨_, _, _, _, rfl, rfl, Evl.ex_t ex ha, Evl.ex_t ex hb, by rw [ra.len, rb.len]; exact Nat.le_trans hz (by decide), fun e => ?_, fun _ e => ?_, fun _ _ p hp => ?_⟩
      · subst e
        cases ra
        exact q _ _ F H (Go.refl ex m) (.tup hb rb) (by simpa using h)
      · subst e
        cases rb
        exact q _ _ F H (Go.refl ex m) (.tup ha ra) (by simpa using h)
      · exact new_tup (ra.app rb) ex m hp q h
theorem rv_addS {x y : Str} (hz : x.length + y.length ≤ 1000000) (h : P (.str (x ++ y))) : RV2 K c rAddS (.str x) (.str y) P := fun F H v w r1 r2 ex m Q q => by
  cases r1
  cases r2
  exact ⟨x, y, rfl, rfl, Nat.le_trans hz (by decide), q _ _ F H (Go.refl ex m) (.str _) h⟩
/-- items -/
theorem atI_nat' {α : Type} {xs : List α} {j : Nat} {x : α} (h : xs[j]? = some x) : atI xs (j : Int) = some x := atI_nat h
theorem rv_ixL {ds : List DV} {j : Nat} {d : DV} (hd : ds[j]? = some d) (h : P d) : RV2 K c (rIxL K) (.lst ds) (.int (j : Int)) P := fun F H v w r1 r2 ex m Q q => by
  cases r2
  cases r1 with
  | lst hs ra =>
    obtain ⟨v, e, rv⟩ := ra.get hd
    exact ⟨_, _, (j : Int), v, rfl, rfl, Evl.sq_of (ex _ _ hs), atI_nat e, q _ _ F H (Go.refl ex m) rv h⟩
theorem rv_ixT {ds : List DV} {j : Nat} {d : DV} (hd : ds[j]? = some d) (h : P d) : RV2 K c (rIxT K) (.tup ds) (.int (j : Int)) P := fun F H v w r1 r2 ex m Q q => by
  cases r2
  cases r1 with
  | tup hs ra =>
    obtain ⟨v, e, rv⟩ := ra.get hd
    exact ⟨_, _, (j : Int), v, rfl, rfl, Evl.ex_t ex hs, atI_nat e, q _ _ F H (Go.refl ex m) rv h⟩
theorem rv1_neg {i : Int} (h : P (.int (-i))) : RV1 K c (rU fun i => .int (-i)) (.int i) P := fun F H v r ex m Q q => by
  cases r
  exact ⟨i, rfl, q _ _ F H (Go.refl ex m) (.int _) h⟩
/-! ### math.comb, x.bit_length(), f"{n:b}", int(t, 2), join, zfill -/
theorem cr_comb {X : Cx} : CallR X (.builtin "math.comb") rComb := by
  intro pins s σ H vs us Q I r h
  obtain ⟨a, b, rfl, ⟨h1, h2, h3, h4⟩, q⟩ := h
  obtain ⟨t, u, rfl⟩ := Vals.int2 r
  exact PySem.W.mc_comb h1 h2 h3 h4 fun _ => ⟨.int _, H, I.tok _, ⟨_, rfl⟩, q⟩
theorem rva_comb {a b : Int} (hc : 0 ≤ a ∧ 0 ≤ b ∧ a < 2 ^ 64 ∧ (b ≤ 9000 ∨ a ≤ 18000)) (h : P (.int (PySem.W.mcComb a b))) :
    RVA K c rComb [.int a, .int b] P := fun F H vs r ex m Q q => by
  cases r with
  | cons r1 r2 =>
    cases r2 with
    | cons r2 r3 =>
      cases r1
      cases r2
      cases r3
      exact ⟨a, b, rfl, hc, q _ _ F H (Go.refl ex m) (.int _) h⟩
theorem ev_bits {ta : TE} (h : Ev K c ta ρ fun x => ∃ i, x = .int i ∧ P (.int (Builtin.Int.intBits i : Nat))) : Ev K c (tBits ta) ρ P := fun B σ F H S ex m Q q =>
  h B σ F H S ex m _ fun v x F1 H1 g1 r1 h1 => by
    obtain ⟨i, rfl, p⟩ := h1
    cases r1
    exact ⟨i, rfl, q _ _ F1 H1 g1 (.int _) p⟩
theorem ev_fmtB {ta : TE} (h : Ev K c ta ρ fun x => ∃ n : Nat, x = .int (n : Int) ∧ (XA.Bx.bCodes n).length ≤ 1000000 ∧ P (.str (SX.S (XA.Bx.bCodes n)))) : Ev K c (XA.tFmtB ta) ρ P := fun B σ F H S ex m Q q =>
  h B σ F H S ex m _ fun v x F1 H1 g1 r1 h1 => by
    obtain ⟨n, rfl, hz, p⟩ := h1
    cases r1
    exact ⟨n, rfl, Nat.le_trans hz (by decide), q _ _ F1 H1 g1 (.str _) p⟩
theorem cr_int2 {X : Cx} : CallR X (.type "int") rInt2 := by
  intro pins s σ H xs us Q I r h
  obtain ⟨l, rfl, hne, hl, hx, q⟩ := h
  obtain ⟨u, w', rfl, r1, r2⟩ := vals2 r
  obtain ⟨t1, rfl⟩ := r1
  obtain ⟨t2, rfl⟩ := r2
  exact XA.Bx.call_b (x := SX.S l) (by rw [SX.S_len]; exact hl) hx hne ⟨.int ((XA.Bx.bNum l : Nat) : Int), H, I.tok _, ⟨_, rfl⟩, q⟩
theorem rva_int2 {l : List Nat} (h1 : l ≠ []) (h2 : l.length ≤ 640) (h3 : ∀ k ∈ l, XA.Bx.IsB k) (h : P (.int ((XA.Bx.bNum l : Nat) : Int))) :
    RVA K c rInt2 [.str (SX.S l), .int 2] P := fun F H vs r ex m Q q => by
  cases r with
  | cons r1 r2 =>
    cases r2 with
    | cons r2 r3 =>
      cases r1
      cases r2
      cases r3
      exact ⟨l, rfl, h1, h2, h3, q _ _ F H (Go.refl ex m) (.int _) h⟩
theorem rva_intS {a : Str} {n : Int} (h1 : PySem.intText? a = some n) (h2 : a.length ≤ 640) (h : P (.int n)) : RVA K c rIntS [.str a] P := fun F H vs r ex m Q q => by
  cases r with
  | cons r1 r2 =>
    cases r2
    cases r1
    exact ⟨a, n, rfl, h1, h2, q _ _ F H (Go.refl ex m) (.int _) h⟩
end
end VL

set_option Elab.async false
set_option linter.all false
set_option maxRecDepth 100000
namespace VL
open PySem PySem.Spec L2
open Evl (Ex)
section
variable {K : PySem.W.Frag} {c : Cfg} {ρ : List SV} {P : DV → Prop}
theorem relA_strs {F : Hp} : ∀ {vs : List V} {ys : List Str}, RelA K F vs (ys.map .str) → vs = ys.map V.str
  | _, [], .nil => rfl
  | _, y :: ys, .cons h r => by
    cases h
    rw [relA_strs r]
    rfl
theorem ev_join {to te : TE} (h : Ev K c to ρ fun x => ∃ a, x = .str a ∧ Ev K c te ρ fun y => ∃ ys : List Str, y = .lst (ys.map .str) ∧ (ys.map (·.length)).sum + ys.length * a.length ≤ 1000000 ∧ P (.str (Txt.join a ys))) :
    Ev K c (tM1 (fun x xs H Q => ∃ a p, ∃ ys : List Str, x = .str a ∧ xs = [.ref p] ∧ (SqL K H p (ys.map V.str) ∨ SqT K H p (ys.map V.str)) ∧ (ys.map (·.length)).sum + ys.length * a.length ≤ 16777216 ∧ Q (.str (Txt.join a ys)) H) to te) ρ P := fun B σ F H S ex m Q q =>
  h B σ F H S ex m _ fun v x F1 H1 g1 r1 h1 => by
    obtain ⟨a, rfl, h2⟩ := h1
    cases r1
    refine ⟨⟨a, rfl⟩, h2 B σ F1 H1 (S.go g1) g1.fh g1.m _ fun w y F2 H2 g2 r2 h3 => ?_⟩
    obtain ⟨ys, rfl, hz, p⟩ := h3
    cases r2 with
    | lst hs ra =>
      have e := relA_strs ra
      subst e
      exact ⟨a, _, ys, rfl, rfl, .inl (Evl.sq_of (g2.fh _ _ hs)), by omega, q _ _ F2 H2 (g1.trans g2) (.str _) p⟩
theorem ev_bmS {r : V → List V → Hp → VK → Prop} {to : TE} {t : TA} (h : Ev K c to ρ fun x => ∃ a, x = .str a ∧ EvA K c t ρ fun xs => RVM K c r x xs P) : Ev K c (tBM K "str" r to t) ρ P := fun B σ F H S ex m Q q =>
  h B σ F H S ex m _ fun v x F1 H1 g1 r1 h1 => by
    obtain ⟨a, rfl, h2⟩ := h1
    cases r1
    exact ⟨rfl, h2 B σ F1 H1 (S.go g1) g1.fh g1.m _ fun vs xs F2 H2 g2 r2 h3 => h3 F2 H2 _ vs (.str a) r2 g2.fh g2.m Q fun z d F3 H3 g3 r3 p => q z d F3 H3 ((g1.trans g2).trans g3) r3 p⟩
theorem padOk {n : Nat} (h : n ≤ 1000000) : PadOk (n : Int) = true := by
  unfold PadOk fitsSsize
  have h1 : decide ((n : Int) < -(2 ^ 63 : Int)) = false := decide_eq_false (by omega)
  have h2 : decide ((n : Int) ≥ 2 ^ 63) = false := decide_eq_false (by omega)
  have h3 : Builtin.Str.tooLong (n : Int).toNat = false := by
    unfold Builtin.Str.tooLong
    rw [Int.toNat_natCast, sizeLine_eq]
    exact decide_eq_false (by omega)
  rw [h1, h2, h3]
  rfl
theorem rvm_zfill {a : Str} {n : Nat} (hz : n ≤ 1000000) (h : P (.str (Txt.zfill a (n : Int)))) :
    RVM K c (fun x xs H Q => ∃ (a : Str) (i : Int), x = .str a ∧ xs = [.int i] ∧ PadOk i = true ∧ Q (.str (Txt.zfill a i)) H) (.str a) [.int (n : Int)] P := fun F H v vs r1 r2 ex m Q q => by
  cases r1
  cases r2 with
  | cons r3 r4 =>
    cases r4
    cases r3
    exact ⟨a, _, rfl, rfl, padOk hz, q _ _ F H (Go.refl ex m) (.str _) h⟩
/-- zeros ahead of figures -/
theorem zfill_S {l : List Nat} {m : Nat} (hl : ∀ k ∈ l, k = 48 ∨ k = 49) (h : l.length ≤ m) : Txt.zfill (SX.S l) (m : Int) = SX.S (List.replicate (m - l.length) 48 ++ l) := by
  unfold Txt.zfill
  rw [SX.S_len]
  by_cases e : (m : Int) ≤ (l.length : Int)
  · rw [if_pos e]
    have : m - l.length = 0 := by omega
    rw [this]
    rfl
  · rw [if_neg e, Int.toNat_natCast]
    have key : zfilled (SX.S l) (m - l.length) = Builtin.Str.padded (SX.S l) (m - l.length) 0 48 := by
      unfold zfilled
      have h0 : (SX.S l).cps[0]? = l[0]? := by simp [SX.S]
      rw [h0]
      cases l with
      | nil => rfl
      | cons k r =>
        have := hl k List.mem_cons_self
        rcases this with z | z <;> subst z <;> rfl
    rw [key]
    unfold Builtin.Str.padded SX.S
    congr 1
    simp
theorem int_sign : ∀ b : Nat, b < 2 → PySem.intText? (⟨#[b + 48]⟩ : Str) = some (b : Int) := by decide +kernel
theorem str_bit : ∀ b : Nat, b < 2 → (Str.ofString (toString (b : Int))) = SX.S [b + 48] := by
  intro b h
  have : b = 0 ∨ b = 1 := by omega
  rcases this with e | e <;> subst e <;> decide +kernel
theorem joinL_one : ∀ l : List (List Nat), TL.joinL [] l = l.flatten
  | [] => rfl
  | [a] => by simp [TL.joinL]
  | a :: b :: l => by
    show a ++ ([] ++ TL.joinL [] (b :: l)) = _
    rw [joinL_one (b :: l)]
    simp
end
end VL

set_option Elab.async false
set_option linter.all false
set_option maxRecDepth 100000
/-! draws: a list [script, n] whose n counts on -/
namespace VL
open PySem PySem.Spec L2
open Evl (Ex)
/-- o[i] of a list, i not below 0, in an o[i] op= e -/
def rGetL (K : PySem.W.Frag) : R2 := fun x y H Q => ∃ p xs i v, x = .ref p ∧ y = .int i ∧ 0 ≤ i ∧ SqL K H p xs ∧ atI xs i = some v ∧ Q v H
theorem get_list {X : Cx} : PGet X (rGetL X.K) := by
  intro pins s σ H x y v u Q I rx ry h
  obtain ⟨p, xs, i, z, rfl, rfl, h0, hq, he, q⟩ := h
  cases rx
  obtain ⟨t, rfl⟩ := ry
  obtain ⟨its, r, pl, hz⟩ := I.list hq
  obtain ⟨j, h1, h2, h3, h4, h5⟩ := atI_get he
  obtain ⟨w, ew, rw'⟩ := r.get h2
  have hl := r.length
  have hn := line63
  have hj : i.toNat = j := by
    rw [seqIndex_of h0 h5] at h1
    exact Option.some.inj h1
  exact wpAny_getItem_list pl.isList h0 (by omega) (by rw [hj]; simpa using ew) ⟨z, H, I, rw', q⟩
def Wr (K : PySem.W.Frag) (s : Addr) (xs : List V) : Prop := ∃ (o : Obj) (its : Array Value) (n : Nat), K.lookup s = some o ∧ o.cls = .type "list" ∧ o.dict = none ∧ o.data = .seq its n ∧ its.size ≤ sizeLine ∧ Vals xs its.toList
def drawC (K : PySem.W.Frag) (d s : Addr) (ns : List Int) (tr : Bool) : Cfg where
  T := fun a => a = d ∨ (tr = true ∧ a = s)
  M := fun F H => F d = none ∧ (tr = true → d ≠ s) ∧ (∃ n : Int, H d = some (.lst [.ref s, .int n])) ∧ (if tr = true then Rd H s (.lst (ns.map V.int)) else Wr K s (ns.map V.int))
  st := fun F H F' H' h1 h2 ⟨m1, m2, ⟨n, m3⟩, m4⟩ => by
    refine ⟨h2 d (.inl rfl) m1, m2, ⟨n, h1 d _ (.inl rfl) m3⟩, ?_⟩
    cases tr with
    | true =>
      rw [if_pos rfl] at m4 ⊢
      rcases m4 with m4 | ⟨o, m4⟩
      · exact .inl (h1 s _ (.inr ⟨rfl, rfl⟩) m4)
      · exact .inr ⟨o, h1 s _ (.inr ⟨rfl, rfl⟩) m4⟩
    | false =>
      rw [if_neg Bool.false_ne_true] at m4 ⊢
      exact m4
  al := fun F H a ⟨m1, m2, ⟨n, m3⟩, m4⟩ t => by
    rcases t with rfl | ⟨rfl, rfl⟩
    · rw [m3]
      exact fun z => nomatch z
    · rw [if_pos rfl] at m4
      rcases m4 with m4 | ⟨o, m4⟩
      · rw [m4]; exact fun z => nomatch z
      · rw [m4]; exact fun z => nomatch z
section
variable {K : PySem.W.Frag} {ρ : List SV} {P : DV → Prop} {d s : Addr} {ns : List Int} {tr : Bool}
theorem draw_seq {F H : Hp} (m : (drawC K d s ns tr).M F H) : SqL K H s (ns.map V.int) := by
  obtain ⟨_, _, _, m4⟩ := m
  cases tr with
  | true =>
    rw [if_pos rfl] at m4
    exact .inl m4
  | false =>
    rw [if_neg Bool.false_ne_true] at m4
    exact .inr m4
theorem rv_draw0 (h : P (.adr s)) : RV2 K (drawC K d s ns tr) (rIxL K) (.adr d) (.int 0) P := fun F H v w r1 r2 ex m Q q => by
  cases r1
  cases r2
  obtain ⟨n, m3⟩ := m.2.2.1
  exact ⟨d, _, 0, .ref s, rfl, rfl, Evl.sq_of m3, rfl, q _ _ F H (Go.refl ex m) (.adr s) h⟩
theorem rv_draw1 (h : ∀ n : Int, P (.int n)) : RV2 K (drawC K d s ns tr) (rIxL K) (.adr d) (.int 1) P := fun F H v w r1 r2 ex m Q q => by
  cases r1
  cases r2
  obtain ⟨n, m3⟩ := m.2.2.1
  exact ⟨d, _, 1, .int n, rfl, rfl, Evl.sq_of m3, rfl, q _ _ F H (Go.refl ex m) (.int n) (h n)⟩
theorem rv_script {j : Int} (h0 : 0 ≤ j) (h1 : j < ns.length) (h : ∀ i : Int, P (.int i)) : RV2 K (drawC K d s ns tr) (rIxL K) (.adr s) (.int j) P := fun F H v w r1 r2 ex m Q q => by
  cases r1
  cases r2
  have hs := draw_seq m
  obtain ⟨k, rfl⟩ := Int.eq_ofNat_of_zero_le h0
  have hk : k < ns.length := by omega
  have e : (ns.map V.int)[k]? = some (.int ns[k]) := by
    rw [List.getElem?_map, List.getElem?_eq_getElem hk]
    rfl
  exact ⟨s, _, (k : Int), .int ns[k], rfl, rfl, hs, atI_nat e, q _ _ F H (Go.refl ex m) (.int _) (h _)⟩
theorem rva_lenS (h : P (.int (ns.length : Int))) : RVA K (drawC K d s ns tr) (fun xs H Q => ∃ p ys, xs = [.ref p] ∧ (SqL K H p ys ∨ SqT K H p ys) ∧ Q (.int ys.length) H) [.adr s] P := fun F H vs r ex m Q q => by
  cases r with
  | cons r1 r2 =>
    cases r2
    cases r1
    exact ⟨s, _, rfl, .inl (draw_seq m), q _ _ F H (Go.refl ex m) (.int _) (by rw [List.length_map]; exact h)⟩
theorem rv_eqS (h : P (.bl (decide (ns = [])))) : RV2 K (drawC K d s ns tr) (rEqD K) (.adr s) (.lst []) P := fun F H v w r1 r2 ex m Q q => by
  cases r1
  have r0 : Rel K (upd F s (.lst (ns.map V.int))) (.ref s) (.lst (intsD ns)) := .lst upd_same relA_of_ints
  have hs := draw_seq m
  have dp : Dp K H (.ref s) (pd (.lst (intsD ns))) ∧ (pd (.lst (intsD ns))).canLay0 = true ∧ (pd (.lst (intsD ns))).depth ≤ 20 := by
    have := rel_dp (K := K) 20 (.lst (intsD ns)) (.ref s) (by simp [okD, List.all_map, Function.comp_def]) r0 (Evl.Ex.refl _)
    refine ⟨?_, this.2⟩
    have h1 := this.1
    simp only [pd] at h1 ⊢
    cases h1 with
    | lst _ ha =>
      rename_i xs ha'
      refine .lst hs ?_
      have key : ∀ ns : List Int, DpAll K H (ns.map V.int) (pds (intsD ns)) := by
        intro ns
        induction ns with
        | nil => simp only [List.map_nil, pds]; exact .nil
        | cons n ns ih => simp only [List.map_cons, pds, pd]; exact .cons (.int n) ih
      exact key ns
  obtain ⟨b1, b2, b3⟩ := rel_dp 20 (.lst []) w rfl r2 ex
  refine ⟨_, _, dp.1, b1, shaped_of dp.2.1 dp.2.2 (by decide), shaped_of b2 b3 (by decide), q _ _ F H (Go.refl ex m) (.bl _) ?_⟩
  have e : PyData.eqv (pd (.lst (intsD ns))) (pd (.lst [])) = decide (ns = []) := by
    cases ns <;> simp [pd, pds, PyData.eqv, PyData.eqvAll]
  rw [e]
  exact h
/-- draw[1] += 1 -/
theorem sx_draw {S : Addr → Prop} {F0 H0 : Hp} {N : Fi} {i : Nat} (hd : ρ[i]? = some (.d (.adr d))) (h : N.nx ρ) :
    Sx K (drawC K d s ns tr) S F0 H0 (tAugS (tVar i) (tC (.int 1)) (tC (.int 1)) (rGetL K) (ipI fun i j => i + j) rSetL) ρ N := fun σ F H D a k1 _ _ _ => by
  obtain ⟨v, e1, r⟩ := a.s.dat hd
  cases r
  obtain ⟨m1, m2, ⟨n, m3⟩, m4⟩ := a.g.m
  refine ⟨_, e1, d, _, 1, .int n, rfl, rfl, by decide, Evl.sq_of m3, rfl, n, 1, rfl, rfl, d, _, 1, 1, rfl, rfl, m3, rfl, ?_⟩
  have hu : ∀ a o, H a = some o → a ≠ d → (upd H d (.lst [.ref s, .int (n + 1)])) a = some o := fun a o e z => by
    rw [upd_ne z]
    exact e
  have m' : (drawC K d s ns tr).M F (upd H d (.lst [.ref s, .int (n + 1)])) := by
    refine ⟨m1, m2, ⟨n + 1, upd_same⟩, ?_⟩
    cases tr with
    | true =>
      rw [if_pos rfl] at m4 ⊢
      rcases m4 with m4 | ⟨o, m4⟩
      · exact .inl (hu s _ m4 (m2 rfl).symm)
      · exact .inr ⟨o, hu s _ m4 (m2 rfl).symm⟩
    | false => exact m4
  refine k1 σ ρ F _ ⟨⟨a.g.ff, fun x o e => ?_, fun x o e t1 t2 => ?_, fun x o e => ?_, a.g.fr, m'⟩, ⟨a.s.len, fun j x e => ?_, a.s.dj⟩⟩ (Ex.rfl' F) h
  · exact hu x o (a.g.fh x o e) fun z => by rw [z, m1] at e; cases e
  · exact hu x o (a.g.hh x o e t1 t2) fun z => t1 (.inl z)
  · by_cases z : x = d
    · rw [z, upd_same]
      exact fun y => nomatch y
    · rw [upd_ne z]
      exact a.g.dom x o e
  · obtain ⟨w, e2, q⟩ := a.s.ok j x e
    refine ⟨w, e2, ?_⟩
    cases x with
    | non => exact q
    | any => trivial
    | d y => exact q
    | own y =>
      obtain ⟨l, o, f1, f2, f3, f4, f5, f6⟩ := q
      exact ⟨l, o, f1, hu l o f2 (fun z => f4 (.inl z)), f3, f4, f5, f6⟩
/-! ### a law's def: draw = [script, 0], then the rest -/
def spLaw (K : PySem.W.Frag) : Sp := fun vs H Q _ => ∃ (a : Addr) (ns : List Int), vs = [.ref a] ∧ SqL K H a (ns.map V.int) ∧ ns.length ≤ 63 ∧ ∀ H', Q (.bl true) H'
def tDraw : TS := tAsg (tLst (tCons (tVar 0) (tCons (tC (.int 0)) tNil))) (gName 1)
def slotsL (n : Nat) (d s : Addr) : List SV := .d (.adr s) :: .d (.adr d) :: List.replicate (n - 2) .non
theorem slots_law {K : PySem.W.Frag} {c : Cfg} {B : Addr → Prop} {F H : Hp} {n : Nat} {d s : Addr} : Slots K c B F H (some (.ref s) :: some (.ref d) :: List.replicate (n - 2) none) (slotsL n d s) := by
  have hno : ∀ (j : Nat) (x : OV), (slotsL n d s)[j]? ≠ some (.own x) := by
    intro j x e
    unfold slotsL at e
    match j with
    | 0 => cases e
    | 1 => cases e
    | j + 2 =>
      simp only [List.getElem?_cons_succ, List.getElem?_replicate] at e
      split at e <;> cases e
  refine ⟨by simp [slotsL], fun i x e => ?_, fun i j xs ys _ e1 => absurd e1 (hno i xs)⟩
  unfold slotsL at e
  match i with
  | 0 =>
    cases e
    exact ⟨_, rfl, _, rfl, .adr s⟩
  | 1 =>
    cases e
    exact ⟨_, rfl, _, rfl, .adr d⟩
  | i + 2 =>
    simp only [List.getElem?_cons_succ, List.getElem?_replicate] at e ⊢
    split at e
    · rename_i h
      cases e
      exact ⟨none, by rw [if_pos h], rfl⟩
    · cases e
theorem fn_law {Pg : Program} {w : World} {K : PySem.W.Frag} {mg : Str → Option Value} {base : Heap} {x qual : Str} {st : Stmt} {fa : Addr} {fd : FuncData} {Ns ps : List Str} {k : Nat} (F : Fun K x qual st fa fd) (S : FnScope Ns ps (defScope st)) (hps : ps.length = 1) (hN : 2 ≤ Ns.length)
    (hbody : ∀ (cdv : Value) (A : Around) (outer : List Env) (s : Shared) (H : Hp) (E : XK), Room k (A.deeper (PyProof.Rows.envOfC qual (defScope st) s.heap.objs.size fa cdv)) →
      ∃ t, PSs (cxOf CX0 Pg w K mg base Ns qual (defScope st) fa cdv A outer s H E).nox (defBody st) (tSeq tDraw t) ∧ ∀ (d sc : Addr) (ns : List Int) (tr : Bool) (F0 H0 : Hp), ns.length ≤ 63 → Sx K (drawC K d sc ns tr) (fun _ => False) F0 H0 t (slotsL Ns.length d sc) { nx := fun _ => False, rt := fun x => x = .bl true }) :
    FnOk Pg w K mg base CX0 (k + 1) fa fd ps (spLaw K) := by
  refine F.ok S (fun vs H Q E h => ?_) (fun cdv A outer s H vs Q E hr h => ?_)
  · obtain ⟨a, ns, rfl, _⟩ := h
    exact hps.symm
  · obtain ⟨a, ns, rfl, hS, hlen, q⟩ := h
    obtain ⟨t, ht, hs⟩ := hbody cdv A outer s H E hr
    refine ⟨_, ht, ?_⟩
    have e0 : (L2.start Ns [V.ref a]) = some (.ref a) :: none :: List.replicate (Ns.length - 2) none := by
      unfold L2.start
      obtain ⟨n, hn⟩ : ∃ n, Ns.length = n + 2 := ⟨Ns.length - 2, by omega⟩
      rw [hn]
      rfl
    rw [e0]
    refine ⟨.ref a, rfl, by show 2 ≤ sizeLine; decide, fun d hd => ?_⟩
    obtain ⟨tr, hw⟩ : ∃ tr : Bool, (if tr = true then Rd H a (.lst (ns.map V.int)) else Wr K a (ns.map V.int)) := by
      rcases hS with h | h
      · exact ⟨true, h⟩
      · exact ⟨false, h⟩
    have hne : tr = true → d ≠ a := by
      rintro rfl rfl
      rw [if_pos rfl] at hw
      rcases hw with h | ⟨o, h⟩ <;> (rw [hd] at h; cases h)
    have ex : Ex H (upd H d (.lst [.ref a, .int 0])) := Evl.Ex.new hd
    have m : (drawC K d a ns tr).M H (upd H d (.lst [.ref a, .int 0])) := by
      refine ⟨hd, hne, ⟨0, upd_same⟩, ?_⟩
      cases tr with
      | true =>
        rw [if_pos rfl] at hw ⊢
        rcases hw with h | ⟨o, h⟩
        · exact .inl (ex _ _ h)
        · exact .inr ⟨o, ex _ _ h⟩
      | false => exact hw
    exact hs d a ns tr H _ hlen _ H _ _ ⟨Gs.refl ex m, slots_law⟩ (fun _ _ _ _ _ _ p => p.elim) (fun v x F' H' g r p => by
      subst p
      cases r
      exact q H') (fun _ _ _ _ _ _ p => p.elim) (fun _ _ _ _ _ _ p => p.elim)
end
end VL

set_option Elab.async false
set_option linter.all false
set_option maxRecDepth 100000
/-! instances: made, read, their methods -/
namespace VL
open PySem PySem.Spec L2
open Evl (Ex)
def putD (f : Str) (d : DV) : List (Str × DV) → List (Str × DV)
  | [] => [(f, d)]
  | (g, x) :: r => if g = f then (g, d) :: r else (g, x) :: putD f d r
theorem RelF.put {K : PySem.W.Frag} {F : Hp} {f : Str} {v : V} {d : DV} (h : Rel K F v d) : ∀ {fs ds}, RelF K F fs ds → RelF K F (putF f v fs) (putD f d ds)
  | _, _, .nil => .cons h .nil
  | (g, x) :: fs, (_, y) :: ds, .cons h1 r => by
    unfold putF putD
    by_cases e : g = f
    · rw [if_pos e, if_pos e]
      exact .cons h r
    · rw [if_neg e, if_neg e]
      exact .cons h1 (r.put h)
theorem RelF.len {K : PySem.W.Frag} {F : Hp} : ∀ {fs ds}, RelF K F fs ds → fs.length = ds.length
  | _, _, .nil => rfl
  | _, _, .cons _ r => congrArg (· + 1) r.len
section
variable {K : PySem.W.Frag} {c : Cfg} {S : Addr → Prop} {F0 H0 : Hp} {ρ : List SV} {N : Fi} {t u : TS} {te ta tb : TE} {P : DV → Prop}
/-- an object of one's own changes -/
theorem At.change {F H : Hp} {σ : St} (a : At K c S F0 H0 F H σ ρ) {i : Nat} {x y : OV} {l : Addr} {o : HO} (e : ρ[i]? = some (.own x)) (el : σ[i]? = some (some (.ref l))) (h1 : F l = none) (h2 : ¬ c.T l) (h3 : Own S H0 l) (h4 : OvAt l y) (h5 : RelO K F o y) (h6 : ∃ o', H l = some o') :
    At K c S F0 H0 F (upd H l o) σ (ρ.set i (.own y)) := by
  obtain ⟨o', h6⟩ := h6
  refine ⟨⟨a.g.ff, fun b u q => ?_, fun b u q t1 t2 => ?_, fun b u q => ?_, a.g.fr, c.st _ _ _ _ (fun b u tb q => ?_) (fun _ _ q => q) a.g.m⟩, ⟨by rw [List.length_set]; exact a.s.len, fun j s q => ?_, fun j k xs ys hjk q1 q2 => ?_⟩⟩
  · rw [upd_ne (ne_of_none q h1)]
    exact a.g.fh b u q
  · have hb : b ≠ l := by
      rintro rfl
      rcases h3 with h3 | h3
      · rw [h3] at q; cases q
      · exact t2 h3
    rw [upd_ne hb]
    exact a.g.hh b u q t1 t2
  · by_cases z : b = l
    · rw [z, upd_same]
      exact fun y => nomatch y
    · rw [upd_ne z]
      exact a.g.dom b u q
  · rw [upd_ne (show b ≠ l from fun z => h2 (by rw [← z]; exact tb))]
    exact q
  · by_cases z : i = j
    · subst z
      have hlt : i < ρ.length := (List.getElem?_eq_some_iff.mp e).1
      rw [List.getElem?_set_self hlt] at q
      cases q
      exact ⟨_, el, l, o, rfl, upd_same, h1, h2, ⟨h3, h4⟩, h5⟩
    · rw [List.getElem?_set_ne z] at q
      obtain ⟨w, e2, q2⟩ := a.s.ok j s q
      refine ⟨w, e2, ?_⟩
      cases s with
      | non => exact q2
      | any => trivial
      | d x => exact q2
      | own x =>
        obtain ⟨l2, o2, f1, f2, f3⟩ := q2
        have hne : l2 ≠ l := by
          intro y
          have := a.s.dj i j _ _ z e q
          rw [el, e2, f1, y] at this
          exact this rfl
        exact ⟨l2, o2, f1, by rw [upd_ne hne]; exact f2, f3⟩
  · by_cases z1 : i = j
    · subst z1
      rw [List.getElem?_set_ne hjk] at q2
      exact a.s.dj i k x ys hjk e q2
    · rw [List.getElem?_set_ne z1] at q1
      by_cases z2 : i = k
      · subst z2
        exact a.s.dj j i xs x hjk q1 e
      · rw [List.getElem?_set_ne z2] at q2
        exact a.s.dj j k xs ys hjk q1 q2
theorem At.own {F H : Hp} {σ : St} (a : At K c S F0 H0 F H σ ρ) {i : Nat} {x : OV} (e : ρ[i]? = some (.own x)) :
    ∃ l o, σ[i]? = some (some (.ref l)) ∧ H l = some o ∧ F l = none ∧ ¬ c.T l ∧ Own S H0 l ∧ OvAt l x ∧ RelO K F o x := by
  obtain ⟨v, e1, l, o, rfl, f1, f2, f3, ⟨f4, f5⟩, f6⟩ := a.s.ok i _ e
  exact ⟨l, o, e1, f1, f2, f3, f4, f5, f6⟩
/-- self.f = e -/
theorem sx_fld {i : Nat} {f : Str} {tv : TE} {a C : Addr} {fs : List (Str × DV)} (e : ρ[i]? = some (.own (.obj a C fs))) (hc : Cls K C) (hn : NoAttr K C f) (hz : fs.length < 900) (h : Ev K c tv ρ fun d => N.nx (ρ.set i (.own (.obj a C (putD f d fs))))) :
    Sx K c S F0 H0 (sFld K (tVar i) tv f) ρ N := fun σ F H D at_ k1 _ _ _ =>
  h _ σ F H at_.s at_.g.fh at_.g.m _ fun v d F1 H1 g1 r1 p => by
    obtain ⟨l, o, e1, f1, f2, f3, f4, f5, f6⟩ := (at_.go g1).own e
    cases o with
    | ins C' dx ws =>
      obtain ⟨e2, rf⟩ := f6
      subst e2
      refine ⟨_, e1, l, C', dx, ws, rfl, f1, hc, hn, by rw [rf.len]; omega, k1 σ _ F1 _ ((at_.go g1).change e e1 f2 f3 f4 f5 (y := .obj a C' (putD f d fs)) ⟨rfl, rf.put r1⟩ ⟨_, f1⟩) g1.ff p⟩
    | _ => exact absurd f6 (fun z => z)
/-- an attribute of an object of one's own -/
theorem ev_fldOwn {i : Nat} {f : Str} {a C : Addr} {fs : List (Str × DV)} {d : DV} (e : ρ[i]? = some (.own (.obj a C fs))) (hc : Cls K C) (hn : NoAttr K C f) (hl : fs.lookup f = some d) (h : P d) : Ev K c (tFld K (tVar i) f) ρ P := fun B σ F H s ex m Q q => by
  obtain ⟨v, e1, l, o, rfl, f1, f2, f3, _, f6⟩ := s.ok i _ e
  cases o with
  | ins C' dx ws =>
    obtain ⟨e2, rf⟩ := f6
    subst e2
    obtain ⟨w, e3, r⟩ := rf.look hl
    exact ⟨_, e1, l, C', dx, ws, w, rfl, f1, hc, hn, e3, q w d F H (Go.refl ex m) r h⟩
  | _ => exact absurd f6 (fun z => z)
/-- an __init__: from the arguments behind self to the attributes -/
def SpI (K : PySem.W.Frag) (C : Addr) (g : Cfg → List DV → (List (Str × DV) → Prop) → Prop) : Sp := fun vs H Q _ => ∃ (c : Cfg) (F : Hp) (ds : List DV) (Pf : List (Str × DV) → Prop) (x dx : Addr) (us : List V),
  vs = .ref x :: us ∧ H x = some (.ins C dx []) ∧ F x = none ∧ ¬ c.T x ∧ Ex F H ∧ c.M F H ∧ RelA K F us ds ∧ g c ds Pf ∧
  ∀ fs dx' ws F' H', Gs c (fun a => a = x) F H F' H' → H' x = some (.ins C dx' ws) → F' x = none → RelF K F' ws fs → Pf fs → Q .non H'
theorem ev_make {C : Addr} {g : Cfg → List DV → (List (Str × DV) → Prop) → Prop} {E : XK} {tl : TA} (h : EvA K c tl ρ fun ds => g c ds fun fs => P (.ins C fs)) : Ev K c (tMake C (SpI K C g) [] E tl) ρ P := fun B σ F H s ex m Q q =>
  h B σ F H s ex m _ fun vs ds F1 H1 g1 r1 h1 => by
    intro x dx nx ndx hne
    have fx : F1 x = none := none_of_ex g1.fh nx
    have fdx : F1 dx = none := none_of_ex g1.fh ndx
    have tx : ¬ c.T x := fun t => c.al F1 H1 x g1.m t nx
    have tdx : ¬ c.T dx := fun t => c.al F1 H1 dx g1.m t ndx
    have keep : ∀ a u, H1 a = some u → (upd (upd H1 dx (.own x)) x (.ins C dx [])) a = some u := fun a u e => by
      rw [upd_ne (ne_of_none e nx), upd_ne (ne_of_none e ndx)]
      exact e
    refine ⟨c, F1, ds, _, x, dx, vs, by rw [List.append_nil], upd_same, fx, tx, fun a u e => keep a u (g1.fh a u e), c.st _ _ _ _ (fun a u _ e => keep a u e) (fun _ _ e => e) g1.m, r1, h1, fun fs dx' ws F2 H2 g2 hx f2 rf p => ⟨rfl, ?_⟩⟩
    have e2 : Ex F2 (upd F2 x (.ins C dx' ws)) := Evl.Ex.new f2
    have gg : Go c F1 H1 (upd F2 x (.ins C dx' ws)) H2 := by
      refine ⟨g2.ff.trans e2, fun a u e => ?_, fun a u e t => g2.hh a u (keep a u e) t (fun z => absurd e (by rw [z, nx]; exact fun y => nomatch y)), fun a u e => g2.dom a u (keep a u e), fun a u e z => ?_, c.st _ _ _ _ (fun _ _ _ e => e) (fun a ta e => ?_) g2.m⟩
      · unfold upd at e
        split at e
        · rename_i z
          subst z
          cases e
          exact hx
        · exact g2.fh a u e
      · rw [upd_ne (ne_of_none e nx)]
        exact g2.fr a u (keep a u e) z
      · rw [upd_ne (show a ≠ x from fun z => tx (by rw [← z]; exact ta))]
        exact e
    exact q _ _ _ _ (g1.trans gg) (.ins upd_same (rf.mono e2)) p
theorem slots_init {B : Addr → Prop} {F H : Hp} {Ns : List Str} {x C dx : Addr} {vs : List V} {ds : List DV} (r : RelA K F vs ds) (hx : H x = some (.ins C dx [])) (fx : F x = none) (tx : ¬ c.T x) (bx : B x) :
    Slots K c B F H (L2.start Ns (.ref x :: vs)) (.own (.obj x C []) :: ds.map .d ++ List.replicate (Ns.length - (ds.length + 1)) .non) := by
  have h0 := slots_start (K := K) (c := c) (B := B) (F := F) (H := H) (N := Ns) (vs := .ref x :: vs) (ds := .adr x :: ds) (.cons (.adr x) r)
  have e : slots0 Ns.length (.adr x :: ds) = .d (.adr x) :: (ds.map .d ++ List.replicate (Ns.length - (ds.length + 1)) .non) := rfl
  rw [e] at h0
  refine ⟨h0.len, fun i s q => ?_, fun i j xs ys hij q1 q2 => ?_⟩
  · cases i with
    | zero =>
      cases q
      exact ⟨_, rfl, x, _, rfl, hx, fx, tx, ⟨bx, rfl⟩, rfl, .nil⟩
    | succ i => exact h0.ok (i + 1) s q
  · have nope : ∀ (k : Nat) (z : OV), (ds.map SV.d ++ List.replicate (Ns.length - (ds.length + 1)) SV.non)[k]? ≠ some (.own z) := by
      intro k z q
      rw [List.getElem?_append] at q
      split at q
      · rw [List.getElem?_map] at q
        cases y : ds[k]? with
        | none => rw [y] at q; cases q
        | some y2 => rw [y] at q; cases q
      · rw [List.getElem?_replicate] at q
        split at q <;> cases q
    cases i with
    | zero =>
      cases j with
      | zero => exact absurd rfl hij
      | succ j => exact absurd q2 (nope j ys)
    | succ i => exact absurd q1 (nope i xs)
theorem fn_init {Pg : Program} {w : World} {mg : Str → Option Value} {base : Heap} {x qual : Str} {st : Stmt} {fa C : Addr} {fd : FuncData} {Ns ps : List Str} {k : Nat} {g : Cfg → List DV → (List (Str × DV) → Prop) → Prop} (F : Fun K x qual st fa fd) (S : FnScope Ns ps (defScope st)) (len : ∀ c ds P, g c ds P → ds.length + 1 = ps.length)
    (hbody : ∀ (cdv : Value) (A : Around) (outer : List Env) (s : Shared) (H : Hp) (E : XK), Room k (A.deeper (PyProof.Rows.envOfC qual (defScope st) s.heap.objs.size fa cdv)) →
      ∃ t, PSs (cxOf CX0 Pg w K mg base Ns qual (defScope st) fa cdv A outer s H E).nox (defBody st) t ∧ ∀ (c : Cfg) (F : Hp) (a : Addr) (ds : List DV) (P : List (Str × DV) → Prop), g c ds P →
        Sx K c (fun b => b = a) F H t (.own (.obj a C []) :: ds.map .d ++ List.replicate (Ns.length - (ds.length + 1)) .non) { nx := fun ρ' => ∃ fs, P fs ∧ ρ'[0]? = some (.own (.obj a C fs)) }) :
    FnOk Pg w K mg base CX0 (k + 1) fa fd ps (SpI K C g) := by
  refine F.ok S (fun vs H Q E h => ?_) (fun cdv A outer s H vs Q E hr h => ?_)
  · obtain ⟨c, Fr, ds, P, x, dx, us, rfl, _, _, _, _, _, r, h, _⟩ := h
    rw [List.length_cons, r.len]
    exact len c ds P h
  · obtain ⟨c, Fr, ds, P, x, dx, us, rfl, hx, fx, tx, ex, m, r, h, q⟩ := h
    obtain ⟨t, ht, hs⟩ := hbody cdv A outer s H E hr
    refine ⟨t, ht, ?_⟩
    refine hs c Fr x ds P h (L2.start Ns (.ref x :: us)) Fr H _ ⟨Gs.refl ex m, slots_init r hx fx tx (.inr rfl)⟩ (fun σ' ρ' F' H' a _ p => ?_) (fun _ _ _ _ _ _ p => p.elim) (fun _ _ _ _ _ _ p => p.elim) (fun _ _ _ _ _ _ p => p.elim)
    obtain ⟨fs, pf, e⟩ := p
    obtain ⟨l, o, e1, f1, f2, f3, f4, f5, f6⟩ := a.own e
    have hl : l = x := f5
    subst hl
    cases o with
    | ins C' dx' ws =>
      obtain ⟨e2, rf⟩ := f6
      subst e2
      exact q fs dx' ws F' H' a.g f1 f2 rf pf
    | _ => exact absurd f6 (fun z => z)
end
/-- a class that may be made by its name -/
structure Mak (Pg : Program) (w : World) (K : PySem.W.Frag) (mg : Str → Option Value) (base : Heap) (k : Nat) (x : Str) (C : Addr) (sp : Sp) : Prop where
  ex : ∃ (f : Addr) (fd : FuncData) (ps : List Str), Mk K C f ∧ FnOk Pg w K mg base CX0 k f fd ps sp ∧ mg x = some (.ref C) ∧ Binds K fd ps []
section
variable {X : Cx} {k j : Nat} {C : Addr} {x m : Str} {sp : Sp} {p pos apos : Pos} {e o : Expr} {es : List Expr} {ta : TE} {t : TA}
theorem pe_mak (c : Mak X.prog X.w X.K X.mg X.base k x C sp) (hr : Room j X.A) (hk : k + 1 ≤ j) (hg : Gl X x) (ha : PA X (e :: es) t) (hdb : (x == ("__debug__" : Str)) = false := by decide)
    (h1 : starEach (e :: es) X.env = (false, eval e X.env) :: starEach es X.env := by rfl) (h2 : (backTo pos (starEach es X.env)).any (·.1) = false := by rfl) : PE X (.Call (.Name x p) (e :: es) [] pos) (tMake C sp [] E0 t) := by
  obtain ⟨f, fd, ps, M, F, hm, b⟩ := c.ex
  exact pe_make M F (hr.mono hk) hg hm b .nil pass0 ha hdb h1 h2
theorem pe_met {pl : Sem Bool} (c : Met X.prog X.w X.K X.mg X.base k C m sp) (hr : Room j X.A) (hk : k ≤ j) (he : PE X o ta) (ha : PA X (e :: es) t)
    (h1 : starEach (e :: es) X.env = (false, eval e X.env) :: starEach es X.env := by rfl) (h2 : (backTo pos (starEach es X.env)).any (·.1) = false := by rfl)
    (h3 : eval (.Call (.Attribute o m apos) (e :: es) [] pos) X.env = (do
      let ov ← eval o X.env
      standAt apos.atName
      let (f, first) ← holding [ov] (getMethod ov m pl)
      callWith pos f first (backTo pos (starEach (e :: es) X.env)) (backToKw pos (keywordEach [] X.env))) := by rfl) :
    PE X (.Call (.Attribute o m apos) (e :: es) [] pos) (tMeth C m sp [] E0 ta t) := by
  obtain ⟨f, fd, ps, cl, me, F, b⟩ := c.ex
  exact pe_meth he cl me F (hr.mono hk) b .nil pass0 ha h1 h2 h3
theorem pe_met0 {pl : Sem Bool} (c : Met X.prog X.w X.K X.mg X.base k C m sp) (hr : Room j X.A) (hk : k ≤ j) (he : PE X o ta)
    (h3 : eval (.Call (.Attribute o m apos) [] [] pos) X.env = (do
      let ov ← eval o X.env
      standAt apos.atName
      let (f, first) ← holding [ov] (getMethod ov m pl)
      callWith pos f first (backTo pos (starEach [] X.env)) (backToKw pos (keywordEach [] X.env))) := by rfl) :
    PE X (.Call (.Attribute o m apos) [] [] pos) (tMeth C m sp [] E0 ta tNil) := by
  obtain ⟨f, fd, ps, cl, me, F, b⟩ := c.ex
  exact pe_meth0 (pl := pl) he cl me F (hr.mono hk) b .nil pass0 h3
end
end VL

set_option Elab.async false
set_option linter.all false
set_option maxRecDepth 10000
/-! the mathematics of woven numbers, cells and boxes -/
namespace GM
open NM
/-! ### sums over the numbers of a prefix: k 2^m, .. below (k + 1) 2^m -/
def tot (w : Nat → Nat) : Nat → Nat → Nat
  | 0, k => w k
  | m + 1, k => tot w m (2 * k) + tot w m (2 * k + 1)
theorem tot_congr {w v : Nat → Nat} : ∀ (m k : Nat), (∀ n, n / 2 ^ m = k → w n = v n) → tot w m k = tot v m k
  | 0, k, h => h k (by simp)
  | m + 1, k, h => by
    have hp := Nat.two_pow_pos m
    show tot w m (2 * k) + tot w m (2 * k + 1) = tot v m (2 * k) + tot v m (2 * k + 1)
    rw [tot_congr m (2 * k) fun n hn => h n ?_, tot_congr m (2 * k + 1) fun n hn => h n ?_]
    · rw [Nat.pow_succ, ← Nat.div_div_eq_div_mul, hn]; omega
    · rw [Nat.pow_succ, ← Nat.div_div_eq_div_mul, hn]; omega
theorem tot_zero (m k : Nat) : tot (fun _ => 0) m k = 0 := by
  induction m generalizing k with
  | zero => rfl
  | succ m ih => show tot _ m _ + tot _ m _ = 0; rw [ih, ih]
theorem tot_add (w v : Nat → Nat) (m k : Nat) : tot (fun n => w n + v n) m k = tot w m k + tot v m k := by
  induction m generalizing k with
  | zero => rfl
  | succ m ih =>
    show tot _ m _ + tot _ m _ = (tot w m _ + tot w m _) + (tot v m _ + tot v m _)
    rw [ih, ih]
    omega
theorem tot_one (m k : Nat) : tot (fun _ => 1) m k = 2 ^ m := by
  induction m generalizing k with
  | zero => rfl
  | succ m ih =>
    show tot _ m _ + tot _ m _ = 2 ^ (m + 1)
    rw [ih, ih, Nat.pow_succ]
    omega
theorem tot_sum {α : Type} (f : α → Nat → Nat) (m k : Nat) : ∀ l : List α, tot (fun n => (l.map fun a => f a n).sum) m k = (l.map fun a => tot (f a) m k).sum
  | [] => tot_zero m k
  | a :: l => by
    have e := tot_add (f a) (fun n => (l.map fun a => f a n).sum) m k
    rw [List.map_cons, List.sum_cons, ← tot_sum f m k l, ← e]
    exact tot_congr m k fun n _ => by rw [List.map_cons, List.sum_cons]
/-- the numbers of a prefix (j further bits left), among those of a shorter one -/
def isOf (j k : Nat) : Nat → Nat := fun n => if n / 2 ^ j = k then 1 else 0
theorem tot_in (j m k a : Nat) (w : Nat → Nat) : tot (fun n => isOf j a n * w n) (m + j) k = if a / 2 ^ m = k then tot w j a else 0 := by
  induction m generalizing k with
  | zero =>
    rw [Nat.zero_add]
    by_cases h : a / 2 ^ 0 = k
    · rw [if_pos h]
      have e : a = k := by simpa using h
      subst e
      refine tot_congr j a fun n hn => ?_
      unfold isOf
      rw [if_pos hn, Nat.one_mul]
    · rw [if_neg h, ← tot_zero j k]
      refine tot_congr j k fun n hn => ?_
      unfold isOf
      have : a ≠ k := by simpa using h
      rw [if_neg (by rw [hn]; exact fun z => this z.symm), Nat.zero_mul]
  | succ m ih =>
    rw [show m + 1 + j = (m + j) + 1 by omega]
    show tot _ (m + j) (2 * k) + tot _ (m + j) (2 * k + 1) = _
    rw [ih, ih, Nat.pow_succ, ← Nat.div_div_eq_div_mul]
    generalize a / 2 ^ m = b
    by_cases h : b / 2 = k
    · rw [if_pos h]
      by_cases h0 : b = 2 * k
      · rw [if_pos h0, if_neg (by omega), Nat.add_zero]
      · rw [if_neg h0, if_pos (by omega), Nat.zero_add]
    · rw [if_neg h, if_neg (by omega), if_neg (by omega)]
theorem tot_isOf (D l k : Nat) (hl : l ≤ D) (hk : k < 2 ^ l) (w : Nat → Nat) : tot (fun n => isOf (D - l) k n * w n) D 0 = tot w (D - l) k := by
  have h := tot_in (D - l) l 0 k w
  rw [show l + (D - l) = D by omega, if_pos (Nat.div_eq_of_lt hk)] at h
  exact h
/-! ### bits by place -/
/-- the i-th bit, from the greatest, of a number of m bits -/
def nb (m n i : Nat) : Nat := n / 2 ^ (m - 1 - i) % 2
theorem nb_lt (m n i : Nat) : nb m n i < 2 := by unfold nb; omega
theorem bitsN_eq : ∀ m n : Nat, bitsN m n = (List.range m).map (nb m n)
  | 0, _ => rfl
  | m + 1, n => by
    show bitsN m (n / 2) ++ [n % 2] = _
    rw [List.range_succ, List.map_append, bitsN_eq m (n / 2)]
    congr 1
    · refine List.map_congr_left fun i hi => ?_
      have hi := List.mem_range.mp hi
      unfold nb
      rw [show m + 1 - 1 - i = (m - 1 - i) + 1 by omega, Nat.pow_succ, Nat.mul_comm (2 ^ (m - 1 - i)) 2, ← Nat.div_div_eq_div_mul]
    · unfold nb
      simp
theorem bv_nb (m n : Nat) : bv ((List.range m).map (nb m n)) = n % 2 ^ m := by rw [← bitsN_eq, bv_bitsN]
theorem bitsN_get {m n i : Nat} (h : i < m) : (bitsN m n)[i]? = some (nb m n i) := by
  rw [bitsN_eq, List.getElem?_map, List.getElem?_range h]
  rfl
/-- the bits of a number that bits write -/
theorem nb_bv {m : Nat} {f : Nat → Nat} (hf : ∀ i, i < m → f i < 2) {i : Nat} (h : i < m) : nb m (bv ((List.range m).map f)) i = f i := by
  have hl : ((List.range m).map f).length = m := by simp
  have hb : ∀ b ∈ (List.range m).map f, b < 2 := fun b hb => by
    obtain ⟨j, hj, rfl⟩ := List.mem_map.mp hb
    exact hf j (List.mem_range.mp hj)
  have e := bitsN_bv _ hb
  rw [hl] at e
  have g := bitsN_get (n := bv ((List.range m).map f)) h
  rw [e, List.getElem?_map, List.getElem?_range h] at g
  exact (Option.some.inj g).symm
theorem bv_range_lt {m : Nat} {f : Nat → Nat} (hf : ∀ i, i < m → f i < 2) : bv ((List.range m).map f) < 2 ^ m := by
  have h := bv_lt ((List.range m).map f) fun b hb => by
    obtain ⟨j, hj, rfl⟩ := List.mem_map.mp hb
    exact hf j (List.mem_range.mp hj)
  rwa [List.length_map, List.length_range] at h
/-- of a longer number: first the prefix's bits, then the rest's -/
theorem nb_split {D l k r i : Nat} (hl : l ≤ D) (hr : r < 2 ^ (D - l)) (hi : i < D) : nb D (k * 2 ^ (D - l) + r) i = if i < l then nb l k i else nb (D - l) r (i - l) := by
  unfold nb
  by_cases h : i < l
  · rw [if_pos h]
    have e : D - 1 - i = (D - l) + (l - 1 - i) := by omega
    have hp := Nat.two_pow_pos (D - l)
    rw [e, Nat.pow_add, ← Nat.div_div_eq_div_mul, Nat.mul_comm k, Nat.mul_add_div hp, Nat.div_eq_of_lt hr, Nat.add_zero]
  · rw [if_neg h]
    have e : D - l - 1 - (i - l) = D - 1 - i := by omega
    rw [e]
    have e2 : D - l = (D - 1 - i) + (i - l + 1) := by omega
    have hp := Nat.two_pow_pos (D - 1 - i)
    rw [e2, Nat.pow_add, Nat.mul_comm (2 ^ (D - 1 - i)), ← Nat.mul_assoc, Nat.mul_comm _ (2 ^ (D - 1 - i)), Nat.mul_add_div hp, Nat.pow_succ]
    rw [show k * (2 ^ (i - l) * 2) = (k * 2 ^ (i - l)) * 2 by rw [Nat.mul_assoc]]
    omega
/-! ### points -/
/-- a coordinate of the woven number with these bits -/
def cw (d B : Nat) (f : Nat → Nat) (a : Nat) : Nat := bv ((List.range B).map fun j => f (j * d + a))
def coord (d B n a : Nat) : Nat := cw d B (nb (d * B) n) a
def pointOf (d B n : Nat) : List Nat := (List.range d).map (coord d B n)
def weave (d B : Nat) (p : List Nat) : Nat := bv ((List.range (d * B)).map fun i => nb B (p.getD (i % d) 0) (i / d))
theorem cw_lt {d B a : Nat} {f : Nat → Nat} (hf : ∀ i, f i < 2) : cw d B f a < 2 ^ B := bv_range_lt fun _ _ => hf _
theorem coord_lt (d B n a : Nat) : coord d B n a < 2 ^ B := cw_lt fun i => nb_lt _ _ i
theorem pointOf_len (d B n : Nat) : (pointOf d B n).length = d := by simp [pointOf]
theorem weave_lt (d B : Nat) (p : List Nat) : weave d B p < 2 ^ (d * B) := bv_range_lt fun i _ => nb_lt _ _ _
theorem ix_lt {d B j a : Nat} (hj : j < B) (ha : a < d) : j * d + a < d * B := by
  have : (j + 1) * d ≤ B * d := Nat.mul_le_mul_right d hj
  rw [Nat.add_mul, Nat.one_mul, Nat.mul_comm B d] at this
  omega
theorem ix_mod {d j a : Nat} (ha : a < d) : (j * d + a) % d = a := by
  rw [Nat.mul_comm, Nat.mul_add_mod, Nat.mod_eq_of_lt ha]
theorem ix_div {d j a : Nat} (ha : a < d) : (j * d + a) / d = j := by
  rw [Nat.mul_comm, Nat.mul_add_div (by omega), Nat.div_eq_of_lt ha, Nat.add_zero]
theorem ix_of {d i : Nat} : i / d * d + i % d = i := by
  rw [Nat.mul_comm]
  exact Nat.div_add_mod i d
theorem point_weave {d B : Nat} {p : List Nat} (hl : p.length = d) (hp : ∀ x ∈ p, x < 2 ^ B) : pointOf d B (weave d B p) = p := by
  have key : ∀ a, a < d → coord d B (weave d B p) a = p.getD a 0 := by
    intro a ha
    unfold coord cw
    have e : (List.range B).map (fun j => nb (d * B) (weave d B p) (j * d + a)) = (List.range B).map (nb B (p.getD a 0)) := by
      refine List.map_congr_left fun j hj => ?_
      have hj := List.mem_range.mp hj
      unfold weave
      rw [nb_bv (fun i _ => nb_lt _ _ _) (ix_lt hj ha), ix_mod ha, ix_div ha]
    rw [e, bv_nb, Nat.mod_eq_of_lt]
    have : a < p.length := by omega
    rw [List.getD_eq_getElem?_getD, List.getElem?_eq_getElem this]
    exact hp _ (List.getElem_mem this)
  refine List.ext_getElem? fun i => ?_
  unfold pointOf
  by_cases h : i < d
  · rw [List.getElem?_map, List.getElem?_range h]
    show some (coord d B (weave d B p) i) = _
    rw [key i h, List.getD_eq_getElem?_getD, List.getElem?_eq_getElem (show i < p.length by omega)]
    rfl
  · rw [List.getElem?_eq_none (by simp; omega), List.getElem?_eq_none (by omega)]
theorem weave_point {d B n : Nat} (hd : 0 < d) (hn : n < 2 ^ (d * B)) : weave d B (pointOf d B n) = n := by
  unfold weave
  have e : (List.range (d * B)).map (fun i => nb B ((pointOf d B n).getD (i % d) 0) (i / d)) = (List.range (d * B)).map (nb (d * B) n) := by
    refine List.map_congr_left fun i hi => ?_
    have hi := List.mem_range.mp hi
    have hm := Nat.mod_lt i hd
    have hj : i / d < B := Nat.div_lt_of_lt_mul hi
    have g : (pointOf d B n).getD (i % d) 0 = coord d B n (i % d) := by
      unfold pointOf
      rw [List.getD_eq_getElem?_getD, List.getElem?_map, List.getElem?_range hm]
      rfl
    rw [g]
    unfold coord cw
    rw [nb_bv (fun j _ => nb_lt _ _ _) hj, ix_of]
  rw [e, bv_nb, Nat.mod_eq_of_lt hn]
end GM
namespace GM
open NM
/-! ### cells -/
/-- the bits of the least and of the greatest number of a prefix -/
def lowB (l k i : Nat) : Nat := if i < l then nb l k i else 0
def highB (l k i : Nat) : Nat := if i < l then nb l k i else 1
def lowC (d B l k a : Nat) : Nat := cw d B (lowB l k) a
def highC (d B l k a : Nat) : Nat := cw d B (highB l k) a
theorem lowB_lt (l k i : Nat) : lowB l k i < 2 := by
  unfold lowB
  split
  · exact nb_lt _ _ _
  · decide
theorem highB_lt (l k i : Nat) : highB l k i < 2 := by
  unfold highB
  split
  · exact nb_lt _ _ _
  · decide
theorem nb_zero (m i : Nat) : nb m 0 i = 0 := by
  unfold nb
  rw [Nat.zero_div]
theorem nb_ones {m i : Nat} (h : i < m) : nb m (2 ^ m - 1) i = 1 := by
  unfold nb
  have e : m = (m - 1 - i) + (i + 1) := by omega
  have hp := Nat.two_pow_pos (m - 1 - i)
  have hq := Nat.two_pow_pos i
  have e2 : 2 ^ m - 1 = 2 ^ (m - 1 - i) * (2 ^ (i + 1) - 1) + (2 ^ (m - 1 - i) - 1) := by
    conv => lhs; rw [e, Nat.pow_add]
    rw [Nat.mul_sub, Nat.mul_one]
    have : 2 ^ (m - 1 - i) ≤ 2 ^ (m - 1 - i) * 2 ^ (i + 1) := Nat.le_mul_of_pos_right _ (Nat.two_pow_pos _)
    omega
  rw [e2, Nat.mul_add_div hp, Nat.div_eq_of_lt (show 2 ^ (m - 1 - i) - 1 < 2 ^ (m - 1 - i) by omega), Nat.add_zero, Nat.pow_succ]
  omega
theorem cw_congr {d B a : Nat} {f g : Nat → Nat} (h : ∀ j, j < B → f (j * d + a) = g (j * d + a)) : cw d B f a = cw d B g a := by
  unfold cw
  congr 1
  exact List.map_congr_left fun j hj => h j (List.mem_range.mp hj)
theorem coord_low {d B l k a : Nat} (hl : l ≤ d * B) (ha : a < d) : coord d B (k * 2 ^ (d * B - l)) a = lowC d B l k a := by
  refine cw_congr fun j hj => ?_
  have h := nb_split (k := k) (r := 0) hl (Nat.two_pow_pos _) (ix_lt hj ha)
  rw [Nat.add_zero] at h
  rw [h, nb_zero]
  rfl
theorem coord_high {d B l k a : Nat} (hl : l ≤ d * B) (ha : a < d) : coord d B (k * 2 ^ (d * B - l) + 2 ^ (d * B - l) - 1) a = highC d B l k a := by
  have hp := Nat.two_pow_pos (d * B - l)
  rw [show k * 2 ^ (d * B - l) + 2 ^ (d * B - l) - 1 = k * 2 ^ (d * B - l) + (2 ^ (d * B - l) - 1) by omega]
  refine cw_congr fun j hj => ?_
  have hi := ix_lt hj ha
  have h := nb_split (k := k) (r := 2 ^ (d * B - l) - 1) hl (by omega) hi
  rw [h]
  unfold highB
  split
  · rfl
  · exact nb_ones (by omega)
/-- order of numbers by their bits -/
theorem bv_le : ∀ (l r : List Nat), l.length = r.length → (∀ i x y : Nat, l[i]? = some x → r[i]? = some y → x ≤ y) → bv l ≤ bv r := by
  refine snoc_ind ?_ ?_
  · intro r h _
    have : r = [] := List.eq_nil_of_length_eq_zero h.symm
    subst this
    exact Nat.le_refl _
  · intro l a ih r h hle
    obtain ⟨r', b, rfl⟩ : ∃ r' b, r = r' ++ [b] := by
      rcases List.eq_nil_or_concat r with e | ⟨r', b, e⟩
      · subst e; simp at h
      · exact ⟨r', b, by rw [e]; simp⟩
    have hl : l.length = r'.length := by simpa using h
    rw [bv_snoc, bv_snoc]
    have h1 := ih r' hl fun i x y h1 h2 => hle i x y (by rw [List.getElem?_append_left (List.getElem?_eq_some_iff.mp h1).1]; exact h1) (by rw [List.getElem?_append_left (List.getElem?_eq_some_iff.mp h2).1]; exact h2)
    have h2 := hle l.length a b (by simp) (by rw [hl]; simp)
    omega
theorem cw_le {d B a : Nat} {f g : Nat → Nat} (h : ∀ j, j < B → f (j * d + a) ≤ g (j * d + a)) : cw d B f a ≤ cw d B g a := by
  unfold cw
  refine bv_le _ _ (by simp) fun i x y h1 h2 => ?_
  by_cases hi : i < B
  · rw [List.getElem?_map, List.getElem?_range hi] at h1 h2
    cases h1
    cases h2
    exact h i hi
  · rw [List.getElem?_eq_none (by simp; omega)] at h1
    cases h1
theorem lowC_le {d B l k a : Nat} : lowC d B l k a ≤ highC d B l k a := cw_le fun j _ => by
  unfold lowB highB
  split
  · exact Nat.le_refl _
  · decide
/-- the halves: along the axis l % d the cell is cut, along the others not -/
theorem nb_half {l k b i : Nat} (hb : b < 2) (hi : i < l + 1) : nb (l + 1) (2 * k + b) i = if i < l then nb l k i else b := by
  unfold nb
  by_cases h : i < l
  · rw [if_pos h, show l + 1 - 1 - i = (l - 1 - i) + 1 by omega, Nat.pow_succ, Nat.mul_comm (2 ^ (l - 1 - i)) 2, ← Nat.div_div_eq_div_mul]
    rw [show (2 * k + b) / 2 = k by omega]
  · rw [if_neg h, show l + 1 - 1 - i = 0 by omega]
    omega
theorem half_other {d B l k b a : Nat} (hb : b < 2) (ha : a ≠ l % d) (ha2 : a < d) : lowC d B (l + 1) (2 * k + b) a = lowC d B l k a ∧ highC d B (l + 1) (2 * k + b) a = highC d B l k a := by
  have key : ∀ j, j < B → j * d + a ≠ l := fun j _ e => ha (by rw [← e, ix_mod ha2])
  refine ⟨cw_congr fun j hj => ?_, cw_congr fun j hj => ?_⟩
  · unfold lowB
    by_cases h : j * d + a < l
    · rw [if_pos (by omega), if_pos h, nb_half hb (by omega), if_pos h]
    · have := key j hj
      rw [if_neg (by omega), if_neg h]
  · unfold highB
    by_cases h : j * d + a < l
    · rw [if_pos (by omega), if_pos h, nb_half hb (by omega), if_pos h]
    · have := key j hj
      rw [if_neg (by omega), if_neg h]
theorem half_low {d B l k a : Nat} : lowC d B (l + 1) (2 * k) a = lowC d B l k a := cw_congr fun j hj => by
  unfold lowB
  by_cases h : j * d + a < l
  · rw [if_pos (by omega), if_pos h, show 2 * k = 2 * k + 0 by omega, nb_half (by decide) (by omega), if_pos h]
  · rw [if_neg h]
    by_cases h2 : j * d + a < l + 1
    · rw [if_pos h2, show 2 * k = 2 * k + 0 by omega, nb_half (by decide) h2, if_neg h]
    · rw [if_neg h2]
theorem half_high {d B l k a : Nat} : highC d B (l + 1) (2 * k + 1) a = highC d B l k a := cw_congr fun j hj => by
  unfold highB
  by_cases h : j * d + a < l
  · rw [if_pos (by omega), if_pos h, nb_half (by decide) (by omega), if_pos h]
  · rw [if_neg h]
    by_cases h2 : j * d + a < l + 1
    · rw [if_pos h2, nb_half (by decide) h2, if_neg h]
    · rw [if_neg h2]
/-- one bit 0 with 1s behind it, and 1 with 0s behind it: the numbers beside one another -/
theorem bv_app (l r : List Nat) : bv (l ++ r) = bv l * 2 ^ r.length + bv r := by
  revert r
  have key : ∀ r : List Nat, ∀ l : List Nat, bv (l ++ r) = bv l * 2 ^ r.length + bv r := by
    refine snoc_ind ?_ ?_
    · intro l
      rw [List.append_nil]
      show bv l = bv l * 1 + 0
      omega
    · intro r a ih l
      rw [← List.append_assoc, bv_snoc, ih l, bv_snoc, List.length_append]
      show (bv l * 2 ^ r.length + bv r) * 2 + a = bv l * 2 ^ (r.length + 1) + (bv r * 2 + a)
      rw [Nat.pow_succ, ← Nat.mul_assoc, Nat.add_mul]
      omega
  exact fun r => key r l
theorem range_cut {m t : Nat} (ht : t < m) : List.range m = List.range t ++ t :: (List.range (m - t - 1)).map (fun i => t + 1 + i) := by
  refine List.ext_getElem? fun i => ?_
  by_cases h1 : i < t
  · rw [List.getElem?_append_left (by simpa using h1), List.getElem?_range h1, List.getElem?_range (by omega)]
  · rw [List.getElem?_append_right (by simpa using h1), List.length_range]
    by_cases h2 : i = t
    · subst h2
      rw [Nat.sub_self, List.getElem?_range ht]
      rfl
    · obtain ⟨j, rfl⟩ : ∃ j, i = t + 1 + j := ⟨i - t - 1, by omega⟩
      rw [show t + 1 + j - t = j + 1 by omega, List.getElem?_cons_succ, List.getElem?_map]
      by_cases h3 : t + 1 + j < m
      · rw [List.getElem?_range h3, List.getElem?_range (by omega)]
        rfl
      · rw [List.getElem?_eq_none (by simp; omega), List.getElem?_eq_none (by simp; omega)]
        rfl
theorem bv_const (b m : Nat) : bv ((List.range m).map fun _ => b) = b * (2 ^ m - 1) := by
  induction m with
  | zero => simp [bv]
  | succ m ih =>
    rw [List.range_succ, List.map_append, List.map_cons, List.map_nil, bv_snoc, ih, Nat.pow_succ]
    have := Nat.two_pow_pos m
    obtain ⟨p, hp⟩ : ∃ p, 2 ^ m = p + 1 := ⟨2 ^ m - 1, by omega⟩
    rw [hp, show p + 1 - 1 = p by omega, show (p + 1) * 2 - 1 = 2 * p + 1 by omega, Nat.mul_add, Nat.mul_one, Nat.mul_assoc, Nat.mul_comm p 2]
theorem half_meet {d B l k : Nat} (hd : 0 < d) (hl : l < d * B) : highC d B (l + 1) (2 * k) (l % d) + 1 = lowC d B (l + 1) (2 * k + 1) (l % d) := by
  have hm := Nat.mod_lt l hd
  have ht : l / d < B := Nat.div_lt_of_lt_mul hl
  unfold highC lowC cw
  rw [range_cut ht, List.map_append, List.map_append, List.map_cons, List.map_cons, bv_app, bv_app, List.length_cons, List.length_cons, List.length_map, List.length_map]
  have front : (List.range (l / d)).map (fun j => highB (l + 1) (2 * k) (j * d + l % d)) = (List.range (l / d)).map (fun j => lowB (l + 1) (2 * k + 1) (j * d + l % d)) := by
    refine List.map_congr_left fun j hj => ?_
    have hj := List.mem_range.mp hj
    have hlt : j * d + l % d < l := by
      have : (j + 1) * d ≤ l / d * d := Nat.mul_le_mul_right d hj
      have e := ix_of (d := d) (i := l)
      rw [Nat.add_mul, Nat.one_mul] at this
      omega
    unfold highB lowB
    rw [if_pos (by omega), if_pos (by omega), nb_half (by decide) (by omega), if_pos hlt, show 2 * k = 2 * k + 0 by omega, nb_half (by decide) (by omega), if_pos hlt]
  rw [front]
  have e0 : highB (l + 1) (2 * k) (l / d * d + l % d) = 0 := by
    rw [ix_of]
    unfold highB
    rw [if_pos (by omega), show 2 * k = 2 * k + 0 by omega, nb_half (by decide) (by omega), if_neg (by omega)]
  have e1 : lowB (l + 1) (2 * k + 1) (l / d * d + l % d) = 1 := by
    rw [ix_of]
    unfold lowB
    rw [if_pos (by omega), nb_half (by decide) (by omega), if_neg (by omega)]
  rw [e0, e1]
  have far : ∀ i, ¬ ((l / d + 1 + i) * d + l % d < l + 1) := fun i h => by
    have e := ix_of (d := d) (i := l)
    have : (l / d + 1) * d ≤ (l / d + 1 + i) * d := Nat.mul_le_mul_right d (by omega)
    rw [Nat.add_mul, Nat.one_mul] at this
    omega
  have t1 : ((List.range (B - l / d - 1)).map fun i => l / d + 1 + i).map (fun j => highB (l + 1) (2 * k) (j * d + l % d)) = (List.range (B - l / d - 1)).map fun _ => 1 := by
    rw [List.map_map]
    refine List.map_congr_left fun i _ => ?_
    show highB (l + 1) (2 * k) ((l / d + 1 + i) * d + l % d) = 1
    unfold highB
    rw [if_neg (far i)]
  have t2 : ((List.range (B - l / d - 1)).map fun i => l / d + 1 + i).map (fun j => lowB (l + 1) (2 * k + 1) (j * d + l % d)) = (List.range (B - l / d - 1)).map fun _ => 0 := by
    rw [List.map_map]
    refine List.map_congr_left fun i _ => ?_
    show lowB (l + 1) (2 * k + 1) ((l / d + 1 + i) * d + l % d) = 0
    unfold lowB
    rw [if_neg (far i)]
  rw [t1, t2]
  have cons : ∀ (x : Nat) (r : List Nat), bv (x :: r) = x * 2 ^ r.length + bv r := fun x r => by
    have := bv_app [x] r
    simpa [bv] using this
  rw [cons, cons, bv_const, bv_const, List.length_map, List.length_map, List.length_range]
  have := Nat.two_pow_pos (B - l / d - 1)
  omega
end GM

set_option Elab.async false
set_option linter.all false
set_option maxRecDepth 10000
/-! rooms of boxes in cells, and covering a box by cells -/
namespace GM
open NM
/-- how many numbers from lo to hi are from x to y -/
def ovl (lo hi x y : Nat) : Nat := (min hi y + 1) - max lo x
def prodN (f : Nat → Nat) : Nat → Nat
  | 0 => 1
  | n + 1 => prodN f n * f n
def roomN (d B : Nat) (lo hi : Nat → Nat) (l k : Nat) : Nat := prodN (fun a => ovl (lo a) (hi a) (lowC d B l k a) (highC d B l k a)) d
theorem prodN_congr {f g : Nat → Nat} : ∀ {d : Nat}, (∀ i, i < d → f i = g i) → prodN f d = prodN g d
  | 0, _ => rfl
  | d + 1, h => by
    show prodN f d * f d = prodN g d * g d
    rw [prodN_congr fun i hi => h i (by omega), h d (by omega)]
theorem prodN_one {f : Nat → Nat} : ∀ {d : Nat}, (∀ i, i < d → f i = 1) → prodN f d = 1
  | 0, _ => rfl
  | d + 1, h => by
    show prodN f d * f d = 1
    rw [prodN_one fun i hi => h i (by omega), h d (by omega)]
theorem prodN_zero {f : Nat → Nat} {a : Nat} (h : f a = 0) : ∀ {d : Nat}, a < d → prodN f d = 0
  | 0, l => absurd l (Nat.not_lt_zero a)
  | d + 1, l => by
    show prodN f d * f d = 0
    by_cases e : a = d
    · rw [← e, h, Nat.mul_zero]
    · rw [prodN_zero h (show a < d by omega), Nat.zero_mul]
theorem prodN_split {f g h : Nat → Nat} {a : Nat} (h1 : f a = g a + h a) (h2 : ∀ i, i ≠ a → f i = g i ∧ f i = h i) : ∀ {d : Nat}, a < d → prodN f d = prodN g d + prodN h d
  | 0, l => absurd l (Nat.not_lt_zero a)
  | d + 1, l => by
    show prodN f d * f d = prodN g d * g d + prodN h d * h d
    by_cases e : a = d
    · subst e
      rw [h1, Nat.mul_add, ← prodN_congr (f := f) (g := g) fun i hi => (h2 i (by omega)).1, ← prodN_congr (f := f) (g := h) fun i hi => (h2 i (by omega)).2]
    · have := h2 d (fun y => e y.symm)
      rw [prodN_split h1 h2 (show a < d by omega), Nat.add_mul]
      rw [this.1]
      rw [← this.2, this.1]
theorem bv_add (f g : Nat → Nat) : ∀ m : Nat, bv ((List.range m).map fun i => f i + g i) = bv ((List.range m).map f) + bv ((List.range m).map g)
  | 0 => rfl
  | m + 1 => by
    rw [List.range_succ, List.map_append, List.map_append, List.map_append, List.map_singleton, List.map_singleton, List.map_singleton, bv_snoc, bv_snoc, bv_snoc, bv_add f g m]
    omega
def szC (d B l a : Nat) : Nat := cw d B (fun i => if i < l then 0 else 1) a
theorem highC_eq {d B l k a : Nat} : highC d B l k a = lowC d B l k a + szC d B l a := by
  show cw d B (highB l k) a = cw d B (lowB l k) a + cw d B _ a
  unfold cw
  rw [← bv_add]
  congr 1
  refine List.map_congr_left fun j _ => ?_
  show highB l k (j * d + a) = lowB l k (j * d + a) + (if j * d + a < l then 0 else 1)
  unfold highB lowB
  split <;> omega
theorem half_mid {d B l k : Nat} (hd : 0 < d) (hl : l < d * B) : highC d B (l + 1) (2 * k) (l % d) = (lowC d B l k (l % d) + highC d B l k (l % d)) / 2 := by
  have h1 := half_meet (k := k) hd hl
  have h2 := half_low (d := d) (B := B) (l := l) (k := k) (a := l % d)
  have h3 := half_high (d := d) (B := B) (l := l) (k := k) (a := l % d)
  have h4 := highC_eq (d := d) (B := B) (l := l + 1) (k := 2 * k) (a := l % d)
  have h5 := highC_eq (d := d) (B := B) (l := l + 1) (k := 2 * k + 1) (a := l % d)
  omega
theorem half_lt {d B l k : Nat} (hd : 0 < d) (hl : l < d * B) : lowC d B l k (l % d) ≤ highC d B (l + 1) (2 * k) (l % d) ∧ highC d B (l + 1) (2 * k) (l % d) + 1 ≤ highC d B l k (l % d) := by
  have h1 := half_meet (k := k) hd hl
  have h2 := half_low (d := d) (B := B) (l := l) (k := k) (a := l % d)
  have h3 := half_high (d := d) (B := B) (l := l) (k := k) (a := l % d)
  have h4 := lowC_le (d := d) (B := B) (l := l + 1) (k := 2 * k) (a := l % d)
  have h5 := lowC_le (d := d) (B := B) (l := l + 1) (k := 2 * k + 1) (a := l % d)
  omega
theorem ovl_split {lo hi x h y : Nat} (h1 : x ≤ h) (h2 : h + 1 ≤ y) : ovl lo hi x y = ovl lo hi x h + ovl lo hi (h + 1) y := by
  unfold ovl
  omega
theorem roomN_half {d B l k : Nat} {lo hi : Nat → Nat} (hd : 0 < d) (hl : l < d * B) : roomN d B lo hi l k = roomN d B lo hi (l + 1) (2 * k) + roomN d B lo hi (l + 1) (2 * k + 1) := by
  have hm := Nat.mod_lt l hd
  have key : ∀ i, i < d → i ≠ l % d → _ := fun i h1 h2 => (half_other (d := d) (B := B) (l := l) (k := k) (b := 0) (by decide) h2 h1)
  unfold roomN
  -- the axes beyond d don't matter
  let f := fun a => if a < d then ovl (lo a) (hi a) (lowC d B l k a) (highC d B l k a) else 0
  let g := fun a => if a < d then ovl (lo a) (hi a) (lowC d B (l + 1) (2 * k) a) (highC d B (l + 1) (2 * k) a) else 0
  let h := fun a => if a < d then ovl (lo a) (hi a) (lowC d B (l + 1) (2 * k + 1) a) (highC d B (l + 1) (2 * k + 1) a) else 0
  have ef : prodN (fun a => ovl (lo a) (hi a) (lowC d B l k a) (highC d B l k a)) d = prodN f d := prodN_congr fun i hi => (if_pos hi).symm
  have eg : prodN (fun a => ovl (lo a) (hi a) (lowC d B (l + 1) (2 * k) a) (highC d B (l + 1) (2 * k) a)) d = prodN g d := prodN_congr fun i hi => (if_pos hi).symm
  have eh : prodN (fun a => ovl (lo a) (hi a) (lowC d B (l + 1) (2 * k + 1) a) (highC d B (l + 1) (2 * k + 1) a)) d = prodN h d := prodN_congr fun i hi => (if_pos hi).symm
  rw [ef, eg, eh]
  refine prodN_split (a := l % d) ?_ (fun i hi => ?_) hm
  · show (if _ then _ else _) = (if _ then _ else _) + (if _ then _ else _)
    rw [if_pos hm, if_pos hm, if_pos hm]
    obtain ⟨h1, h2⟩ := half_lt (k := k) hd hl
    rw [ovl_split h1 h2, half_low, half_high, half_meet hd hl]
  · show (if _ then _ else _) = (if _ then _ else _) ∧ (if _ then _ else _) = (if _ then _ else _)
    by_cases hid : i < d
    · rw [if_pos hid, if_pos hid, if_pos hid]
      have h0 := half_other (d := d) (B := B) (l := l) (k := k) (b := 0) (by decide) hi hid
      have h1 := half_other (d := d) (B := B) (l := l) (k := k) (b := 1) (by decide) hi hid
      have h0 : lowC d B (l + 1) (2 * k) i = lowC d B l k i ∧ highC d B (l + 1) (2 * k) i = highC d B l k i := h0
      rw [h0.1, h0.2, h1.1, h1.2]
      exact ⟨rfl, rfl⟩
    · rw [if_neg hid, if_neg hid, if_neg hid]
      exact ⟨rfl, rfl⟩
/-- whether the point with a woven number is in the box -/
def inB (d B : Nat) (lo hi : Nat → Nat) (n : Nat) : Nat := prodN (fun a => ovl (lo a) (hi a) (coord d B n a) (coord d B n a)) d
theorem roomN_full {d B k : Nat} {lo hi : Nat → Nat} : roomN d B lo hi (d * B) k = inB d B lo hi k := by
  unfold roomN inB
  refine prodN_congr fun a ha => ?_
  have h1 := coord_low (k := k) (Nat.le_refl (d * B)) ha
  have h2 := coord_high (k := k) (Nat.le_refl (d * B)) ha
  rw [Nat.sub_self, Nat.pow_zero, Nat.mul_one] at h1 h2
  rw [show k + 1 - 1 = k by omega] at h2
  rw [← h1, ← h2]
theorem room_tot {d B : Nat} {lo hi : Nat → Nat} (hd : 0 < d) : ∀ (m l k : Nat), l + m = d * B → roomN d B lo hi l k = tot (inB d B lo hi) m k
  | 0, l, k, h => by
    rw [Nat.add_zero] at h
    subst h
    exact roomN_full
  | m + 1, l, k, h => by
    rw [roomN_half hd (show l < d * B by omega), room_tot hd m (l + 1) (2 * k) (by omega), room_tot hd m (l + 1) (2 * k + 1) (by omega)]
    rfl
/-- the points of a cell are between its corners -/
theorem in_cell {d B l k n a : Nat} (hl : l ≤ d * B) (ha : a < d) (h : n / 2 ^ (d * B - l) = k) : lowC d B l k a ≤ coord d B n a ∧ coord d B n a ≤ highC d B l k a := by
  have hp := Nat.two_pow_pos (d * B - l)
  have e : n = k * 2 ^ (d * B - l) + n % 2 ^ (d * B - l) := by
    rw [← h, Nat.mul_comm]
    exact (Nat.div_add_mod n _).symm
  have hr := Nat.mod_lt n hp
  have key : ∀ j, j < B → nb (d * B) n (j * d + a) = if j * d + a < l then nb l k (j * d + a) else nb (d * B - l) (n % 2 ^ (d * B - l)) (j * d + a - l) := fun j hj => by
    conv => lhs; rw [e]
    exact nb_split hl hr (ix_lt hj ha)
  refine ⟨cw_le fun j hj => ?_, cw_le fun j hj => ?_⟩
  · rw [key j hj]
    unfold lowB
    split
    · exact Nat.le_refl _
    · exact Nat.zero_le _
  · rw [key j hj]
    unfold highB
    split
    · exact Nat.le_refl _
    · have := nb_lt (d * B - l) (n % 2 ^ (d * B - l)) (j * d + a - l)
      omega
theorem ovl_in {lo hi x : Nat} (h1 : lo ≤ x) (h2 : x ≤ hi) : ovl lo hi x x = 1 := by
  unfold ovl
  omega
theorem ovl_out {lo hi x : Nat} (h : x < lo ∨ hi < x) : ovl lo hi x x = 0 := by
  unfold ovl
  omega
theorem inB_one {d B n : Nat} {lo hi : Nat → Nat} (h : ∀ a, a < d → lo a ≤ coord d B n a ∧ coord d B n a ≤ hi a) : inB d B lo hi n = 1 := prodN_one fun a ha => ovl_in (h a ha).1 (h a ha).2
theorem inB_zero {d B n a : Nat} {lo hi : Nat → Nat} (ha : a < d) (h : coord d B n a < lo a ∨ hi a < coord d B n a) : inB d B lo hi n = 0 := prodN_zero (f := fun a => ovl (lo a) (hi a) (coord d B n a) (coord d B n a)) (a := a) (ovl_out h) ha
theorem inB_within {d B l k n : Nat} {lo hi : Nat → Nat} (hl : l ≤ d * B) (hw : ∀ a, a < d → lo a ≤ lowC d B l k a ∧ highC d B l k a ≤ hi a) (h : n / 2 ^ (d * B - l) = k) : inB d B lo hi n = 1 := inB_one fun a ha => by
  have := in_cell hl ha h
  have := hw a ha
  omega
theorem inB_apart {d B l k n a : Nat} {lo hi : Nat → Nat} (hl : l ≤ d * B) (ha : a < d) (hw : hi a < lowC d B l k a ∨ highC d B l k a < lo a) (h : n / 2 ^ (d * B - l) = k) : inB d B lo hi n = 0 := inB_zero ha (by
  have := in_cell hl ha h
  omega)
/-! ### covering -/
def isC (d B : Nat) (c : Nat × Nat) : Nat → Nat := isOf (d * B - c.1) c.2
/-- found cells and waiting ones: together each point of the box once, no other one in a found one -/
def Cov (d B : Nat) (lo hi : Nat → Nat) (fs ws : List (Nat × Nat)) : Prop := ∀ n, n < 2 ^ (d * B) → (fs.map fun c => isC d B c n).sum + (ws.map fun c => isC d B c n * inB d B lo hi n).sum = inB d B lo hi n
theorem cov_start {d B : Nat} {lo hi : Nat → Nat} : Cov d B lo hi [] [(0, 0)] := fun n hn => by
  show 0 + (isOf (d * B - 0) 0 n * inB d B lo hi n + 0) = _
  rw [Nat.sub_zero]
  unfold isOf
  rw [if_pos (Nat.div_eq_of_lt hn)]
  omega
theorem isC_half {d B l k n : Nat} (hl : l < d * B) : isC d B (l, k) n = isC d B (l + 1, 2 * k) n + isC d B (l + 1, 2 * k + 1) n := by
  show isOf _ _ n = isOf _ _ n + isOf _ _ n
  unfold isOf
  have e : d * B - l = (d * B - (l + 1)) + 1 := by omega
  show (if n / 2 ^ (d * B - l) = k then 1 else 0) = _
  rw [e, Nat.pow_succ, ← Nat.div_div_eq_div_mul]
  show (if n / 2 ^ (d * B - (l + 1)) / 2 = k then 1 else 0) = (if n / 2 ^ (d * B - (l + 1)) = 2 * k then 1 else 0) + (if n / 2 ^ (d * B - (l + 1)) = 2 * k + 1 then 1 else 0)
  split <;> split <;> split <;> omega
/-- a cell within the box is found -/
theorem cov_found {d B l k : Nat} {lo hi : Nat → Nat} {fs ws : List (Nat × Nat)} (hl : l ≤ d * B) (hw : ∀ a, a < d → lo a ≤ lowC d B l k a ∧ highC d B l k a ≤ hi a) (h : Cov d B lo hi fs (ws ++ [(l, k)])) : Cov d B lo hi (fs ++ [(l, k)]) ws := fun n hn => by
  have := h n hn
  rw [List.map_append, List.sum_append] at this ⊢
  have e : isC d B (l, k) n * inB d B lo hi n = isC d B (l, k) n := by
    show isOf _ _ n * _ = isOf _ _ n
    unfold isOf
    by_cases y : n / 2 ^ (d * B - (l, k).1) = (l, k).2
    · rw [if_pos y, inB_within hl hw y]
    · rw [if_neg y, Nat.zero_mul]
  simp only [List.map_cons, List.map_nil, List.sum_cons, List.sum_nil, e] at this ⊢
  omega
/-- a cell is cut: the halves that the box doesn't meet are left out -/
theorem cov_cut {d B l k : Nat} {lo hi : Nat → Nat} {fs ws hs : List (Nat × Nat)} (hl : l < d * B) (hh : ∀ n, (hs.map fun c => isC d B c n * inB d B lo hi n).sum = (isC d B (l + 1, 2 * k) n + isC d B (l + 1, 2 * k + 1) n) * inB d B lo hi n) (h : Cov d B lo hi fs (ws ++ [(l, k)])) : Cov d B lo hi fs (ws ++ hs) := fun n hn => by
  have := h n hn
  rw [List.map_append, List.sum_append] at this ⊢
  rw [hh n, ← isC_half hl]
  simp only [List.map_cons, List.map_nil, List.sum_cons, List.sum_nil] at this
  omega
theorem isC_apart {d B l k n a : Nat} {lo hi : Nat → Nat} (hl : l ≤ d * B) (ha : a < d) (hw : hi a < lowC d B l k a ∨ highC d B l k a < lo a) : isC d B (l, k) n * inB d B lo hi n = 0 := by
  show isOf _ _ n * _ = 0
  unfold isOf
  by_cases y : n / 2 ^ (d * B - (l, k).1) = (l, k).2
  · rw [inB_apart hl ha hw y, Nat.mul_zero]
  · rw [if_neg y, Nat.zero_mul]
/-! ### corners of the whole -/
theorem cw_congr' {d B a : Nat} {f : Nat → Nat} {b : Nat} (h : ∀ j, f (j * d + a) = b) : cw d B f a = bv ((List.range B).map fun _ => b) := by
  unfold cw
  exact congrArg bv (List.map_congr_left fun j _ => h j)
theorem lowC_zero {d B a : Nat} : lowC d B 0 0 a = 0 := by
  have e : lowC d B 0 0 a = bv ((List.range B).map fun _ => 0) := cw_congr' fun j => by
    unfold lowB
    rw [if_neg (Nat.not_lt_zero _)]
  rw [e, bv_const, Nat.zero_mul]
theorem highC_zero {d B a : Nat} : highC d B 0 0 a = 2 ^ B - 1 := by
  have e : highC d B 0 0 a = bv ((List.range B).map fun _ => 1) := cw_congr' fun j => by
    unfold highB
    rw [if_neg (Nat.not_lt_zero _)]
  rw [e, bv_const, Nat.one_mul]
/-- a cell of one point -/
theorem one_cell {d B k a : Nat} (ha : a < d) : highC d B (d * B) k a = lowC d B (d * B) k a := by
  have h1 := coord_low (k := k) (Nat.le_refl (d * B)) ha
  have h2 := coord_high (k := k) (Nat.le_refl (d * B)) ha
  rw [Nat.sub_self, Nat.pow_zero, Nat.mul_one] at h1 h2
  rw [show k + 1 - 1 = k by omega] at h2
  rw [← h1, ← h2]
/-- half a cell, along its axis -/
theorem half_axis {d B l k b : Nat} (hb : b < 2) (hd : 0 < d) (hl : l < d * B) : lowC d B (l + 1) (2 * k + b) (l % d) = (if b = 0 then lowC d B l k (l % d) else (lowC d B l k (l % d) + highC d B l k (l % d)) / 2 + 1) ∧
    highC d B (l + 1) (2 * k + b) (l % d) = (if b = 0 then (lowC d B l k (l % d) + highC d B l k (l % d)) / 2 else highC d B l k (l % d)) := by
  have hm := half_mid (B := B) (k := k) hd hl
  have hx := half_meet (B := B) (k := k) hd hl
  have h0 : b = 0 ∨ b = 1 := by omega
  rcases h0 with rfl | rfl
  · rw [if_pos rfl, if_pos rfl]
    exact ⟨half_low, hm⟩
  · rw [if_neg (by decide), if_neg (by decide)]
    exact ⟨by omega, half_high⟩
theorem half_in {d B l k b a : Nat} (hb : b < 2) (hd : 0 < d) (hl : l < d * B) (ha : a < d) : lowC d B l k a ≤ lowC d B (l + 1) (2 * k + b) a ∧ highC d B (l + 1) (2 * k + b) a ≤ highC d B l k a ∧ lowC d B (l + 1) (2 * k + b) a ≤ highC d B (l + 1) (2 * k + b) a := by
  refine ⟨?_, ?_, lowC_le⟩
  · by_cases e : a = l % d
    · subst e
      have h1 := half_axis (k := k) hb hd hl
      have h2 := lowC_le (d := d) (B := B) (l := l) (k := k) (a := l % d)
      rw [h1.1]
      split <;> omega
    · rw [(half_other hb e ha).1]
      exact Nat.le_refl _
  · by_cases e : a = l % d
    · subst e
      have h1 := half_axis (k := k) hb hd hl
      have h2 := lowC_le (d := d) (B := B) (l := l) (k := k) (a := l % d)
      rw [h1.2]
      split <;> omega
    · rw [(half_other hb e ha).2]
      exact Nat.le_refl _
end GM

set_option Elab.async false
set_option linter.all false
set_option maxRecDepth 10000
/-! coverings: how many points; two boxes and what they share -/
namespace GM
open NM
theorem sum_congr {α : Type} {f g : α → Nat} {l : List α} (h : ∀ x ∈ l, f x = g x) : (l.map f).sum = (l.map g).sum := congrArg List.sum (List.map_congr_left h)
theorem sum_mulL {α : Type} (a : Nat) (f : α → Nat) : ∀ l : List α, (l.map fun x => a * f x).sum = a * (l.map f).sum
  | [] => (Nat.mul_zero a).symm
  | x :: l => by rw [List.map_cons, List.map_cons, List.sum_cons, List.sum_cons, sum_mulL a f l, Nat.mul_add]
theorem sum_mulR {α : Type} (a : Nat) (f : α → Nat) : ∀ l : List α, (l.map fun x => f x * a).sum = (l.map f).sum * a
  | [] => (Nat.zero_mul a).symm
  | x :: l => by rw [List.map_cons, List.map_cons, List.sum_cons, List.sum_cons, sum_mulR a f l, Nat.add_mul]
theorem sum_flat {α β : Type} (f : α → List β) (g : β → Nat) : ∀ l : List α, ((l.flatMap f).map g).sum = (l.map fun x => ((f x).map g).sum).sum
  | [] => rfl
  | x :: l => by rw [List.flatMap_cons, List.map_append, List.sum_append, sum_flat f g l, List.map_cons, List.sum_cons]
theorem sum_add {α : Type} (f g : α → Nat) : ∀ l : List α, (l.map fun x => f x + g x).sum = (l.map f).sum + (l.map g).sum
  | [] => rfl
  | x :: l => by
    rw [List.map_cons, List.map_cons, List.map_cons, List.sum_cons, List.sum_cons, List.sum_cons, sum_add f g l]
    omega
theorem sum_zero {α : Type} : ∀ l : List α, (l.map fun _ => 0).sum = 0
  | [] => rfl
  | x :: l => by rw [List.map_cons, List.sum_cons, sum_zero l]
/-- sums told in the other order -/
theorem sum_swap {α β : Type} (f : α → β → Nat) (m : List β) : ∀ l : List α, (l.map fun x => (m.map fun y => f x y).sum).sum = (m.map fun y => (l.map fun x => f x y).sum).sum
  | [] => (sum_zero m).symm
  | x :: l => by
    rw [List.map_cons, List.sum_cons, sum_swap f m l, ← sum_add]
    exact sum_congr fun y _ => by rw [List.map_cons, List.sum_cons]
theorem sum_if {α : Type} (p : α → Bool) : ∀ l : List α, (l.map fun x => if p x = true then 1 else 0).sum = l.countP p
  | [] => rfl
  | x :: l => by
    rw [List.map_cons, List.sum_cons, sum_if p l, List.countP_cons]
    omega
theorem tot_isC {d B : Nat} {c : Nat × Nat} (hl : c.1 ≤ d * B) (hk : c.2 < 2 ^ c.1) : tot (isC d B c) (d * B) 0 = 2 ^ (d * B - c.1) := by
  have h := tot_isOf (d * B) c.1 c.2 hl hk fun _ => 1
  rw [tot_one] at h
  rw [← h]
  exact tot_congr _ _ fun n _ => (Nat.mul_one _).symm
theorem cov_sizes {d B : Nat} {f : Nat → Nat} {fs : List (Nat × Nat)} (ok : ∀ x ∈ fs, x.1 ≤ d * B ∧ x.2 < 2 ^ x.1) (cov : ∀ n, n < 2 ^ (d * B) → (fs.map fun x => isC d B x n).sum = f n) :
    (fs.map fun x => 2 ^ (d * B - x.1)).sum = tot f (d * B) 0 := by
  have e : tot f (d * B) 0 = tot (fun n => (fs.map fun x => isC d B x n).sum) (d * B) 0 := tot_congr _ _ fun n hn => by
    have hp := Nat.two_pow_pos (d * B)
    rw [cov n ((Nat.div_eq_zero_iff_lt hp).mp hn)]
  rw [e, tot_sum (fun x n => isC d B x n)]
  exact sum_congr fun x hx => (tot_isC (ok x hx).1 (ok x hx).2).symm
/-- whether a cell is within another one -/
def insideC (c e : Nat × Nat) : Bool := decide (e.1 ≤ c.1) && decide (c.2 / 2 ^ (c.1 - e.1) = e.2)
def interC (c e : Nat × Nat) : List (Nat × Nat) := if insideC c e = true then [c] else if insideC e c = true then [e] else []
theorem isC_within {d B n : Nat} {c e : Nat × Nat} (hc : c.1 ≤ d * B) (h : e.1 ≤ c.1) (hn : n / 2 ^ (d * B - c.1) = c.2) : n / 2 ^ (d * B - e.1) = c.2 / 2 ^ (c.1 - e.1) := by
  rw [show d * B - e.1 = (d * B - c.1) + (c.1 - e.1) by omega, Nat.pow_add, ← Nat.div_div_eq_div_mul, hn]
theorem inside_isC {d B n : Nat} {c e : Nat × Nat} (hc : c.1 ≤ d * B) (h : insideC c e = true) : isC d B c n * isC d B e n = isC d B c n := by
  unfold insideC at h
  rw [Bool.and_eq_true, decide_eq_true_iff, decide_eq_true_iff] at h
  show isOf _ _ n * isOf _ _ n = isOf _ _ n
  unfold isOf
  by_cases hn : n / 2 ^ (d * B - c.1) = c.2
  · rw [if_pos hn, if_pos ((isC_within hc h.1 hn).trans h.2)]
  · rw [if_neg hn, Nat.zero_mul]
theorem apart_isC {d B n : Nat} {c e : Nat × Nat} (hc : c.1 ≤ d * B) (h1 : e.1 ≤ c.1) (h : ¬ insideC c e = true) : isC d B c n * isC d B e n = 0 := by
  unfold insideC at h
  rw [Bool.and_eq_true, decide_eq_true_iff, decide_eq_true_iff] at h
  show isOf _ _ n * isOf _ _ n = 0
  unfold isOf
  by_cases hn : n / 2 ^ (d * B - c.1) = c.2
  · rw [if_neg (fun z => h ⟨h1, (isC_within hc h1 hn).symm.trans z⟩), Nat.mul_zero]
  · rw [if_neg hn, Nat.zero_mul]
theorem inter_isC {d B n : Nat} {c e : Nat × Nat} (hc : c.1 ≤ d * B) (he : e.1 ≤ d * B) : ((interC c e).map fun x => isC d B x n).sum = isC d B c n * isC d B e n := by
  unfold interC
  by_cases h1 : insideC c e = true
  · rw [if_pos h1, inside_isC hc h1]
    exact Nat.add_zero _
  · rw [if_neg h1]
    by_cases h2 : insideC e c = true
    · rw [if_pos h2, Nat.mul_comm, inside_isC he h2]
      exact Nat.add_zero _
    · rw [if_neg h2]
      rcases Nat.le_total e.1 c.1 with h | h
      · rw [apart_isC hc h h1]
        rfl
      · rw [Nat.mul_comm, apart_isC he h h2]
        rfl
theorem prodN_mul (f g : Nat → Nat) : ∀ d, prodN f d * prodN g d = prodN (fun a => f a * g a) d
  | 0 => rfl
  | d + 1 => by
    show prodN f d * f d * (prodN g d * g d) = prodN (fun a => f a * g a) d * (f d * g d)
    rw [← prodN_mul f g d, Nat.mul_mul_mul_comm]
theorem ovl_meet (lo hi lo2 hi2 x : Nat) : ovl lo hi x x * ovl lo2 hi2 x x = ovl (max lo lo2) (min hi hi2) x x := by
  by_cases h1 : lo ≤ x ∧ x ≤ hi
  · rw [ovl_in h1.1 h1.2, Nat.one_mul]
    by_cases h2 : lo2 ≤ x ∧ x ≤ hi2
    · rw [ovl_in h2.1 h2.2, ovl_in (by omega) (by omega)]
    · rw [ovl_out (by omega), ovl_out (by omega)]
  · rw [ovl_out (by omega), Nat.zero_mul, ovl_out (by omega)]
/-- the points of two boxes -/
theorem inB_meet {d B n : Nat} {lo hi lo2 hi2 : Nat → Nat} : inB d B lo hi n * inB d B lo2 hi2 n = inB d B (fun a => max (lo a) (lo2 a)) (fun a => min (hi a) (hi2 a)) n := by
  unfold inB
  rw [prodN_mul]
  exact prodN_congr fun a _ => ovl_meet _ _ _ _ _
def sharedC (fs gs : List (Nat × Nat)) : List (Nat × Nat) := fs.flatMap fun c => gs.flatMap fun e => interC c e
theorem inter_mem {c e x : Nat × Nat} (h : x ∈ interC c e) : x = c ∨ x = e := by
  unfold interC at h
  split at h
  · exact .inl (List.mem_singleton.mp h)
  · split at h
    · exact .inr (List.mem_singleton.mp h)
    · cases h
theorem shared_mem {fs gs : List (Nat × Nat)} {x : Nat × Nat} (h : x ∈ sharedC fs gs) : x ∈ fs ∨ x ∈ gs := by
  obtain ⟨c, hc, h⟩ := List.mem_flatMap.mp h
  obtain ⟨e, he, h⟩ := List.mem_flatMap.mp h
  rcases inter_mem h with rfl | rfl
  · exact .inl hc
  · exact .inr he
theorem shared_isC {d B n : Nat} {fs gs : List (Nat × Nat)} (hf : ∀ x ∈ fs, x.1 ≤ d * B) (hg : ∀ x ∈ gs, x.1 ≤ d * B) : ((sharedC fs gs).map fun x => isC d B x n).sum = (fs.map fun x => isC d B x n).sum * (gs.map fun x => isC d B x n).sum := by
  unfold sharedC
  rw [sum_flat, ← sum_mulR]
  refine sum_congr fun c hc => ?_
  rw [sum_flat, ← sum_mulL]
  exact sum_congr fun e he => inter_isC (hf c hc) (hg e he)
/-- the sizes of what two coverings share -/
theorem shared_sizes {d B : Nat} {lo hi lo2 hi2 : Nat → Nat} {fs gs : List (Nat × Nat)} (hd : 0 < d) (okf : ∀ x ∈ fs, x.1 ≤ d * B ∧ x.2 < 2 ^ x.1) (okg : ∀ x ∈ gs, x.1 ≤ d * B ∧ x.2 < 2 ^ x.1)
    (cf : ∀ n, n < 2 ^ (d * B) → (fs.map fun x => isC d B x n).sum = inB d B lo hi n) (cg : ∀ n, n < 2 ^ (d * B) → (gs.map fun x => isC d B x n).sum = inB d B lo2 hi2 n) :
    ((sharedC fs gs).map fun x => 2 ^ (d * B - x.1)).sum = roomN d B (fun a => max (lo a) (lo2 a)) (fun a => min (hi a) (hi2 a)) 0 0 := by
  rw [room_tot hd (d * B) 0 0 (Nat.zero_add _)]
  refine cov_sizes (fun x hx => ?_) fun n hn => ?_
  · rcases shared_mem hx with h | h
    · exact okf x h
    · exact okg x h
  · rw [shared_isC (fun x hx => (okf x hx).1) (fun x hx => (okg x hx).1), cf n hn, cg n hn, inB_meet]
/-- a meeting's room, and none -/
theorem room_none {d B l k a : Nat} {lo hi : Nat → Nat} (ha : a < d) (h : hi a < lo a) : roomN d B lo hi l k = 0 := by
  unfold roomN
  refine prodN_zero (f := fun a => ovl (lo a) (hi a) (lowC d B l k a) (highC d B l k a)) (a := a) ?_ ha
  unfold ovl
  omega
theorem room_cell {d B l k : Nat} {lo hi : Nat → Nat} : roomN d B lo hi l k = roomN d B (fun a => max (lowC d B l k a) (lo a)) (fun a => min (highC d B l k a) (hi a)) 0 0 := by
  unfold roomN
  refine prodN_congr fun a ha => ?_
  show ovl (lo a) (hi a) (lowC d B l k a) (highC d B l k a) = ovl (max (lowC d B l k a) (lo a)) (min (highC d B l k a) (hi a)) (lowC d B 0 0 a) (highC d B 0 0 a)
  rw [lowC_zero, highC_zero]
  have h : highC d B l k a < 2 ^ B := cw_lt fun j => highB_lt l k j
  unfold ovl
  omega
/-- the numbers of a row that are of a cell -/
theorem count_isC {d B : Nat} {c : Nat × Nat} (row : List Nat) : (row.countP fun n => decide (n / 2 ^ (d * B - c.1) = c.2)) = (row.map fun n => isC d B c n).sum := by
  rw [← sum_if]
  refine sum_congr fun n _ => ?_
  show _ = isOf _ _ n
  unfold isOf
  by_cases h : n / 2 ^ (d * B - c.1) = c.2
  · rw [if_pos (decide_eq_true h), if_pos h]
  · rw [if_neg (by rw [decide_eq_false h]; exact Bool.false_ne_true), if_neg h]
end GM

set_option Elab.async false
set_option linter.all false
set_option maxRecDepth 10000
/-! all numbers of a prefix; between the corners of a cell; cells in order -/
namespace GM
open NM
theorem tot_mono {w v : Nat → Nat} (h : ∀ n, w n ≤ v n) : ∀ m k, tot w m k ≤ tot v m k
  | 0, k => h k
  | m + 1, k => Nat.add_le_add (tot_mono h m (2 * k)) (tot_mono h m (2 * k + 1))
/-- what is at most another word everywhere, and adds up to as much, is that word -/
theorem tot_same {w v : Nat → Nat} (h : ∀ n, w n ≤ v n) : ∀ m k, tot w m k = tot v m k → ∀ n, n / 2 ^ m = k → w n = v n
  | 0, k, e, n, hn => by
    have hn : n = k := by simpa using hn
    rw [hn]
    exact e
  | m + 1, k, e, n, hn => by
    have e : tot w m (2 * k) + tot w m (2 * k + 1) = tot v m (2 * k) + tot v m (2 * k + 1) := e
    have h0 := tot_mono h m (2 * k)
    have h1 := tot_mono h m (2 * k + 1)
    rw [Nat.pow_succ, ← Nat.div_div_eq_div_mul] at hn
    have hb : n / 2 ^ m = 2 * k ∨ n / 2 ^ m = 2 * k + 1 := by omega
    rcases hb with z | z
    · exact tot_same h m (2 * k) (by omega) n z
    · exact tot_same h m (2 * k + 1) (by omega) n z
theorem tot_range (w : Nat → Nat) : ∀ m k, ((List.range (2 ^ m)).map fun i => w (k * 2 ^ m + i)).sum = tot w m k
  | 0, k => by
    show w (k * 1 + 0) + 0 = w k
    rw [Nat.mul_one, Nat.add_zero, Nat.add_zero]
  | m + 1, k => by
    show _ = tot w m (2 * k) + tot w m (2 * k + 1)
    rw [← tot_range w m (2 * k), ← tot_range w m (2 * k + 1), show 2 ^ (m + 1) = 2 ^ m + 2 ^ m by rw [Nat.pow_succ]; omega, List.range_add, List.map_append, List.sum_append, List.map_map]
    congr 1
    · exact sum_congr fun i _ => by rw [show k * (2 ^ m + 2 ^ m) = 2 * k * 2 ^ m by rw [Nat.mul_add, Nat.mul_assoc, Nat.two_mul]]
    · refine sum_congr fun i _ => ?_
      show w (k * (2 ^ m + 2 ^ m) + (2 ^ m + i)) = w ((2 * k + 1) * 2 ^ m + i)
      congr 1
      rw [Nat.add_mul, Nat.one_mul, show k * (2 ^ m + 2 ^ m) = 2 * k * 2 ^ m by rw [Nat.mul_add, Nat.mul_assoc, Nat.two_mul]]
      omega
theorem prodN_le {f : Nat → Nat} (h : ∀ a, f a ≤ 1) : ∀ d, prodN f d ≤ 1
  | 0 => Nat.le_refl _
  | d + 1 => Nat.mul_le_mul (prodN_le h d) (h d)
theorem inB_le {d B n : Nat} {lo hi : Nat → Nat} : inB d B lo hi n ≤ 1 := prodN_le (fun a => by
  unfold ovl
  omega) d
/-- between the corners of a cell, and only of the cell -/
theorem corner_inB {d B l k n : Nat} (hd : 0 < d) (hl : l ≤ d * B) (hk : k < 2 ^ l) (hn : n < 2 ^ (d * B)) : inB d B (lowC d B l k) (highC d B l k) n = isC d B (l, k) n := by
  symm
  refine tot_same (w := isC d B (l, k)) (v := inB d B (lowC d B l k) (highC d B l k)) (fun m => ?_) (d * B) 0 ?_ n (Nat.div_eq_of_lt hn)
  · show isOf _ _ m ≤ _
    unfold isOf
    split
    · rename_i h
      rw [inB_within hl (fun a _ => ⟨Nat.le_refl _, Nat.le_refl _⟩) h]
      exact Nat.le_refl _
    · exact Nat.zero_le _
  · rw [tot_isC (c := (l, k)) hl hk, ← room_tot hd (d * B) 0 0 (Nat.zero_add _)]
    have e := room_cell (d := d) (B := B) (l := l) (k := k) (lo := lowC d B l k) (hi := highC d B l k)
    have e2 : roomN d B (fun a => max (lowC d B l k a) (lowC d B l k a)) (fun a => min (highC d B l k a) (highC d B l k a)) 0 0 = roomN d B (lowC d B l k) (highC d B l k) 0 0 := by
      congr 1 <;> funext a <;> omega
    rw [e2] at e
    rw [← e, room_tot hd (d * B - l) l k (by omega)]
    have : tot (inB d B (lowC d B l k) (highC d B l k)) (d * B - l) k = tot (fun _ => 1) (d * B - l) k := tot_congr _ _ fun m hm => inB_within hl (fun a _ => ⟨Nat.le_refl _, Nat.le_refl _⟩) hm
    rw [this, tot_one]
/-! ### cells in order -/
def startC (D : Nat) (c : Nat × Nat) : Nat := c.2 * 2 ^ (D - c.1)
def endC (D : Nat) (c : Nat × Nat) : Nat := (c.2 + 1) * 2 ^ (D - c.1)
/-- one cell ends before another one starts -/
def Bef (D : Nat) (c e : Nat × Nat) : Prop := endC D c ≤ startC D e
theorem half_place {D l k t : Nat} (ht : t < 2) (hl : l < D) : startC D (l, k) ≤ startC D (l + 1, 2 * k + t) ∧ endC D (l + 1, 2 * k + t) ≤ endC D (l, k) := by
  have e : 2 ^ (D - l) = 2 * 2 ^ (D - (l + 1)) := by
    rw [show D - l = (D - (l + 1)) + 1 by omega, Nat.pow_succ]
    omega
  show k * 2 ^ (D - l) ≤ (2 * k + t) * 2 ^ (D - (l + 1)) ∧ (2 * k + t + 1) * 2 ^ (D - (l + 1)) ≤ (k + 1) * 2 ^ (D - l)
  rw [e]
  generalize 2 ^ (D - (l + 1)) = s
  constructor
  · rw [← Nat.mul_assoc]
    exact Nat.mul_le_mul_right s (by omega)
  · rw [← Nat.mul_assoc]
    exact Nat.mul_le_mul_right s (by omega)
theorem half_bef {D l k : Nat} : Bef D (l + 1, 2 * k) (l + 1, 2 * k + 1) := Nat.le_refl _
theorem start_end (D : Nat) (c : Nat × Nat) : startC D c ≤ endC D c := Nat.mul_le_mul_right _ (Nat.le_succ _)
/-- a cell in a row is cut -/
theorem bef_cut {D : Nat} {fs rs hs : List (Nat × Nat)} {c : Nat × Nat} (h : (fs ++ c :: rs).Pairwise (Bef D)) (hh : hs.Pairwise (Bef D)) (hi : ∀ x ∈ hs, startC D c ≤ startC D x ∧ endC D x ≤ endC D c) : (fs ++ (hs ++ rs)).Pairwise (Bef D) := by
  rw [List.pairwise_append] at h ⊢
  obtain ⟨h1, h2, h3⟩ := h
  rw [List.pairwise_cons] at h2
  refine ⟨h1, List.pairwise_append.mpr ⟨hh, h2.2, fun x hx y hy => Nat.le_trans (hi x hx).2 (h2.1 y hy)⟩, fun x hx y hy => ?_⟩
  rcases List.mem_append.mp hy with h | h
  · exact Nat.le_trans (h3 x hx c List.mem_cons_self) (hi y h).1
  · exact h3 x hx y (List.mem_cons_of_mem _ h)
/-- a cell that is within a box -/
def Within (d B : Nat) (lo hi : Nat → Nat) (c : Nat × Nat) : Prop := ∀ a, a < d → lo a ≤ lowC d B c.1 c.2 a ∧ highC d B c.1 c.2 a ≤ hi a
theorem within_both {d B l k : Nat} {lo hi : Nat → Nat} (h0 : Within d B lo hi (l + 1, 2 * k)) (h1 : Within d B lo hi (l + 1, 2 * k + 1)) : Within d B lo hi (l, k) := by
  intro a ha
  have q0 := h0 a ha
  have q1 := h1 a ha
  have q0 : lo a ≤ lowC d B (l + 1) (2 * k) a ∧ highC d B (l + 1) (2 * k) a ≤ hi a := q0
  have q1 : lo a ≤ lowC d B (l + 1) (2 * k + 1) a ∧ highC d B (l + 1) (2 * k + 1) a ≤ hi a := q1
  rw [half_low] at q0
  rw [half_high] at q1
  exact ⟨q0.1, q1.2⟩
theorem mem_le {f : Nat × Nat → Nat} : ∀ {fs : List (Nat × Nat)} {c : Nat × Nat}, c ∈ fs → f c ≤ (fs.map f).sum
  | x :: fs, c, h => by
    rw [List.map_cons, List.sum_cons]
    rcases List.mem_cons.mp h with rfl | h
    · omega
    · have := mem_le (f := f) h
      omega
/-- two cells of a covering have no number in common -/
theorem sum_two {f : Nat × Nat → Nat} : ∀ {fs : List (Nat × Nat)} {c e : Nat × Nat}, c ∈ fs → e ∈ fs → c ≠ e → f c + f e ≤ (fs.map f).sum
  | x :: fs, c, e, hc, he, hn => by
    rw [List.map_cons, List.sum_cons]
    rcases List.mem_cons.mp hc with h1 | h1
    · rcases List.mem_cons.mp he with h2 | h2
      · exact absurd (h1.trans h2.symm) hn
      · have := mem_le (f := f) h2
        rw [h1]
        omega
    · rcases List.mem_cons.mp he with h2 | h2
      · have := mem_le (f := f) h1
        rw [h2]
        omega
      · have := sum_two (f := f) h1 h2 hn
        omega
theorem cov_apart {d B : Nat} {f : Nat → Nat} {fs : List (Nat × Nat)} {c e : Nat × Nat} (ok : ∀ x ∈ fs, x.1 ≤ d * B ∧ x.2 < 2 ^ x.1) (cov : ∀ n, n < 2 ^ (d * B) → (fs.map fun x => isC d B x n).sum ≤ 1) (hc : c ∈ fs) (he : e ∈ fs) (hn : c ≠ e) : ¬ insideC c e = true := by
  intro h
  obtain ⟨h1, h2⟩ := ok c hc
  have hp := Nat.two_pow_pos (d * B - c.1)
  have hlt : c.2 * 2 ^ (d * B - c.1) < 2 ^ (d * B) := by
    have : 2 ^ (d * B) = 2 ^ c.1 * 2 ^ (d * B - c.1) := by rw [← Nat.pow_add]; congr 1; omega
    rw [this]
    exact Nat.mul_lt_mul_of_pos_right h2 hp
  have hq : c.2 * 2 ^ (d * B - c.1) / 2 ^ (d * B - c.1) = c.2 := Nat.mul_div_cancel _ hp
  have one : isC d B c (c.2 * 2 ^ (d * B - c.1)) = 1 := by
    show isOf _ _ _ = 1
    unfold isOf
    rw [if_pos hq]
  have two := inside_isC (d := d) (B := B) (n := c.2 * 2 ^ (d * B - c.1)) h1 h
  rw [one, Nat.one_mul] at two
  have := sum_two (f := fun x => isC d B x (c.2 * 2 ^ (d * B - c.1))) hc he hn
  have := cov _ hlt
  omega
end GM

set_option Elab.async false
set_option linter.all false
set_option maxRecDepth 10000
/-! splitting points on two rooms: in how many ways in all -/
namespace NM
/-- in how many ways the left room gets f of t points -/
def shareN (l r t f : Nat) : Nat := if f ≤ t then ch l f * ch r (t - f) else 0
def lowN (l r t : Nat) : Nat → Nat
  | 0 => 0
  | f + 1 => lowN l r t f + shareN l r t f
theorem share_pascal (l r t m : Nat) : shareN (l + 1) r (t + 1) (m + 1) = shareN l r (t + 1) (m + 1) + shareN l r t m := by
  unfold shareN
  by_cases h : m ≤ t
  · rw [if_pos (by omega), if_pos (by omega), if_pos h, show t + 1 - (m + 1) = t - m by omega]
    show (ch l m + ch l (m + 1)) * ch r (t - m) = _
    rw [Nat.add_mul, Nat.add_comm]
  · rw [if_neg (by omega), if_neg (by omega), if_neg h]
theorem low_pascal (l r t : Nat) : ∀ m, lowN (l + 1) r (t + 1) (m + 1) = lowN l r (t + 1) (m + 1) + lowN l r t m
  | 0 => by
    show 0 + shareN (l + 1) r (t + 1) 0 = 0 + shareN l r (t + 1) 0 + 0
    unfold shareN
    rw [ch_zero, ch_zero]
    omega
  | m + 1 => by
    show lowN (l + 1) r (t + 1) (m + 1) + shareN (l + 1) r (t + 1) (m + 1) = lowN l r (t + 1) (m + 1) + shareN l r (t + 1) (m + 1) + (lowN l r t m + shareN l r t m)
    rw [low_pascal l r t m, share_pascal]
    omega
theorem low_none (r t : Nat) : ∀ m, lowN 0 r t (m + 1) = ch r t
  | 0 => by
    show 0 + shareN 0 r t 0 = _
    unfold shareN
    rw [if_pos (Nat.zero_le _), ch_zero, Nat.sub_zero]
    omega
  | m + 1 => by
    show lowN 0 r t (m + 1) + shareN 0 r t (m + 1) = _
    rw [low_none r t m]
    have e : shareN 0 r t (m + 1) = 0 := by
      unfold shareN
      split
      · rw [ch_gt 0 (m + 1) (by omega), Nat.zero_mul]
      · rfl
    rw [e, Nat.add_zero]
/-- all ways of both rooms (Vandermonde) -/
theorem low_all (r : Nat) : ∀ l t, lowN l r t (t + 1) = ch (l + r) t
  | 0, t => by rw [low_none, Nat.zero_add]
  | l + 1, 0 => by
    show 0 + shareN (l + 1) r 0 0 = _
    unfold shareN
    rw [if_pos (Nat.le_refl _), ch_zero, ch_zero, ch_zero]
  | l + 1, t + 1 => by
    rw [low_pascal, low_all r l (t + 1), low_all r l t, show l + 1 + r = (l + r) + 1 by omega]
    show ch (l + r) (t + 1) + ch (l + r) t = ch (l + r) t + ch (l + r) (t + 1)
    omega
end NM

set_option Elab.async false
set_option linter.all false
set_option maxRecDepth 100000
/-! lists of one's own that change; reading them; further operators -/
namespace VL
open PySem PySem.Spec L2
open Evl (Ex)
section
variable {K : PySem.W.Frag} {c : Cfg} {S : Addr → Prop} {F0 H0 : Hp} {ρ : List SV} {N : Fi} {t u : TS} {te ta tb ti : TE} {P : DV → Prop}
/-- a new object of one's own in a slot -/
theorem At.new {F H F' H' : Hp} {σ : St} {o : HO} {x : OV} {l : Addr} (a : At K c S F0 H0 F H σ ρ) (g : Go c F H F' H') (hl : H' l = some o) (h0 : H l = none) (hf : F' l = none) (r : RelO K F' o x) (ho : OvAt l x) (i : Nat) :
    At K c S F0 H0 F' H' (σ.set i (some (.ref l))) (ρ.set i (.own x)) := by
  have hT : ¬ c.T l := fun tl => c.al F H l a.g.m tl h0
  have h00 : H0 l = none := by
    cases z : H0 l with
    | none => rfl
    | some o1 => exact absurd h0 (a.g.dom l o1 z)
  have s1 := a.s.go g
  refine ⟨a.g.go g, by rw [List.length_set, List.length_set]; exact s1.len, fun j s q => ?_, fun j k xs ys hjk q1 q2 => ?_⟩
  · by_cases z : i = j
    · subst z
      have hlt : i < ρ.length := by
        have := (List.getElem?_eq_some_iff.mp q).1
        rwa [List.length_set] at this
      rw [List.getElem?_set_self hlt] at q
      cases q
      exact ⟨_, List.getElem?_set_self (by rw [s1.len]; exact hlt), l, o, rfl, hl, hf, hT, ⟨.inl h00, ho⟩, r⟩
    · rw [List.getElem?_set_ne z] at q ⊢
      exact s1.ok j s q
  · have key : ∀ (j : Nat) (xs : OV), i ≠ j → ρ[j]? = some (.own xs) → σ[j]? ≠ some (some (.ref l)) := by
      intro j xs _ q z
      obtain ⟨v, e1, l2, o2, rfl, f1, _⟩ := a.s.ok j _ q
      rw [e1] at z
      cases z
      rw [h0] at f1
      cases f1
    by_cases z1 : i = j
    · subst z1
      have hlt : i < ρ.length := by
        have := (List.getElem?_eq_some_iff.mp q1).1
        rwa [List.length_set] at this
      rw [List.getElem?_set_ne hjk] at q2 ⊢
      rw [List.getElem?_set_self (by rw [s1.len]; exact hlt)]
      exact fun y => key k ys hjk q2 y.symm
    · rw [List.getElem?_set_ne z1] at q1 ⊢
      by_cases z2 : i = k
      · subst z2
        have hlt : i < ρ.length := by
          have := (List.getElem?_eq_some_iff.mp q2).1
          rwa [List.length_set] at this
        rw [List.getElem?_set_self (by rw [s1.len]; exact hlt)]
        exact key j xs z1 q1
      · rw [List.getElem?_set_ne z2] at q2 ⊢
        exact s1.dj j k xs ys hjk q1 q2
/-- x = a new object -/
theorem sx_new {i : Nat} (h : EvN K c te ρ fun x => (∀ a C fs, x ≠ .obj a C fs) ∧ (∀ w a S n, x ≠ .st w a S n) ∧ N.nx (ρ.set i (.own x))) : Sx K c S F0 H0 (tAsg te (gName i)) ρ N := fun σ F H D a k1 _ _ _ =>
  h _ σ F H a.s a.g.fh a.g.m _ fun l o x F1 H1 g1 hl h0 hf r p => by
    refine k1 _ _ F1 H1 (a.new g1 hl h0 hf r ?_ i) g1.ff p.2.2
    cases x with
    | obj a C fs => exact absurd rfl (p.1 a C fs)
    | lst _ => trivial
    | dK _ => trivial
    | st w a S n => exact absurd rfl (p.2.1 w a S n)
theorem EvN.imp {P P' : OV → Prop} (h : EvN K c te ρ P) (k : ∀ x, P x → P' x) : EvN K c te ρ P' := fun B σ F H s ex m Q q => h B σ F H s ex m Q fun l o x F' H' g hl h0 hf r p => q l o x F' H' g hl h0 hf r (k x p)
/-- [..] * n -/
theorem en_rep {P : OV → Prop} (h : Ev K c ta ρ fun x => Ev K c tb ρ fun y => ∃ ds k, x = .lst ds ∧ y = .int k ∧ -(2 ^ 63) ≤ k ∧ k < 2 ^ 63 ∧ ds.length * k.toNat ≤ 1000000 ∧ P (.lst (List.replicate k.toNat ds).flatten)) : EvN K c (tOp rRep ta tb) ρ P := fun B σ F H s ex m Q q =>
  h B σ F H s ex m _ fun v x F1 H1 g1 r1 h1 => h1 B σ F1 H1 (s.go g1) g1.fh g1.m _ fun w y F2 H2 g2 r2 h2 => by
    obtain ⟨ds, k, rfl, rfl, b1, b2, hz, p⟩ := h2
    cases r2
    cases r1 with
    | @lst l xs _ ha ra =>
      have rr : ∀ n : Nat, RelA K F2 (List.replicate n xs).flatten (List.replicate n ds).flatten := by
        intro n
        induction n with
        | zero => exact .nil
        | succ n ih =>
          rw [List.replicate_succ, List.replicate_succ, List.flatten_cons, List.flatten_cons]
          exact (ra.mono g2.ff).app ih
      refine ⟨l, k, xs, rfl, rfl, g2.fh _ _ (g2.ff _ _ ha), b1, b2, by rw [ra.len]; exact Nat.le_trans hz (by decide), fun p' hp => ?_⟩
      exact q p' _ (.lst _) F2 _ ((g1.trans g2).trans (Go.newM g2.fh g2.m hp)) upd_same ((g1.trans g2).back hp) (none_of_ex g2.fh hp) (rr _) p
/-- [..] + [..] -/
theorem en_cat {P : OV → Prop} (h : Ev K c ta ρ fun x => Ev K c tb ρ fun y => ∃ ds es, x = .lst ds ∧ y = .lst es ∧ ds.length + es.length ≤ 1000000 ∧ P (.lst (ds ++ es))) : EvN K c (tOp rCat ta tb) ρ P := fun B σ F H s ex m Q q =>
  h B σ F H s ex m _ fun v x F1 H1 g1 r1 h1 => h1 B σ F1 H1 (s.go g1) g1.fh g1.m _ fun w y F2 H2 g2 r2 h2 => by
    obtain ⟨ds, es, rfl, rfl, hz, p⟩ := h2
    cases r1 with
    | @lst l xs _ ha ra =>
      cases r2 with
      | @lst l2 ys _ hb rb =>
        refine ⟨l, l2, xs, ys, rfl, rfl, g2.fh _ _ (g2.ff _ _ ha), g2.fh _ _ hb, by rw [ra.len, rb.len]; exact Nat.le_trans hz (by decide), fun p' hp => ?_⟩
        exact q p' _ (.lst _) F2 _ ((g1.trans g2).trans (Go.newM g2.fh g2.m hp)) upd_same ((g1.trans g2).back hp) (none_of_ex g2.fh hp) ((ra.mono g2.ff).app rb) p
/-! ### reading a list of one's own: as if it were still, for what holds no object -/
def Flat : DV → Prop
  | .non | .bl _ | .int _ | .str _ | .ty _ | .adr _ => True
  | _ => False
theorem Rel.flat {F F' : Hp} {d : DV} {v : V} (h : Flat d) (r : Rel K F v d) : Rel K F' v d := by
  cases r with
  | non => exact .non
  | bl b => exact .bl b
  | int i => exact .int i
  | str x => exact .str x
  | ty n => exact .ty n
  | adr a => exact .adr a
  | lst _ _ => exact h.elim
  | tup _ _ => exact h.elim
  | ins _ _ => exact h.elim
  | tuf _ _ _ _ => exact h.elim
theorem borrow_go {F H F' H' : Hp} {l : Addr} {o : HO} (ex : Ex F H) (m : c.M F H) (hl : H l = some o) (hf : F l = none) (hT : ¬ c.T l) (g : Go c (upd F l o) H F' H') : Go c F H F H' := by
  have e1 : Ex F (upd F l o) := Evl.Ex.new hf
  refine ⟨Ex.rfl' F, (e1.trans g.ff).trans g.fh, g.hh, g.dom, fun _ _ _ q => q, c.st _ _ _ _ (fun _ _ _ q => q) (fun a ta q => ?_) g.m⟩
  cases z : F a with
  | none => rfl
  | some o1 => rw [(e1.trans g.ff) a o1 z] at q; cases q
theorem borrow_m {F H : Hp} {l : Addr} {o : HO} (m : c.M F H) (hf : F l = none) (hT : ¬ c.T l) : c.M (upd F l o) H :=
  c.st _ _ _ _ (fun _ _ _ q => q) (fun x tx q => by rw [upd_ne (show x ≠ l from fun z => hT (by rw [← z]; exact tx))]; exact q) m
theorem borrow_ex {F H : Hp} {l : Addr} {o : HO} (ex : Ex F H) (hl : H l = some o) : Ex (upd F l o) H := fun a u q => by
  unfold upd at q
  split at q
  · rename_i z
    subst z
    cases q
    exact hl
  · exact ex a u q
theorem ev_borrow (i : Nat) {ds : List DV} (e : ρ[i]? = some (.own (.lst ds))) (h : Ev K c te (ρ.set i (.d (.lst ds))) fun x => Flat x ∧ P x) : Ev K c te ρ P := fun B σ F H s ex m Q q => by
  obtain ⟨l, vs, e1, hl, hf, hB, hT, s2⟩ := s.freeze e
  exact h B σ _ H s2 (borrow_ex ex hl) (borrow_m m hf hT) Q fun v d F' H' g r p => q v d F H' (borrow_go ex m hl hf hT g) (Rel.flat p.1 r) p.2
theorem et_borrow (i : Nat) {ds : List DV} {t : TT} {P : Bool → Prop} (e : ρ[i]? = some (.own (.lst ds))) (h : EvT K c t (ρ.set i (.d (.lst ds))) P) : EvT K c t ρ P := fun B σ F H s ex m Q q => by
  obtain ⟨l, vs, e1, hl, hf, hB, hT, s2⟩ := s.freeze e
  exact h B σ _ H s2 (borrow_ex ex hl) (borrow_m m hf hT) Q fun b F' H' g p => q b F H' (borrow_go ex m hl hf hT g) p
/-! ### changing it -/
/-- xs[j] = e -/
theorem sx_setIx {i j : Nat} {ds : List DV} (e : ρ[i]? = some (.own (.lst ds))) (h : Ev K c te ρ fun y => Ev K c ti ρ fun k => k = .int (j : Int) ∧ j < ds.length ∧ N.nx (ρ.set i (.own (.lst (ds.set j y))))) :
    Sx K c S F0 H0 (tAsg te (gSub (tVar i) ti rSetL)) ρ N := fun σ F H D a k1 _ _ _ =>
  h _ σ F H a.s a.g.fh a.g.m _ fun v y F1 H1 g1 r1 h1 => by
    obtain ⟨l, o, e1, _, _, _, _, _, _⟩ := a.own e
    refine ⟨_, e1, h1 _ σ F1 H1 (a.go g1).s g1.fh g1.m _ fun w k F2 H2 g2 r2 h2 => ?_⟩
    obtain ⟨rfl, hj, p⟩ := h2
    cases r2
    obtain ⟨l', o', e1', f1, f2, f3, f4, f5, f6⟩ := ((a.go g1).go g2).own e
    rw [e1] at e1'
    cases e1'
    cases o' with
    | lst vs =>
      have r : RelA K F2 vs ds := f6
      refine ⟨l, vs, _, j, rfl, rfl, f1, Evl.ixN_nat (by rw [r.len]; exact hj), ?_⟩
      exact k1 σ _ F2 _ (((a.go g1).go g2).change e e1 f2 f3 f4 (y := .lst (ds.set j y)) f5 (show RelA K F2 _ _ from r.set (r1.mono g2.ff) j) ⟨_, f1⟩) (g1.ff.trans g2.ff) p
    | _ => exact absurd f6 (fun z => z)
/-- xs.append(e) -/
theorem sx_append {i : Nat} {ds : List DV} (e : ρ[i]? = some (.own (.lst ds))) (h : Ev K c te ρ fun y => ds.length < 1000000 ∧ N.nx (ρ.set i (.own (.lst (ds ++ [y]))))) :
    Sx K c S F0 H0 (tDrop (tBM K "list" rAppend (tVar i) (tCons te tNil))) ρ N := fun σ F H D a k1 _ _ _ => by
  obtain ⟨l, o, e1, f1, _, _, _, _, f6⟩ := a.own e
  cases o with
  | lst vs =>
    refine ⟨_, e1, .inl ⟨rfl, vs, .inl (.inl f1)⟩, ?_⟩
    refine h _ σ F H a.s a.g.fh a.g.m _ fun v y F1 H1 g1 r1 h1 => ?_
    obtain ⟨hz, p⟩ := h1
    obtain ⟨l', o', e1', f1, f2, f3, f4, f5, f6⟩ := (a.go g1).own e
    rw [e1] at e1'
    cases e1'
    cases o' with
    | lst vs =>
      have r : RelA K F1 vs ds := f6
      refine ⟨l, vs, v, rfl, rfl, f1, by rw [r.len]; exact Nat.lt_of_lt_of_le hz (by decide), ?_⟩
      exact k1 σ _ F1 _ ((a.go g1).change e e1 f2 f3 f4 (y := .lst (ds ++ [y])) f5 (show RelA K F1 _ _ from r.snoc r1) ⟨_, f1⟩) g1.ff p
    | _ => exact absurd f6 (fun z => z)
  | _ => exact absurd f6 (fun z => z)
/-- xs.extend(ys) -/
theorem sx_extend {i : Nat} {ds : List DV} (e : ρ[i]? = some (.own (.lst ds))) (h : Ev K c te ρ fun y => ∃ es, y = .lst es ∧ ds.length + es.length ≤ 1000000 ∧ N.nx (ρ.set i (.own (.lst (ds ++ es))))) :
    Sx K c S F0 H0 (tDrop (tBM K "list" rExtend (tVar i) (tCons te tNil))) ρ N := fun σ F H D a k1 _ _ _ => by
  obtain ⟨l, o, e1, f1, _, _, _, _, f6⟩ := a.own e
  cases o with
  | lst vs =>
    refine ⟨_, e1, .inl ⟨rfl, vs, .inl (.inl f1)⟩, ?_⟩
    refine h _ σ F H a.s a.g.fh a.g.m _ fun v y F1 H1 g1 r1 h1 => ?_
    obtain ⟨es, rfl, hz, p⟩ := h1
    obtain ⟨l', o', e1', f1, f2, f3, f4, f5, f6⟩ := (a.go g1).own e
    rw [e1] at e1'
    cases e1'
    cases o' with
    | lst vs =>
      have r : RelA K F1 vs ds := f6
      cases r1 with
      | @lst b zs _ hb rb =>
        refine ⟨l, b, vs, zs, rfl, rfl, f1, g1.fh _ _ hb, by rw [r.len, rb.len]; exact Nat.le_trans hz (by decide), ?_⟩
        exact k1 σ _ F1 _ ((a.go g1).change e e1 f2 f3 f4 (y := .lst (ds ++ es)) f5 (show RelA K F1 _ _ from r.app rb) ⟨_, f1⟩) g1.ff p
    | _ => exact absurd f6 (fun z => z)
  | _ => exact absurd f6 (fun z => z)
theorem RelA.dropLast {F : Hp} : ∀ {vs : List V} {ds : List DV}, RelA K F vs ds → RelA K F vs.dropLast ds.dropLast
  | _, _, .nil => .nil
  | _, _, .cons _ .nil => .nil
  | _, _, .cons h (.cons h2 r) => .cons h (RelA.dropLast (.cons h2 r))
/-- target = xs.pop() -/
theorem sx_asgPop {i : Nat} {g : TG} {ds : List DV} {y : DV} (e : ρ[i]? = some (.own (.lst ds))) (hy : ds[ds.length - 1]? = some y) (h : EvG K c g y (ρ.set i (.own (.lst ds.dropLast))) N.nx) :
    Sx K c S F0 H0 (tAsg (tBM0 K "list" rPop (tVar i)) g) ρ N := fun σ F H D a k1 _ _ _ => by
  obtain ⟨l, o, e1, f1, f2, f3, f4, f5, f6⟩ := a.own e
  cases o with
  | lst vs =>
    have r : RelA K F vs ds := f6
    obtain ⟨v, hv, rv⟩ := r.get hy
    refine ⟨_, e1, .inl ⟨rfl, vs, .inl (.inl f1)⟩, l, vs, v, rfl, rfl, f1, by rw [r.len]; exact hv, ?_⟩
    have a2 := a.change e e1 f2 f3 f4 (o := .lst vs.dropLast) (y := .lst ds.dropLast) f5 (show RelA K F _ _ from r.dropLast) ⟨_, f1⟩
    exact h _ σ F _ v a2.s a2.g.fh a2.g.m rv _ fun σ2 ρ2 F2 H2 g2 S2 p => k1 σ2 ρ2 F2 H2 ⟨a2.g.go g2, S2⟩ g2.ff p
  | _ => exact absurd f6 (fun z => z)
/-! ### ranges from the end -/
def rngR (lo : Int) (n : Nat) : List DV := (List.range n).map fun i => .int (lo + (n : Int) - 1 - (i : Nat))
theorem rngR_len {lo : Int} {n : Nat} : (rngR lo n).length = n := by unfold rngR; simp
theorem rngR_get {lo : Int} {n i : Nat} (h : i < n) : (rngR lo n)[i]? = some (.int (lo + (n : Int) - 1 - (i : Nat))) := by
  unfold rngR
  rw [List.getElem?_map, List.getElem?_range h]
  rfl
theorem rngR_of {lo : Int} {n i : Nat} {x : DV} (h : (rngR lo n)[i]? = some x) : i < n ∧ x = .int (lo + (n : Int) - 1 - (i : Nat)) := by
  have hi : i < n := by
    have := (List.getElem?_eq_some_iff.mp h).1
    rwa [rngR_len] at this
  rw [rngR_get hi] at h
  exact ⟨hi, (Option.some.inj h).symm⟩
theorem walks_rev {F : Hp} {lo : Int} {n : Nat} : Walks K c F (Itc (lo + (n : Int) - 1) (-1) n) (rngR lo n) := by
  refine ⟨fun i H hi _ => by rw [rngR_len] at hi; exact hi, fun H _ => by rw [rngR_len]; exact Nat.le_refl _, fun i x H H' F1 hi e1 e2 m y => ?_⟩
  rw [rngR_len] at hi
  obtain ⟨rfl, hx⟩ := y
  refine ⟨F1, _, rngR_get hi, Go.refl e2 m, ?_⟩
  rw [hx, show lo + (n : Int) - 1 + (i : Int) * (-1) = lo + (n : Int) - 1 - (i : Int) by omega]
  exact .int _
/-- reversed(range(e)) -/
theorem ei_rev1 {P : List DV → Prop} (h : Ev K c ta ρ fun x => ∃ n : Int, x = .int n ∧ -(2 ^ 62) ≤ n ∧ n < 2 ^ 62 ∧ P (rngR 0 n.toNat)) : EvI K c (iRevR (tRg1 ta)) ρ P := fun B σ F H s ex m R q =>
  h B σ F H s ex m _ fun v x F1 H1 g1 r1 h1 => by
    obtain ⟨n, rfl, b1, b2, p⟩ := h1
    cases r1
    refine ⟨n, rfl, by decide, by decide, b1, b2, ?_⟩
    rw [Int.sub_zero]
    exact q _ _ F1 H1 g1 walks_rev p
/-! ### kinds -/
theorem rva_isi {x : DV} {n T : String} {b : Bool} (hx : (∃ i, x = .int i ∧ T = "int") ∨ (∃ ds, x = .tup ds ∧ T = "tuple") ∨ (∃ k, x = .bl k ∧ T = "bool")) (hb : PySem.W.kitOne K (.type T) (.type n) = some b) (h : P (.bl b)) :
    RVA K c (rIsi K) [x, .ty n] P := fun F H vs r ex m Q q => by
  cases r with
  | cons r1 r2 =>
    cases r2 with
    | cons r2 r3 =>
      cases r3
      cases r2
      refine ⟨_, _, .type T, _, b, rfl, .ty n, ?_, hb, q _ _ F H (Go.refl ex m) (.bl b) h⟩
      rcases hx with ⟨i, rfl, rfl⟩ | ⟨ds, rfl, rfl⟩ | ⟨k, rfl, rfl⟩
      · cases r1
        exact .base (.int i)
      · cases r1 with
        | tup ht _ =>
          have ht := Evl.ex_t ex ht
          rcases ht with (q | ⟨o, q⟩) | ⟨o, its, n, q1, q2, _⟩
          · exact .base (.tup q)
          · exact .fTuple q
          · exact .kTuple q1 q2
      · cases r1
        exact .base (.bl k)
/-! ### bits -/
theorem pd_bitAnd (a b : Nat) : Builtin.bitAnd (a : Int) (b : Int) = ((a &&& b : Nat) : Int) := by
  unfold Builtin.bitAnd
  rw [decide_eq_true (Int.natCast_nonneg a), decide_eq_true (Int.natCast_nonneg b)]
  rfl
theorem pd_bitOr (a b : Nat) : Builtin.bitOr (a : Int) (b : Int) = ((a ||| b : Nat) : Int) := Bits.bitOr_pp (Int.natCast_nonneg a) (Int.natCast_nonneg b)
theorem rv_and {a b : Nat} (h : P (.int ((a &&& b : Nat) : Int))) : RV2 K c (rI0 fun i j => .int (Builtin.bitAnd i j)) (.int (a : Int)) (.int (b : Int)) P := rv_I0i (by rw [pd_bitAnd]; exact h)
theorem rv_or {a b : Nat} (h : P (.int ((a ||| b : Nat) : Int))) : RV2 K c (rI0 fun i j => .int (Builtin.bitOr i j)) (.int (a : Int)) (.int (b : Int)) P := rv_I0i (by rw [pd_bitOr]; exact h)
theorem rv_shr {a b : Nat} (h : P (.int ((a / 2 ^ b : Nat) : Int))) : RV2 K c (rI (fun _ j => 0 ≤ j) fun i j => .int (i / 2 ^ j.toNat)) (.int (a : Int)) (.int (b : Int)) P :=
  rv_Ii (Int.natCast_nonneg b) (by rw [Int.toNat_natCast]; rw [show ((a : Int) / 2 ^ b) = ((a / 2 ^ b : Nat) : Int) by push_cast; rfl]; exact h)
theorem rv_shl {a b n : Nat} (hn : a < 2 ^ n) (hz : n + b ≤ 134217728) (h : P (.int ((a * 2 ^ b : Nat) : Int))) : RV2 K c (rI CShl fun i j => .int (i * 2 ^ j.toNat)) (.int (a : Int)) (.int (b : Int)) P :=
  rv_Ii (shl_ok (n := n) (by rw [Int.natAbs_natCast]; exact hn) hz) (by rw [Int.toNat_natCast]; rw [show ((a : Int) * 2 ^ b) = ((a * 2 ^ b : Nat) : Int) by push_cast; rfl]; exact h)
theorem x_isi (K : PySem.W.Frag) {X : Cx} (hK : X.K = K := by rfl) : CallR X (.builtin "isinstance") (rIsi K) := by subst hK; exact call_isi
theorem or_bit (n b : Nat) (hb : b < 2) : (n * 2 ||| b) = 2 * n + b := by
  have : n * 2 = 2 ^ 1 * n := by omega
  rw [this, ← Nat.two_pow_add_eq_or_of_lt (by simpa using hb)]
end
end VL

set_option Elab.async false
set_option linter.all false
set_option maxRecDepth 100000
/-! rows of either kind, sets of one's own, rows of rows -/
namespace VL
open PySem PySem.Spec L2
open Evl (Ex)
/-- a list or a tuple, walked -/
def iRow (K : PySem.W.Frag) (tl : TE) : TI := fun σ H R => tl σ H fun x H1 => ∃ a, x = .ref a ∧ (((∃ xs, SqL K H1 a xs) ∧ R (Itl K a) H1) ∨ ((∃ xs, SqT K H1 a xs) ∧ R (Itt K a) H1))
theorem x_row (K : PySem.W.Frag) {X : Cx} {tg l : Expr} {tl : TE} (hl : PE X l tl) (hK : X.K = K := by rfl) : PI X tg l (iRow K tl) := by
  subst hK
  refine ⟨fun pins s σ H R I h => ?_⟩
  refine thn (hl.run pins s σ H _ I h) fun v s1 ⟨x, H1, I1, r1, q1⟩ => ?_
  obtain ⟨a, e, q1⟩ := q1
  subst e
  cases r1
  rcases q1 with ⟨⟨xs, hq⟩, q⟩ | ⟨⟨xs, hq⟩, q⟩
  · obtain ⟨its, rv, p, hz⟩ := I1.list hq
    refine wpAny_pyIter_list p.isList ?_
    refine ⟨s1.heap.objs.size, [s1.heap.objs.size], _, _, H1, rfl, I1.kept (t' := s1.toks) fun b o e => Heap.get?_push_of_some _ e, turn_list a _, ⟨_, Heap.get?_push_size _ rfl, rfl, rfl⟩, fun b hb => ?_, q⟩
    have e : b = s1.heap.objs.size := by simpa using hb
    subst e
    exact I1.fpOk (Nat.le_refl _) (I1.hok.fresh (Nat.le_refl _))
  · obtain ⟨its, rv, p, hz⟩ := I1.tuple hq
    refine wpAny_pyIter_tuple (show s1.heap.IsTuple a its.toArray from p) ?_
    refine ⟨s1.heap.objs.size, [s1.heap.objs.size], _, _, H1, rfl, I1.kept (t' := s1.toks) fun b o e => Heap.get?_push_of_some _ e, turn_tuple a _, ⟨_, Heap.get?_push_size _ rfl, rfl, rfl⟩, fun b hb => ?_, q⟩
    have e : b = s1.heap.objs.size := by simpa using hb
    subst e
    exact I1.fpOk (Nat.le_refl _) (I1.hok.fresh (Nat.le_refl _))
section
variable {K : PySem.W.Frag} {c : Cfg} {S : Addr → Prop} {F0 H0 : Hp} {ρ : List SV} {N : Fi} {t u : TS} {te ta tb ti : TE} {P : DV → Prop}
theorem ei_row {tl : TE} {P : List DV → Prop} (h : Ev K c tl ρ fun x => ∃ ds, (x = .lst ds ∨ x = .tup ds) ∧ P ds) : EvI K c (iRow K tl) ρ P := fun B σ F H S ex m R q =>
  h B σ F H S ex m _ fun v x F1 H1 g1 r1 h1 => by
    obtain ⟨ds, hx, p⟩ := h1
    rcases hx with rfl | rfl
    · cases r1 with
      | lst hs ra => exact ⟨_, rfl, .inl ⟨⟨_, Evl.sq_of (g1.fh _ _ hs)⟩, q _ ds F1 H1 g1 (walks_at walk_list (fun H e => Evl.sq_of (e _ _ hs)) ra) p⟩⟩
    · cases r1 with
      | tup hs ra => exact ⟨_, rfl, .inr ⟨⟨_, Evl.ex_t g1.fh hs⟩, q _ ds F1 H1 g1 (walks_at walk_tup (fun H e => Evl.ex_t e hs) ra) p⟩⟩
/-! ### sets of ints -/
/-- x = set() -/
theorem sx_set0 {w : World} {i : Nat} (h : ∀ a, N.nx (ρ.set i (.own (.st w a (fun _ => false) 0)))) : Sx K c S F0 H0 (tAsg (tCB (rSet0 w) tNil) (gName i)) ρ N := fun σ F H D a k1 _ _ _ =>
  ⟨rfl, fun p hp => k1 _ _ F _ (a.new (Go.newM a.g.fh a.g.m hp) upd_same hp (none_of_ex a.g.fh hp) (show RelO K F (SetO w p (fun _ => false) 0) (.st w p _ _) from rfl) rfl i) (Ex.rfl' F) (h p)⟩
/-- e in x -/
theorem ev_inSet {w : World} {i : Nat} {b : Addr} {m : Int → Bool} {n : Nat} (e : ρ[i]? = some (.own (.st w b m n))) (h : Ev K c ta ρ fun x => ∃ k, x = .int k ∧ P (.bl (m k))) : Ev K c (tOp (rSIn w) ta (tVar i)) ρ P := fun B σ F H s ex mm Q q =>
  h B σ F H s ex mm _ fun v x F1 H1 g1 r1 h1 => by
    obtain ⟨k, rfl, p⟩ := h1
    cases r1
    obtain ⟨v, e1, l, o, rfl, hl, hf, hT, hB, r⟩ := (s.go g1).ok i _ e
    have r : o = SetO w b m n := by cases o <;> exact r
    have hb : l = b := hB.2
    subst hb
    subst r
    exact ⟨_, e1, k, l, m, n, rfl, rfl, hl, q _ _ F1 H1 g1 (.bl _) p⟩
/-- x.add(e) -/
theorem sx_sadd {w : World} {i : Nat} {b : Addr} {m : Int → Bool} {n : Nat} (e : ρ[i]? = some (.own (.st w b m n))) (h : Ev K c te ρ fun x => ∃ k, x = .int k ∧ n + 1 < scanBound ∧ N.nx (ρ.set i (.own (.st w b (fun j => m j || decide (j = k)) (if m k = true then n else n + 1))))) :
    Sx K c S F0 H0 (tDrop (tSAdd w (tVar i) (tCons te tNil))) ρ N := fun σ F H D a k1 _ _ _ => by
  have own : ∀ {F H : Hp}, At K c S F0 H0 F H σ ρ → σ[i]? = some (some (.ref b)) ∧ H b = some (SetO w b m n) ∧ F b = none ∧ ¬ c.T b ∧ Own S H0 b := by
    intro F H a
    obtain ⟨l, o, e1, f1, f2, f3, f4, f5, f6⟩ := a.own e
    have r : o = SetO w b m n := by cases o <;> exact f6
    have hb : l = b := f5
    subst hb
    subst r
    exact ⟨e1, f1, f2, f3, f4⟩
  obtain ⟨e1, f1, _⟩ := own a
  refine ⟨_, e1, ⟨b, m, n, rfl, f1⟩, ?_⟩
  refine h _ σ F H a.s a.g.fh a.g.m _ fun v y F1 H1 g1 r1 h1 => ?_
  obtain ⟨k, rfl, hz, p⟩ := h1
  cases r1
  obtain ⟨_, f1, f2, f3, f4⟩ := own (a.go g1)
  refine ⟨b, k, m, n, rfl, rfl, f1, hz, ?_⟩
  exact k1 σ _ F1 _ ((a.go g1).change e e1 f2 f3 f4 (y := .st w b _ _) rfl (show RelO K F1 (SetO w b _ _) (.st w b _ _) from rfl) ⟨_, f1⟩) g1.ff p
/-- sorted(x) -/
theorem ev_sortedSet {w : World} {i : Nat} {b : Addr} {m : Int → Bool} {n : Nat} (e : ρ[i]? = some (.own (.st w b m n))) (hn : n < 64) (h : ∀ ns : List Int, ns.Pairwise (· < ·) → (∀ k : Int, k ∈ ns ↔ m k = true) → ns.length = n → P (.lst (intsD ns))) :
    Ev K c (tCB (rSortedSet w) (tCons (tVar i) tNil)) ρ P := fun B σ F H s ex mm Q q => by
  obtain ⟨v, e1, l, o, rfl, hl, hf, hT, hB, r⟩ := s.ok i _ e
  have r : o = SetO w b m n := by cases o <;> exact r
  have hb : l = b := hB.2
  subst hb
  subst r
  exact ⟨_, e1, l, m, n, rfl, hl, hn, fun ns p h1 h2 h3 hp => q _ _ _ _ (Go.new ex mm hp) (.lst upd_same relA_of_ints) (h ns h1 h2 h3)⟩
theorem x_set0 (w : World) {X : Cx} (hw : X.w = w := by rfl) : CallR X (.type "set") (rSet0 w) := by subst hw; exact cr_set0
theorem x_sin (w : World) {X : Cx} (hw : X.w = w := by rfl) : OpR X (compareOp .In) (rSIn w) := by subst hw; exact or_sin
theorem x_sortedSet (w : World) {X : Cx} (hc : X.calm = true) (hw : X.w = w := by rfl) : CallR X (.builtin "sorted") (rSortedSet w) := by subst hw; exact cr_sortedSet hc
/-! ### rows of rows -/
theorem any_eqv {d : DV} (h1 : okD 18 d = true) : ∀ {es : List DV}, es.all (okD 18) = true → ((pds es).any (fun z => PyData.eqv z (pd d)) = true ↔ d ∈ es)
  | [], _ => by simp [pds]
  | e :: es, h2 => by
    obtain ⟨h3, h4⟩ := okD_cons h2
    have k := eqv_iff 18 18 e d h3 h1
    have ih := any_eqv h1 h4
    simp only [pds, List.any_cons, Bool.or_eq_true, List.mem_cons]
    rw [k, ih]
    constructor
    · rintro (rfl | h)
      · exact .inl rfl
      · exact .inr h
    · rintro (rfl | h)
      · exact .inl rfl
      · exact .inr h
theorem rv_inD {d : DV} {es : List DV} (h1 : okD 18 d = true) (h2 : es.all (okD 18) = true) (h : ∀ b : Bool, (b = true ↔ d ∈ es) → P (.bl b)) : RV2 K c (rInD K) d (.lst es) P := fun F H v w r1 r2 ex m Q q => by
  obtain ⟨a1, a2, a3⟩ := rel_dp 18 d v h1 r1 ex
  obtain ⟨b1, b2, b3⟩ := rel_dp 19 (.lst es) w (by unfold okD; exact h2) r2 ex
  have e : pd (.lst es) = .list (pds es) := by simp only [pd]
  rw [e] at b1 b2 b3
  exact ⟨pd d, pds es, a1, b1, shaped_of a2 a3 (by decide), shaped_of b2 b3 (by decide), q _ _ F H (Go.refl ex m) (.bl _) (h _ (any_eqv h1 h2))⟩
theorem rv_ninD {d : DV} {es : List DV} (h1 : okD 18 d = true) (h2 : es.all (okD 18) = true) (h : ∀ b : Bool, (b = true ↔ d ∉ es) → P (.bl b)) : RV2 K c (rNotInD K) d (.lst es) P := fun F H v w r1 r2 ex m Q q => by
  obtain ⟨a1, a2, a3⟩ := rel_dp 18 d v h1 r1 ex
  obtain ⟨b1, b2, b3⟩ := rel_dp 19 (.lst es) w (by unfold okD; exact h2) r2 ex
  have e : pd (.lst es) = .list (pds es) := by simp only [pd]
  rw [e] at b1 b2 b3
  refine ⟨pd d, pds es, a1, b1, shaped_of a2 a3 (by decide), shaped_of b2 b3 (by decide), q _ _ F H (Go.refl ex m) (.bl _) (h _ ?_)⟩
  rw [Bool.not_eq_true', ← any_eqv h1 h2, Bool.not_eq_true]
theorem x_inD (K : PySem.W.Frag) {X : Cx} (hu : X.A.units + 65 < cLine) (hK : X.K = K := by rfl) : OpR X (compareOp .In) (rInD K) := by subst hK; exact op_inD hu
theorem x_ninD (K : PySem.W.Frag) {X : Cx} (hu : X.A.units + 65 < cLine) (hK : X.K = K := by rfl) : OpR X (compareOp .NotIn) (rNotInD K) := by subst hK; exact op_notInD hu
/-- x += a list -/
theorem sx_augExt {i : Nat} {ds : List DV} (e : ρ[i]? = some (.own (.lst ds))) (h : Ev K c te ρ fun y => ∃ es, y = .lst es ∧ ds.length + es.length ≤ 1000000 ∧ N.nx (ρ.set i (.own (.lst (ds ++ es))))) :
    Sx K c S F0 H0 (tAug i te rExt2) ρ N := fun σ F H D a k1 _ _ _ => by
  obtain ⟨l, o, e1, f1, _, _, _, _, f6⟩ := a.own e
  refine ⟨_, e1, ?_⟩
  refine h _ σ F H a.s a.g.fh a.g.m _ fun v y F1 H1 g1 r1 h1 => ?_
  obtain ⟨es_, rfl, hz, p⟩ := h1
  obtain ⟨l', o', e1', f1, f2, f3, f4, f5, f6⟩ := (a.go g1).own e
  rw [e1] at e1'
  cases e1'
  cases o' with
  | lst vs =>
    have r : RelA K F1 vs ds := f6
    cases r1 with
    | @lst b zs _ hb rb =>
      refine ⟨l, b, vs, zs, rfl, rfl, f1, g1.fh _ _ hb, by rw [r.len, rb.len]; exact Nat.le_trans hz (by decide), ?_⟩
      have es : σ.set i (some (.ref l)) = σ := by
        refine List.ext_getElem? fun j => ?_
        by_cases z : i = j
        · subst z
          rw [List.getElem?_set_self (List.getElem?_eq_some_iff.mp e1).1, e1]
        · rw [List.getElem?_set_ne z]
      show D.nx (σ.set i (some (.ref l))) _
      rw [es]
      exact k1 σ _ F1 _ ((a.go g1).change e e1 f2 f3 f4 (y := .lst (ds ++ es_)) f5 (show RelA K F1 _ _ from r.app rb) ⟨_, f1⟩) g1.ff p
  | _ => exact absurd f6 (fun z => z)
/-- x = C(..) -/
theorem sx_make {i : Nat} {C : Addr} {g : Cfg → List DV → (List (Str × DV) → Prop) → Prop} {E : XK} {tl : TA} (h : EvA K c tl ρ fun ds => g c ds fun fs => ∀ x, N.nx (ρ.set i (.own (.obj x C fs)))) : Sx K c S F0 H0 (tAsg (tMake C (SpI K C g) [] E tl) (gName i)) ρ N := fun σ F H D a k1 _ _ _ =>
  h _ σ F H a.s a.g.fh a.g.m _ fun vs ds F1 H1 g1 r1 h1 => by
    intro x dx nx ndx hne
    have fx : F1 x = none := none_of_ex g1.fh nx
    have fdx : F1 dx = none := none_of_ex g1.fh ndx
    have tx : ¬ c.T x := fun t => c.al F1 H1 x g1.m t nx
    have tdx : ¬ c.T dx := fun t => c.al F1 H1 dx g1.m t ndx
    have keep : ∀ a u, H1 a = some u → (upd (upd H1 dx (.own x)) x (.ins C dx [])) a = some u := fun a u e => by
      rw [upd_ne (ne_of_none e nx), upd_ne (ne_of_none e ndx)]
      exact e
    refine ⟨c, F1, ds, _, x, dx, vs, by rw [List.append_nil], upd_same, fx, tx, fun a u e => keep a u (g1.fh a u e), c.st _ _ _ _ (fun a u _ e => keep a u e) (fun _ _ e => e) g1.m, r1, h1, fun fs dx' ws F2 H2 g2 hx f2 rf p => ⟨rfl, ?_⟩⟩
    have gg : Go c F1 H1 F2 H2 := by
      refine ⟨g2.ff, g2.fh, fun a u e t => g2.hh a u (keep a u e) t (fun z => absurd e (by rw [z, nx]; exact fun y => nomatch y)), fun a u e => g2.dom a u (keep a u e), fun a u e z => g2.fr a u (keep a u e) z, g2.m⟩
    exact k1 _ _ F2 H2 (a.new (g1.trans gg) hx (g1.back nx) f2 (x := .obj x C fs) ⟨rfl, rf⟩ rfl i) (g1.trans gg).ff (p x)
/-- an object of one's own becomes still -/
theorem sx_freezeObj {i : Nat} {x C : Addr} {ds : List (Str × DV)} (e : ρ[i]? = some (.own (.obj x C ds))) (h : Sx K c (fun _ => False) F0 H0 t (ρ.set i (.d (.ins C ds))) N) : Sx K c (fun _ => False) F0 H0 t ρ N := fun σ F H D a k1 k2 k3 k4 => by
  obtain ⟨l, o, e1, hl, hf, hT, hB, hat, r⟩ := a.own e
  cases o with
  | ins C' dx vs =>
    obtain ⟨rfl, r⟩ := r
    have ex : Ex F (upd F l (.ins C' dx vs)) := Evl.Ex.new hf
    have hB0 : H0 l = none := by
      rcases hB with h | h
      · exact h
      · exact h.elim
    have g : Gs c (fun _ => False) F0 H0 (upd F l (.ins C' dx vs)) H := by
      refine ⟨a.g.ff.trans ex, fun x o q => ?_, a.g.hh, a.g.dom, fun x o q z => ?_, c.st _ _ _ _ (fun _ _ _ q => q) (fun x tx q => ?_) a.g.m⟩
      · unfold upd at q
        split at q
        · rename_i z
          subst z
          cases q
          exact hl
        · exact a.g.fh x o q
      · rw [upd_ne (ne_of_none q hB0)]
        exact a.g.fr x o q z
      · rw [upd_ne (show x ≠ l from fun z => hT (by rw [← z]; exact tx))]
        exact q
    have s : Slots K c (VL.Own (fun _ => False) H0) (upd F l (.ins C' dx vs)) H σ (ρ.set i (.d (.ins C' ds))) := by
      refine ⟨by rw [List.length_set]; exact a.s.len, fun j y q => ?_, fun j k xs ys hjk q1 q2 => ?_⟩
      · by_cases z : i = j
        · subst z
          have hlt : i < ρ.length := (List.getElem?_eq_some_iff.mp e).1
          rw [List.getElem?_set_self hlt] at q
          cases q
          exact ⟨_, e1, _, rfl, .ins upd_same (r.mono ex)⟩
        · rw [List.getElem?_set_ne z] at q
          obtain ⟨w, e2, q2⟩ := a.s.ok j y q
          refine ⟨w, e2, ?_⟩
          cases y with
          | non => exact q2
          | any => trivial
          | d y =>
            obtain ⟨y1, y2, y3⟩ := q2
            exact ⟨y1, y2, y3.mono ex⟩
          | own y =>
            obtain ⟨l2, o2, f1, f2, f3, f4, f5, f6⟩ := q2
            refine ⟨l2, o2, f1, f2, ?_, f4, f5, f6.mono ex⟩
            have hne : l2 ≠ l := by
              intro y
              have := a.s.dj i j _ _ z e q
              rw [e1, e2, f1, y] at this
              exact this rfl
            rw [upd_ne hne]
            exact f3
      · have key : ∀ (m : Nat) (zs : OV), (ρ.set i (.d (.ins C' ds)))[m]? = some (.own zs) → i ≠ m := by
          intro m zs q z
          subst z
          have hlt : i < ρ.length := (List.getElem?_eq_some_iff.mp e).1
          rw [List.getElem?_set_self hlt] at q
          cases q
        have n1 := key j xs q1
        have n2 := key k ys q2
        rw [List.getElem?_set_ne n1] at q1
        rw [List.getElem?_set_ne n2] at q2
        exact a.s.dj j k xs ys hjk q1 q2
    exact h σ _ H D ⟨g, s⟩ (fun σ' ρ' F' H' a' e' q => k1 σ' ρ' F' H' a' (ex.trans e') q) k2 (fun σ' ρ' F' H' a' e' q => k3 σ' ρ' F' H' a' (ex.trans e') q) (fun σ' ρ' F' H' a' e' q => k4 σ' ρ' F' H' a' (ex.trans e') q)
  | _ => exact absurd r (fun z => z)
/-! ### parts of rows, None -/
theorem eo_none {P : Option Int → Prop} (h : P none) : EvO K c tNoPart ρ P := fun B σ F H s ex m Q q => q none F H (Go.refl ex m) h
theorem eo_some {P : Option Int → Prop} (h : Ev K c te ρ fun x => ∃ i, x = .int i ∧ P (some i)) : EvO K c (tPart te) ρ P := fun B σ F H s ex m Q q =>
  h B σ F H s ex m _ fun v x F1 H1 g1 r1 h1 => by
    obtain ⟨i, rfl, p⟩ := h1
    cases r1
    exact ⟨i, rfl, q _ F1 H1 g1 p⟩
def cutD (xs : List DV) (lo hi : Option Int) : List DV := (xs.drop (HT.sIx xs.length 0 lo)).take (HT.sIx xs.length xs.length hi - HT.sIx xs.length 0 lo)
theorem RelA.cut {F : Hp} {vs : List V} {ds : List DV} (r : RelA K F vs ds) (lo hi : Option Int) : RelA K F (cutV vs lo hi) (cutD ds lo hi) := by
  unfold cutV cutD
  rw [r.len]
  exact (r.drop _).take _
/-- e[a:b] of a tuple -/
theorem ev_slA {tl th : TO} (h : Ev K c te ρ fun x => ∃ ds, x = .tup ds ∧ EvO K c tl ρ fun lo => EvO K c th ρ fun hi => P (.tup (cutD ds lo hi))) : Ev K c (tSl (rSlA K) te tl th) ρ P := fun B σ F H s ex m Q q =>
  h B σ F H s ex m _ fun v x F1 H1 g1 r1 h1 => by
    obtain ⟨ds, rfl, h1⟩ := h1
    refine h1 B σ F1 H1 (s.go g1) g1.fh g1.m _ fun lo F2 H2 g2 h2 => h2 B σ F2 H2 ((s.go g1).go g2) g2.fh g2.m _ fun hi F3 H3 g3 p => ?_
    have r3 := (r1.mono g2.ff).mono g3.ff
    cases r3 with
    | @tup a xs _ ht ra =>
      refine ⟨a, xs, rfl, Evl.ex_t g3.fh ht, fun hw => ?_, fun _ p' hp => ?_⟩
      · refine q _ _ F3 H3 ((g1.trans g2).trans g3) (.tup ht ra) ?_
        have e : cutD ds lo hi = ds := by
          unfold cutD
          rw [← ra.len, hw.1, hw.2, List.drop_zero, Nat.sub_zero, List.take_of_length_le (Nat.le_of_eq ra.len.symm)]
        have p : P (.tup (cutD ds lo hi)) := p
        rw [e] at p
        exact p
      · exact q _ _ _ _ (((g1.trans g2).trans g3).trans (Go.new g3.fh g3.m hp)) (.tup (.inl (.inl upd_same)) ((ra.cut lo hi).mono (Evl.Ex.new (none_of_ex g3.fh hp)))) p
def isNonD : DV → Bool
  | .non => true
  | _ => false
theorem rel_non {F : Hp} {v : V} {d : DV} (r : Rel K F v d) : decide (v = .non) = isNonD d := by
  cases r <;> simp [isNonD]
theorem rv_isN {d : DV} (h : P (.bl (isNonD d))) : RV2 K c (fun x y H Q => y = .non ∧ Q (.bl (decide (x = .non))) H) d .non P := fun F H v w r1 r2 ex m Q q => by
  cases r2
  refine ⟨rfl, ?_⟩
  rw [rel_non r1]
  exact q _ _ F H (Go.refl ex m) (.bl _) h
theorem cutD_to (xs : List DV) (k : Nat) (h : k ≤ xs.length) : cutD xs none (some (k : Int)) = xs.take k := by
  unfold cutD
  rw [HT.sIx_none, HT.sIx_nat, List.drop_zero, Nat.sub_zero, Nat.min_eq_left h]
theorem cutD_from (xs : List DV) (k : Nat) (h : k ≤ xs.length) : cutD xs (some (k : Int)) none = xs.drop k := by
  unfold cutD
  rw [HT.sIx_none, HT.sIx_nat, Nat.min_eq_left h]
  exact List.take_of_length_le (by rw [List.length_drop]; exact Nat.le_refl _)
end
end VL

set_option Elab.async false
set_option linter.all false
set_option maxRecDepth 100000
/-! errors of one's own, over data: what a def answers, and with which field its error comes out -/
namespace VL
open PySem PySem.Spec L2
open Evl (Ex)
/-- f c arguments P X: P of what comes back, X of what the error's field holds -/
def SpE (K : PySem.W.Frag) (C : Addr) (fld : Str) (f : Cfg → List DV → (DV → Prop) → (DV → Prop) → Prop) : Sp := fun vs H Q E => ∃ (c : Cfg) (F : Hp) (ds : List DV) (P X : DV → Prop), Ex F H ∧ c.M F H ∧ RelA K F vs ds ∧ f c ds P X ∧
  (∀ v d F' H', Go c F H F' H' → Rel K F' v d → P d → Q v H') ∧ ∀ e v d F' H', Go c F H F' H' → Rel K F' v d → X d → H' e = some (.xd [(fld, v)]) → ¬ c.T e → E (.ref C) (some e) H'
section
variable {K : PySem.W.Frag} {c : Cfg} {S : Addr → Prop} {F0 H0 : Hp} {ρ : List SV} {N : Fi} {t u : TS} {te ta : TE} {P X : DV → Prop} {C : Addr} {fld : Str} {f : Cfg → List DV → (DV → Prop) → (DV → Prop) → Prop}
/-- an expression that stands right in a statement -/
def EvS (K : PySem.W.Frag) (c : Cfg) (S : Addr → Prop) (F0 H0 : Hp) (t : TE) (ρ : List SV) (P : DV → Prop) : Prop := ∀ (σ : St) (F H : Hp), At K c S F0 H0 F H σ ρ → ∀ Q : VK, (∀ v d F' H', Go c F H F' H' → Rel K F' v d → P d → Q v H') → t σ H Q
theorem EvS.of (h : Ev K c te ρ P) : EvS K c S F0 H0 te ρ P := fun σ F H a Q q => h _ σ F H a.s a.g.fh a.g.m Q q
/-- what is wished of an error that comes out here -/
def Wish (K : PySem.W.Frag) (c : Cfg) (S : Addr → Prop) (F0 H0 : Hp) (ρ : List SV) (C : Addr) (fld : Str) (X : DV → Prop) (W : WX) : Prop := ∀ σ e v d F H, At K c S F0 H0 F H σ ρ → Rel K F v d → X d → H e = some (.xd [(fld, v)]) → ¬ c.T e → W (.ref C) (some e) σ H
theorem es_call {E : XK} {tl : TA} (hw : Wish K c S F0 H0 ρ C fld X fun cls d _ H => E cls d H) (h : EvA K c tl ρ fun ds => f c ds P X) : EvS K c S F0 H0 (tCall (SpE K C fld f) [] E tl) ρ P := fun σ F H a Q q =>
  h _ σ F H a.s a.g.fh a.g.m _ fun vs ds F1 H1 g1 r1 h1 => ⟨c, F1, ds, P, X, g1.fh, g1.m, by rw [List.append_nil]; exact r1, h1, fun v d F2 H2 g2 r2 p => q v d F2 H2 (g1.trans g2) r2 p,
    fun e v d F2 H2 g2 r2 x he ht => hw σ e v d F2 H2 (a.go (g1.trans g2)) r2 x he ht⟩
theorem es_meth {E : XK} {tl : TA} {D : Addr} {m : Str} (hw : Wish K c S F0 H0 ρ C fld X fun cls d _ H => E cls d H) (h : Ev K c ta ρ fun x => ∃ fs, x = .ins D fs ∧ fs.lookup m = none ∧ EvA K c tl ρ fun ds => f c (x :: ds) P X) :
    EvS K c S F0 H0 (tMeth D m (SpE K C fld f) [] E ta tl) ρ P := fun σ F H a Q q =>
  h _ σ F H a.s a.g.fh a.g.m _ fun v x F1 H1 g1 r1 h1 => by
    obtain ⟨fs, rfl, hl, h2⟩ := h1
    cases r1 with
    | ins ha rf => exact ⟨_, _, _, rfl, g1.fh _ _ ha, rf.no hl, h2 _ σ F1 H1 (a.go g1).s g1.fh g1.m _ fun vs ds F2 H2 g2 r2 h3 =>
        ⟨c, F2, _ :: ds, P, X, g2.fh, g2.m, by rw [List.append_nil]; exact .cons (.ins (g2.ff _ _ ha) (rf.mono g2.ff)) r2, h3, fun v d F3 H3 g3 r3 p => q v d F3 H3 ((g1.trans g2).trans g3) r3 p,
          fun e v d F3 H3 g3 r3 x he ht => hw σ e v d F3 H3 (a.go ((g1.trans g2).trans g3)) r3 x he ht⟩⟩
/-- .. where no error comes -/
theorem ev_callE {E : XK} {tl : TA} (h : EvA K c tl ρ fun ds => f c ds P fun _ => False) : Ev K c (tCall (SpE K C fld f) [] E tl) ρ P := fun B σ F H s ex m Q q =>
  h B σ F H s ex m _ fun vs ds F1 H1 g1 r1 h1 => ⟨c, F1, ds, P, _, g1.fh, g1.m, by rw [List.append_nil]; exact r1, h1, fun v d F2 H2 g2 r2 p => q v d F2 H2 (g1.trans g2) r2 p, fun _ _ _ _ _ _ _ x _ _ => x.elim⟩
theorem ev_methE {E : XK} {tl : TA} {D : Addr} {m : Str} (h : Ev K c ta ρ fun x => ∃ fs, x = .ins D fs ∧ fs.lookup m = none ∧ EvA K c tl ρ fun ds => f c (x :: ds) P fun _ => False) : Ev K c (tMeth D m (SpE K C fld f) [] E ta tl) ρ P := fun B σ F H s ex mm Q q =>
  h B σ F H s ex mm _ fun v x F1 H1 g1 r1 h1 => by
    obtain ⟨fs, rfl, hl, h2⟩ := h1
    cases r1 with
    | ins ha rf => exact ⟨_, _, _, rfl, g1.fh _ _ ha, rf.no hl, h2 B σ F1 H1 (s.go g1) g1.fh g1.m _ fun vs ds F2 H2 g2 r2 h3 =>
        ⟨c, F2, _ :: ds, P, _, g2.fh, g2.m, by rw [List.append_nil]; exact .cons (.ins (g2.ff _ _ ha) (rf.mono g2.ff)) r2, h3, fun v d F3 H3 g3 r3 p => q v d F3 H3 ((g1.trans g2).trans g3) r3 p, fun _ _ _ _ _ _ _ x _ _ => x.elim⟩⟩
theorem sxs_ret (h : EvS K c S F0 H0 te ρ N.rt) : Sx K c S F0 H0 (tRet te) ρ N := fun σ F H D a _ k2 _ _ => h σ F H a _ fun v d F' H' g r p => k2 v d F' H' (a.g.go g) r p
theorem sxs_drop (h : EvS K c S F0 H0 te ρ fun _ => N.nx ρ) : Sx K c S F0 H0 (tDrop te) ρ N := fun σ F H D a k1 _ _ _ => h σ F H a _ fun v d F' H' g r p => k1 σ ρ F' H' (a.go g) g.ff p
theorem sxs_asg {g : TG} (h : EvS K c S F0 H0 te ρ fun x => EvG K c g x ρ N.nx) : Sx K c S F0 H0 (tAsg te g) ρ N := fun σ F H D a k1 _ _ _ =>
  h σ F H a _ fun v d F1 H1 g1 r p => p _ σ F1 H1 v (a.go g1).s g1.fh g1.m r _ fun σ2 ρ2 F2 H2 g2 S2 q => k1 σ2 ρ2 F2 H2 ⟨a.g.go (g1.trans g2), S2⟩ (g1.ff.trans g2.ff) q
theorem sxs_fld {i : Nat} {g : Str} {a D : Addr} {fs : List (Str × DV)} (e : ρ[i]? = some (.own (.obj a D fs))) (hc : Cls K D) (hn : NoAttr K D g) (hz : fs.length < 900) (h : EvS K c S F0 H0 te ρ fun d => N.nx (ρ.set i (.own (.obj a D (putD g d fs))))) :
    Sx K c S F0 H0 (sFld K (tVar i) te g) ρ N := fun σ F H D' at_ k1 _ _ _ =>
  h σ F H at_ _ fun v d F1 H1 g1 r1 p => by
    obtain ⟨l, o, e1, f1, f2, f3, f4, f5, f6⟩ := (at_.go g1).own e
    cases o with
    | ins C' dx ws =>
      obtain ⟨e2, rf⟩ := f6
      subst e2
      refine ⟨_, e1, l, C', dx, ws, rfl, f1, hc, hn, by rw [rf.len]; omega, k1 σ _ F1 _ ((at_.go g1).change e e1 f2 f3 f4 f5 (y := .obj a C' (putD g d fs)) ⟨rfl, rf.put r1⟩ ⟨_, f1⟩) g1.ff p⟩
    | _ => exact absurd f6 (fun z => z)
/-- raise C(e) -/
def tRz (C : Addr) (fld : Str) (W : WX) (tl : TA) : TS := fun _ σ H => tl σ H fun vs H1 => ∃ v, vs = [v] ∧ ∀ d, H1 d = none → W (.ref C) (some d) σ (upd H1 d (.xd [(fld, v)]))
theorem sx_raise {W : WX} (hw : Wish K c S F0 H0 ρ C fld X W) (h : Ev K c te ρ X) : Sx K c S F0 H0 (tRz C fld W (tCons te tNil)) ρ N := fun σ F H D a _ _ _ _ =>
  h _ σ F H a.s a.g.fh a.g.m _ fun v d F1 H1 g1 r1 x => ⟨v, rfl, fun e he => hw σ e v d F1 _ (a.go (g1.trans (Go.newM g1.fh g1.m he))) r1 x upd_same fun t => c.al F1 H1 e g1.m t he⟩
theorem Wish.out {E : XK} {F H : Hp} (h : ∀ e v d F' H', Go c F H F' H' → Rel K F' v d → X d → H' e = some (.xd [(fld, v)]) → ¬ c.T e → E (.ref C) (some e) H') : Wish K c (fun _ => False) F H ρ C fld X fun cls d _ H => E cls d H :=
  fun _ e v d F' H' a r x he ht => h e v d F' H' a.g.toGo r x he ht
theorem Wish.imp {W : WX} {X' : DV → Prop} (h : Wish K c S F0 H0 ρ C fld X W) (k : ∀ d, X' d → X d) : Wish K c S F0 H0 ρ C fld X' W := fun σ e v d F H a r x he ht => h σ e v d F H a r (k d x) he ht
theorem fn_exc {Pg : Program} {w : World} {mg : Str → Option Value} {base : Heap} {x qual : Str} {st : Stmt} {fa : Addr} {fd : FuncData} {Ns ps : List Str} {k : Nat} (F : Fun K x qual st fa fd) (Sc : FnScope Ns ps (defScope st)) (len : ∀ c ds P X, f c ds P X → ds.length = ps.length)
    (hbody : ∀ (cdv : Value) (A : Around) (outer : List Env) (s : Shared) (H : Hp) (E : XK), Room k (A.deeper (PyProof.Rows.envOfC qual (defScope st) s.heap.objs.size fa cdv)) →
      ∃ t, PSs (cxOf (L2.CX Pg w) Pg w K mg base Ns qual (defScope st) fa cdv A outer s H E) (defBody st) t ∧ ∀ (c : Cfg) (F : Hp) (ds : List DV) (P X : DV → Prop), f c ds P X → (∀ ρ, Wish K c (fun _ => False) F H ρ C fld X fun cls d _ H => E cls d H) → Sx K c (fun _ => False) F H t (slots0 Ns.length ds) { nx := fun _ => P .non, rt := P }) :
    FnOk Pg w K mg base (L2.CX Pg w) (k + 1) fa fd ps (SpE K C fld f) := by
  refine F.okX Sc (fun vs H Q E h => ?_) (fun cdv A outer s H vs Q E hr h => ?_)
  · obtain ⟨c, Fr, ds, P, X, _, _, r, h, _⟩ := h
    rw [r.len]
    exact len c ds P X h
  · obtain ⟨c, Fr, ds, P, X, ex, m, r, h, q, qe⟩ := h
    obtain ⟨t, ht, hs⟩ := hbody cdv A outer s H E hr
    refine ⟨t, ht, ?_⟩
    refine hs c Fr ds P X h (fun ρ => Wish.out qe) (L2.start Ns vs) Fr H _ ⟨Gs.refl ex m, slots_start r⟩ (fun σ' ρ' F' H' a _ p => ?_) (fun v d F' H' g r p => q v d F' H' g.toGo r p) (fun _ _ _ _ _ _ p => p.elim) (fun _ _ _ _ _ _ p => p.elim)
    exact q .non .non F' H' a.g.toGo .non p
end
end VL

set_option Elab.async false
set_option linter.all false
set_option maxRecDepth 100000
/-! try .. except C as n, over data; methods that may raise within a try -/
namespace VL
open PySem PySem.Spec L2
open Evl (Ex)
section
variable {K : PySem.W.Frag} {c : Cfg} {S : Addr → Prop} {F0 H0 : Hp} {ρ ρw : List SV} {N : Fi} {te ta : TE} {P X : DV → Prop} {C : Addr} {fld : Str}
theorem Slots.own {B B' : Addr → Prop} {F H : Hp} {σ : St} (s : Slots K c B F H σ ρ) (h : ∀ l, B l → B' l) : Slots K c B' F H σ ρ := by
  refine ⟨s.len, fun i x e => ?_, s.dj⟩
  obtain ⟨v, e1, q⟩ := s.ok i x e
  refine ⟨v, e1, ?_⟩
  cases x with
  | non => exact q
  | any => trivial
  | d y => exact q
  | own y =>
    obtain ⟨l, o, q1, q2, q3, q4, ⟨q5, q6⟩, q7⟩ := q
    exact ⟨l, o, q1, q2, q3, q4, ⟨h l q5, q6⟩, q7⟩
/-- here as a new start -/
theorem At.base {F H : Hp} {σ : St} (a : At K c S F0 H0 F H σ ρ) : At K c (VL.Own S H0) F H F H σ ρ := ⟨Gs.refl a.g.fh a.g.m, a.s.own fun _ h => .inr h⟩
theorem At.unbase {F H F' H' : Hp} {σ σ' : St} {ρ' : List SV} (a : At K c S F0 H0 F H σ ρ) (b : At K c (VL.Own S H0) F H F' H' σ' ρ') : At K c S F0 H0 F' H' σ' ρ' := by
  have g : Gs c S F0 H0 F' H' := by
    refine ⟨a.g.ff.trans b.g.ff, b.g.fh, fun x o q t s => ?_, fun x o q => ?_, fun x o q z => ?_, b.g.m⟩
    · refine b.g.hh x o (a.g.hh x o q t s) t fun w => ?_
      rcases w with w | w
      · rw [q] at w; cases w
      · exact s w
    · cases y : H x with
      | none => exact absurd y (a.g.dom x o q)
      | some o1 => exact b.g.dom x o1 y
    · cases y : H x with
      | none => exact absurd y (a.g.dom x o q)
      | some o1 => exact b.g.fr x o1 y (a.g.fr x o q z)
  refine ⟨g, b.s.own fun l h => ?_⟩
  rcases h with h | h
  · cases y : H0 l with
    | none => exact .inl y
    | some o => exact absurd h (a.g.dom l o y)
  · exact h
theorem Gs.unbase {F H F' H' : Hp} {σ : St} (a : At K c S F0 H0 F H σ ρ) (b : Gs c (VL.Own S H0) F H F' H') : Gs c S F0 H0 F' H' := by
  refine ⟨a.g.ff.trans b.ff, b.fh, fun x o q t s => ?_, fun x o q => ?_, fun x o q z => ?_, b.m⟩
  · refine b.hh x o (a.g.hh x o q t s) t fun w => ?_
    rcases w with w | w
    · rw [q] at w; cases w
    · exact s w
  · cases y : H x with
    | none => exact absurd y (a.g.dom x o q)
    | some o1 => exact b.dom x o1 y
  · cases y : H x with
    | none => exact absurd y (a.g.dom x o q)
    | some o1 => exact b.fr x o1 y (a.g.fr x o q z)
/-- try: body except C as n (slot i): suite -/
theorem sx_tryAs {i : Nat} {tb : WX → TS} {ts : Addr → Value → Option Addr → TS} {Wout : WX} (hx : PySem.W.exmOne K (.ref C) (.ref C) = some true)
    (hb : ∀ F H W, Wish K c (VL.Own S H0) F H ρw C fld X W → Sx K c (VL.Own S H0) F H (tb W) ρ N)
    (hs : ∀ (S' : Addr → Prop) a e v d F1 H1, Rel K F1 v d → X d → H1 e = some (.xd [(fld, v)]) → ¬ c.T e → Sx K c S' F1 H1 (ts a (.ref C) (some e)) (ρw.set i (.d (.adr a))) { nx := fun ρ' => N.nx (ρ'.set i .non), rt := N.rt, bk := fun ρ' => N.bk (ρ'.set i .non), ct := fun ρ' => N.ct (ρ'.set i .non) }) :
    Sx K c S F0 H0 (fun D σ H => tb (wAs K (.ref C) i ts Wout D) D σ H) ρ N := fun σ F H D a k1 k2 k3 k4 => by
  refine hb F H (wAs K (.ref C) i ts Wout D) (fun σ2 e v d F2 H2 a2 r x he ht => ⟨true, hx, fun _ ad had => ?_, fun z => nomatch z⟩) σ F H D a.base
    (fun σ' ρ' F' H' b ex p => k1 σ' ρ' F' H' (a.unbase b) ex p) (fun v d F' H' g r p => k2 v d F' H' (Gs.unbase a g) r p) (fun σ' ρ' F' H' b ex p => k3 σ' ρ' F' H' (a.unbase b) ex p) (fun σ' ρ' F' H' b ex p => k4 σ' ρ' F' H' (a.unbase b) ex p)
  have a3 := a2.base
  have fin : ∀ {σ' ρ' F' H'}, At K c (VL.Own (VL.Own S H0) H) F2 H2 F' H' σ' ρ' → At K c S F0 H0 F' H' (σ'.set i none) (ρ'.set i .non) := fun b => by
    have q := a.unbase (a2.unbase b)
    exact ⟨q.g, q.s.wipe1 i⟩
  exact hs _ ad e v d F2 H2 r x he ht (σ2.set i (some (.ref ad))) F2 H2 _ ⟨a3.g, a3.s.put i (.adr ad)⟩
    (fun σ' ρ' F' H' b ex p => k1 _ _ F' H' (fin b) (a2.g.ff.trans ex) p) (fun v' d' F' H' g r' p => k2 v' d' F' H' (Gs.unbase a (Gs.unbase a2 g)) r' p)
    (fun σ' ρ' F' H' b ex p => k3 _ _ F' H' (fin b) (a2.g.ff.trans ex) p) (fun σ' ρ' F' H' b ex p => k4 _ _ F' H' (fin b) (a2.g.ff.trans ex) p)
end
/-- o.m(e, ..) where what is wished of an error may speak of the slots -/
def tMethW (C : Addr) (m : Str) (sp : Sp) (E : St → XK) (ta : TE) (t : TA) : TE := fun σ H Q => ta σ H fun x H1 => ∃ a dx fs, x = .ref a ∧ H1 a = some (.ins C dx fs) ∧ fs.lookup m = none ∧ t σ H1 fun vs H2 => sp (.ref a :: vs) H2 Q (E σ)
section
variable {X : Cx} {CX : CXT} {k : Nat} {f C : Addr} {fd : FuncData} {ps : List Str} {sp : Sp} {E : St → XK} {m : Str} {pos apos : Pos} {e o : Expr} {es : List Expr} {ta : TE} {t : TA}
theorem pe_methW {pl : Sem Bool} (he : PE X o ta) (cl : Cls X.K C) (hm : Meth X.K C m f) (F : FnOk X.prog X.w X.K X.mg X.base CX k f fd ps sp) (hr : Room k X.A) (hb : Binds X.K fd ps []) (hx : ∀ σ, PassesAt CX X σ (E σ)) (ha : PA X (e :: es) t)
    (h1 : starEach (e :: es) X.env = (false, eval e X.env) :: starEach es X.env := by rfl) (h2 : (backTo pos (starEach es X.env)).any (·.1) = false := by rfl)
    (h3 : eval (.Call (.Attribute o m apos) (e :: es) [] pos) X.env = (do
      let ov ← eval o X.env
      standAt apos.atName
      let (f, first) ← holding [ov] (getMethod ov m pl)
      callWith pos f first (backTo pos (starEach (e :: es) X.env)) (backToKw pos (keywordEach [] X.env))) := by rfl) :
    PE X (.Call (.Attribute o m apos) (e :: es) [] pos) (tMethW C m sp E ta t) := by
  refine ⟨fun pins s σ H Q I h => ?_⟩
  refine PySem.W.methodCall_KW (pl := pl) (thn (he.run pins s σ H _ I h) fun u s1 hh => ?_) h3
  obtain ⟨x, H1, I1, rx, a, dx, fs, ex, ea, l, q⟩ := hh
  subst ex
  obtain rfl : u = Value.ref a := rx
  refine getmeth_ok I1 ea cl hm l ?_
  refine PySem.W.callWith_K (first := [.ref a]) (h₀ := X.base) I.ok.mod.kin hm.kp (thn (ha.run pos pins s1 σ H1 _ I1 q) fun us s2 hh => ?_) h1 h2
  obtain ⟨vs, H2, I2, r, q2⟩ := hh
  exact ⟨I2.kIn, run_fnS (us := .ref a :: us) (vs := .ref a :: vs) F hr hb (hx σ) I2 (.cons rfl r) q2⟩
end
section
variable {K : PySem.W.Frag} {c : Cfg} {S : Addr → Prop} {F0 H0 : Hp} {ρ : List SV} {N : Fi} {P X : DV → Prop} {C Ce : Addr} {fld : Str}
/-- an __init__ that may let an error out -/
def SpIE (K : PySem.W.Frag) (C Ce : Addr) (fld : Str) (g : Cfg → List DV → (List (Str × DV) → Prop) → (DV → Prop) → Prop) : Sp := fun vs H Q E => ∃ (c : Cfg) (F : Hp) (ds : List DV) (Pf : List (Str × DV) → Prop) (X : DV → Prop) (x dx : Addr) (us : List V),
  vs = .ref x :: us ∧ H x = some (.ins C dx []) ∧ F x = none ∧ ¬ c.T x ∧ Ex F H ∧ c.M F H ∧ RelA K F us ds ∧ g c ds Pf X ∧
  (∀ fs dx' ws F' H', Gs c (fun a => a = x) F H F' H' → H' x = some (.ins C dx' ws) → F' x = none → RelF K F' ws fs → Pf fs → Q .non H') ∧
  ∀ e v d F' H', Gs c (fun a => a = x) F H F' H' → Rel K F' v d → X d → H' e = some (.xd [(fld, v)]) → ¬ c.T e → E (.ref Ce) (some e) H'
theorem es_make {g : Cfg → List DV → (List (Str × DV) → Prop) → (DV → Prop) → Prop} {E : XK} {tl : TA} (hw : Wish K c S F0 H0 ρ Ce fld X fun cls d _ H => E cls d H) (h : EvA K c tl ρ fun ds => g c ds (fun fs => P (.ins C fs)) X) :
    EvS K c S F0 H0 (tMake C (SpIE K C Ce fld g) [] E tl) ρ P := fun σ F H a0 Q q =>
  h _ σ F H a0.s a0.g.fh a0.g.m _ fun vs ds F1 H1 g1 r1 h1 => by
    intro x dx nx ndx hne
    have fx : F1 x = none := none_of_ex g1.fh nx
    have tx : ¬ c.T x := fun t => c.al F1 H1 x g1.m t nx
    have keep : ∀ a u, H1 a = some u → (upd (upd H1 dx (.own x)) x (.ins C dx [])) a = some u := fun a u e => by
      rw [upd_ne (ne_of_none e nx), upd_ne (ne_of_none e ndx)]
      exact e
    have out : ∀ {F2 H2}, Gs c (fun a => a = x) F1 (upd (upd H1 dx (.own x)) x (.ins C dx [])) F2 H2 → Go c F1 H1 F2 H2 := fun g2 =>
      ⟨g2.ff, g2.fh, fun a u e t => g2.hh a u (keep a u e) t (fun z => absurd e (by rw [z, nx]; exact fun y => nomatch y)), fun a u e => g2.dom a u (keep a u e), fun a u e z => g2.fr a u (keep a u e) z, g2.m⟩
    refine ⟨c, F1, ds, _, X, x, dx, vs, by rw [List.append_nil], upd_same, fx, tx, fun a u e => keep a u (g1.fh a u e), c.st _ _ _ _ (fun a u _ e => keep a u e) (fun _ _ e => e) g1.m, r1, h1, fun fs dx' ws F2 H2 g2 hx f2 rf p => ⟨rfl, ?_⟩,
      fun e v d F2 H2 g2 r2 xx he ht => hw σ e v d F2 H2 (a0.go (g1.trans (out g2))) r2 xx he ht⟩
    have e2 : Ex F2 (upd F2 x (.ins C dx' ws)) := Evl.Ex.new f2
    exact q _ _ _ _ (g1.trans (go_still g1.m (out g2) hx nx f2)) (.ins upd_same (rf.mono e2)) p
theorem ev_makeE {g : Cfg → List DV → (List (Str × DV) → Prop) → (DV → Prop) → Prop} {E : XK} {tl : TA} (h : EvA K c tl ρ fun ds => g c ds (fun fs => P (.ins C fs)) fun _ => False) : Ev K c (tMake C (SpIE K C Ce fld g) [] E tl) ρ P := fun B σ F H s ex mm Q q =>
  h B σ F H s ex mm _ fun vs ds F1 H1 g1 r1 h1 => by
    intro x dx nx ndx hne
    have fx : F1 x = none := none_of_ex g1.fh nx
    have tx : ¬ c.T x := fun t => c.al F1 H1 x g1.m t nx
    have keep : ∀ a u, H1 a = some u → (upd (upd H1 dx (.own x)) x (.ins C dx [])) a = some u := fun a u e => by
      rw [upd_ne (ne_of_none e nx), upd_ne (ne_of_none e ndx)]
      exact e
    have out : ∀ {F2 H2}, Gs c (fun a => a = x) F1 (upd (upd H1 dx (.own x)) x (.ins C dx [])) F2 H2 → Go c F1 H1 F2 H2 := fun g2 =>
      ⟨g2.ff, g2.fh, fun a u e t => g2.hh a u (keep a u e) t (fun z => absurd e (by rw [z, nx]; exact fun y => nomatch y)), fun a u e => g2.dom a u (keep a u e), fun a u e z => g2.fr a u (keep a u e) z, g2.m⟩
    exact ⟨c, F1, ds, _, _, x, dx, vs, by rw [List.append_nil], upd_same, fx, tx, fun a u e => keep a u (g1.fh a u e), c.st _ _ _ _ (fun a u _ e => keep a u e) (fun _ _ e => e) g1.m, r1, h1, fun fs dx' ws F2 H2 g2 hx f2 rf p => ⟨rfl, q _ _ _ _ (g1.trans (go_still g1.m (out g2) hx nx f2)) (.ins upd_same (rf.mono (Evl.Ex.new f2))) p⟩, fun _ _ _ _ _ _ _ xx _ _ => xx.elim⟩
theorem fn_initE {Pg : Program} {w : World} {mg : Str → Option Value} {base : Heap} {x qual : Str} {st : Stmt} {fa : Addr} {fd : FuncData} {Ns ps : List Str} {k : Nat} {g : Cfg → List DV → (List (Str × DV) → Prop) → (DV → Prop) → Prop} (F : Fun K x qual st fa fd) (Sc : FnScope Ns ps (defScope st)) (len : ∀ c ds P X, g c ds P X → ds.length + 1 = ps.length)
    (hbody : ∀ (cdv : Value) (A : Around) (outer : List Env) (s : Shared) (H : Hp) (E : XK), Room k (A.deeper (PyProof.Rows.envOfC qual (defScope st) s.heap.objs.size fa cdv)) →
      ∃ t, PSs (cxOf (L2.CX Pg w) Pg w K mg base Ns qual (defScope st) fa cdv A outer s H E) (defBody st) t ∧ ∀ (c : Cfg) (F : Hp) (a : Addr) (ds : List DV) (P : List (Str × DV) → Prop) (X : DV → Prop), g c ds P X → (∀ ρ, Wish K c (fun b => b = a) F H ρ Ce fld X fun cls d _ H => E cls d H) →
        Sx K c (fun b => b = a) F H t (.own (.obj a C []) :: ds.map .d ++ List.replicate (Ns.length - (ds.length + 1)) .non) { nx := fun ρ' => ∃ fs, P fs ∧ ρ'[0]? = some (.own (.obj a C fs)) }) :
    FnOk Pg w K mg base (L2.CX Pg w) (k + 1) fa fd ps (SpIE K C Ce fld g) := by
  refine F.okX Sc (fun vs H Q E h => ?_) (fun cdv A outer s H vs Q E hr h => ?_)
  · obtain ⟨c, Fr, ds, P, X, x, dx, us, rfl, _, _, _, _, _, r, h, _⟩ := h
    rw [List.length_cons, r.len]
    exact len c ds P X h
  · obtain ⟨c, Fr, ds, P, X, x, dx, us, rfl, hx, fx, tx, ex, m, r, h, q, qe⟩ := h
    obtain ⟨t, ht, hs⟩ := hbody cdv A outer s H E hr
    refine ⟨t, ht, ?_⟩
    refine hs c Fr x ds P X h (fun ρ σ e v d F' H' a r x he ht => qe e v d F' H' a.g r x he ht) (L2.start Ns (.ref x :: us)) Fr H _ ⟨Gs.refl ex m, slots_init r hx fx tx (.inr rfl)⟩ (fun σ' ρ' F' H' a _ p => ?_) (fun _ _ _ _ _ _ p => p.elim) (fun _ _ _ _ _ _ p => p.elim) (fun _ _ _ _ _ _ p => p.elim)
    obtain ⟨fs, pf, e⟩ := p
    obtain ⟨l, o, e1, f1, f2, f3, f4, f5, f6⟩ := a.own e
    have hl : l = x := f5
    subst hl
    cases o with
    | ins C' dx' ws =>
      obtain ⟨e2, rf⟩ := f6
      subst e2
      exact q fs dx' ws F' H' a.g f1 f2 rf pf
    | _ => exact absurd f6 (fun z => z)
end
end VL

set_option Elab.async false
set_option linter.all false
set_option maxRecDepth 100000
/-! dicts of one's own, keyed by ints and texts -/
namespace VL
open PySem PySem.Spec L2
open Evl (Ex)
/-- what stands behind a key -/
def valD : List (Key × DV) → Key → Option DV
  | [], _ => none
  | (j, d) :: r, k => if j = k then some d else valD r k
def hasD : List (Key × DV) → Key → Bool
  | [], _ => false
  | (j, _) :: r, k => if j = k then true else hasD r k
/-- in its place, or at the end -/
def putKD (kvs : List (Key × DV)) (k : Key) (d : DV) : List (Key × DV) := if hasD kvs k = true then kvs.map fun p => if p.1 = k then (p.1, d) else p else kvs ++ [(k, d)]
section
variable {K : PySem.W.Frag} {F : Hp}
theorem RelKV.len {vs : List (Key × V)} {ds : List (Key × DV)} (r : RelKV K F vs ds) : vs.length = ds.length := by
  induction r with
  | nil => rfl
  | cons _ _ ih => rw [List.length_cons, List.length_cons, ih]
theorem RelKV.val {k : Key} {vs : List (Key × V)} {ds : List (Key × DV)} (r : RelKV K F vs ds) : (∃ v d, valV vs k = some v ∧ valD ds k = some d ∧ Rel K F v d) ∨ (valV vs k = none ∧ valD ds k = none) := by
  induction r with
  | nil => exact .inr ⟨rfl, rfl⟩
  | @cons p q vs ds h _ ih =>
    obtain ⟨p1, p2⟩ := p
    obtain ⟨q1, q2⟩ := q
    obtain ⟨rfl, h2⟩ : p1 = q1 ∧ Rel K F p2 q2 := h
    by_cases e : p1 = k
    · exact .inl ⟨p2, q2, valV_pos e, if_pos e, h2⟩
    · rw [valV_neg e, show valD ((p1, q2) :: ds) k = valD ds k from if_neg e]
      exact ih
theorem RelKV.has {k : Key} {vs : List (Key × V)} {ds : List (Key × DV)} (r : RelKV K F vs ds) : (vs.any fun kv => decide (kv.1 = k)) = hasD ds k := by
  induction r with
  | nil => rfl
  | @cons p q vs ds h _ ih =>
    obtain ⟨p1, p2⟩ := p
    obtain ⟨q1, q2⟩ := q
    obtain ⟨rfl, h2⟩ : p1 = q1 ∧ Rel K F p2 q2 := h
    rw [List.any_cons, ih]
    show (decide (p1 = k) || hasD ds k) = if p1 = k then true else hasD ds k
    by_cases e : p1 = k
    · rw [decide_eq_true e, if_pos e, Bool.true_or]
    · rw [decide_eq_false e, if_neg e, Bool.false_or]
theorem RelKV.put {k : Key} {v : V} {d : DV} (rv : Rel K F v d) {vs : List (Key × V)} {ds : List (Key × DV)} (r : RelKV K F vs ds) : RelKV K F (putK vs k v) (putKD ds k d) := by
  have h := r.has (k := k)
  have key : RelKV K F (vs.map fun kv => if kv.1 = k then (kv.1, v) else kv) (ds.map fun p => if p.1 = k then (p.1, d) else p) := by
    clear h
    induction r with
    | nil => exact .nil
    | @cons p q vs ds h _ ih =>
      obtain ⟨p1, p2⟩ := p
      obtain ⟨q1, q2⟩ := q
      obtain ⟨rfl, h2⟩ : p1 = q1 ∧ Rel K F p2 q2 := h
      refine .cons ?_ ih
      show (if p1 = k then (p1, v) else (p1, p2)).1 = (if p1 = k then (p1, d) else (p1, q2)).1 ∧ Rel K F (if p1 = k then (p1, v) else (p1, p2)).2 (if p1 = k then (p1, d) else (p1, q2)).2
      by_cases e : p1 = k
      · rw [if_pos e, if_pos e]
        exact ⟨rfl, rv⟩
      · rw [if_neg e, if_neg e]
        exact ⟨rfl, h2⟩
  unfold putK putKD
  rw [h]
  cases hasD ds k with
  | true => exact key
  | false =>
    rw [if_neg Bool.false_ne_true, if_neg Bool.false_ne_true]
    exact Paired.snoc r ⟨rfl, rv⟩
end
section
variable {K : PySem.W.Frag} {c : Cfg} {S : Addr → Prop} {F0 H0 : Hp} {ρ : List SV} {N : Fi} {te ta tb ti : TE} {P : DV → Prop} {i : Nat} {kvs : List (Key × DV)}
/-- x = {} -/
theorem sx_dnew (h : N.nx (ρ.set i (.own (.dK [])))) : Sx K c S F0 H0 (tAsg tDNewK (gName i)) ρ N := fun σ F H D a k1 _ _ _ => fun p hp =>
  k1 _ _ F _ (a.new (Go.newM a.g.fh a.g.m hp) upd_same hp (none_of_ex a.g.fh hp) (show RelO K F (.dK []) (.dK []) from .nil) trivial i) (Ex.rfl' F) h
theorem At.dk {F H : Hp} {σ : St} (a : Slots K c S F H σ ρ) (e : ρ[i]? = some (.own (.dK kvs))) : ∃ l vs, σ[i]? = some (some (.ref l)) ∧ H l = some (.dK vs) ∧ RelKV K F vs kvs := by
  obtain ⟨v, e1, l, o, rfl, f1, f2, f3, _, r⟩ := a.ok i _ e
  cases o with
  | dK vs => exact ⟨l, vs, e1, f1, r⟩
  | _ => exact absurd r (fun z => z)
/-- x.get(k, z) -/
theorem ev_dget2 {tk tx : TE} (e : ρ[i]? = some (.own (.dK kvs))) (h : Ev K c tk ρ fun y => Ev K c tx ρ fun z => ∃ k : Int, y = .int k ∧ P ((valD kvs (.inl k)).getD z)) : Ev K c (tDGet2 (tVar i) tk tx) ρ P := fun B σ F H s ex m Q q => by
  obtain ⟨l, vs, e1, f1, r⟩ := At.dk s e
  refine ⟨_, e1, l, rfl, .inl ⟨vs, .inl f1⟩, ?_⟩
  refine h B σ F H s ex m _ fun w y F1 H1 g1 r1 h1 => h1 B σ F1 H1 (s.go g1) g1.fh g1.m _ fun u z F2 H2 g2 r2 h2 => ?_
  obtain ⟨k, rfl, p⟩ := h2
  cases r1
  obtain ⟨l', vs', e1', f1', r'⟩ := At.dk ((s.go g1).go g2) e
  rw [e1] at e1'
  cases e1'
  refine ⟨_, DGet.k (k := .inl k) f1', ?_⟩
  rcases r'.val (k := .inl k) with ⟨v, d, hv, hd, rv⟩ | ⟨hv, hd⟩
  · rw [hv]
    rw [hd] at p
    exact q v d F2 H2 (g1.trans g2) rv p
  · rw [hv]
    rw [hd] at p
    exact q u z F2 H2 (g1.trans g2) r2 p
/-- x[k] = e -/
theorem sx_dput {tk : TE} (e : ρ[i]? = some (.own (.dK kvs))) (h : Ev K c te ρ fun d => Ev K c tk ρ fun y => ∃ k : Int, y = .int k ∧ kvs.length < 1000000 ∧ N.nx (ρ.set i (.own (.dK (putKD kvs (.inl k) d))))) :
    Sx K c S F0 H0 (sDPut (tVar i) tk te) ρ N := fun σ F H D a k1 _ _ _ =>
  h _ σ F H a.s a.g.fh a.g.m _ fun v d F1 H1 g1 r1 h1 => by
    obtain ⟨l, vs, e1, _, _⟩ := At.dk a.s e
    refine ⟨_, e1, h1 _ σ F1 H1 (a.go g1).s g1.fh g1.m _ fun w y F2 H2 g2 r2 h2 => ?_⟩
    obtain ⟨k, rfl, hz, p⟩ := h2
    cases r2
    obtain ⟨l', o', e1', f1, f2, f3, f4, f5, f6⟩ := ((a.go g1).go g2).own e
    rw [e1] at e1'
    cases e1'
    cases o' with
    | dK vs' =>
      have r : RelKV K F2 vs' kvs := f6
      refine ⟨l, _, rfl, DPut.k (k := .inl k) f1 (by rw [r.len]; exact Nat.lt_of_lt_of_le hz (by decide)), ?_⟩
      exact k1 σ _ F2 _ (((a.go g1).go g2).change e e1 f2 f3 f4 (y := .dK (putKD kvs (.inl k) d)) f5 (show RelKV K F2 _ _ from r.put (r1.mono g2.ff)) ⟨_, f1⟩) (g1.ff.trans g2.ff) p
    | _ => exact absurd f6 (fun z => z)
end
end VL

set_option Elab.async false
set_option linter.all false
set_option maxRecDepth 100000
set_option maxHeartbeats 2000000
namespace PySem
namespace BadPointX
open PySem.W PySem.Calls PyProof.Rows PySem.HandSPX
/-! ### the text of __init__ -/
def iA (p1 p2 : Pos) : Arguments := { posonlyargs := [], args := [{ arg := "self", annotation := none, pos := p1 }, { arg := "point", annotation := none, pos := p2 }], vararg := none, kwonlyargs := [], kw_defaults := [], kwarg := none, defaults := [] }
def iB (q1 q2 q3 q4 : Pos) : List Stmt := [.Assign [.Attribute (.Name "self" q1) "point" q2] (.Name "point" q3) q4]
def iS : Scope := { kind := .function, names := [(PySem.Str.ofString "self", .local), (PySem.Str.ofString "point", .local)], isGenerator := false, isCoroutine := false, more := [] }
/-! ### one own class, then Exception's -/
def underEx : List Value → Bool
  | [.ref _, .type x, .type y, .type z] => x == "Exception" && y == "BaseException" && z == "object"
  | _ => false
theorem underEx_is {l : List Value} (h : underEx l = true) : ∃ D, l = .ref D :: [.type "Exception", .type "BaseException", .type "object"] := by
  unfold underEx at h
  split at h
  · rename_i D x y z
    rw [Bool.and_eq_true, Bool.and_eq_true, beq_iff_eq, beq_iff_eq, beq_iff_eq] at h
    obtain ⟨⟨rfl, rfl⟩, rfl⟩ := h
    exact ⟨D, rfl⟩
  · cases h
theorem underEx_has {l : List Value} (h : underEx l = true) (X : String) : l.contains (.type X) = ([.type "Exception", .type "BaseException", .type "object"] : List Value).contains (.type X) := by
  obtain ⟨D, rfl⟩ := underEx_is h
  rw [List.contains_cons]
  rfl
section
open Builtin Builtin.ObjectAttr
variable {prog : Program} {w : World} {A : Around} {R : Result → Shared → Prop} {hp : Heap} {g : Array GenState} {d : Drawn} {t : Nat} {os : OsState}
/-- the first field that such an exception is given -/
theorem first_field {K : Frag} {name : Str} {tk : Tok} {v : Value} {x C : Addr} {fv : Array Value} {cd : ClassData} {bm : List Value}
    (X : K.In hp) (hx : hp.get? x = some { cls := .ref C, data := .fields fv }) (hcd : clsIn K C = some cd) (hm : cd.mro = .ref C :: bm) (hb : underEx bm = true) (hh : cd.hasDict = true) (ha : findIn K (.ref C) name = some none)
    (hq : ∀ h' tk' dx, (∀ b o, b ≠ x → hp.get? b = some o → h'.get? b = some o) → hp.objs.size ≤ dx → dx ≠ x → h'.get? x = some { cls := .ref C, dict := some dx, data := .fields fv } →
      h'.Ns1 dx (fun y => if y = name then some v else none) → R (.ok (.ret .none)) ⟨h', g, d, tk', os⟩) :
    codeAny (model prog w) A (.call (.builtin "object.__setattr__") ⟨[.ref x, .str name tk, v], []⟩) R ⟨hp, g, d, t, os⟩ := by
  obtain ⟨D, rfl⟩ := underEx_is hb
  have at_x : InstAt hp x { cls := .ref C, data := .fields fv } C none := ⟨hx, rfl, rfl, trivial⟩
  have apart : x ≠ hp.objs.size := Nat.ne_of_lt (Heap.lt_size hx)
  have facts := F.store_object
  have isObj : mroIn K C (.type "object") = some true := by
    unfold mroIn
    rw [hcd, Option.bind_some, hm]
    rfl
  have below : Looks (model prog w) hp (isInstance (.ref x) (.type "object")) true := at_x.type.andThen (looks_mroIn X isObj)
  refine codeAny_call_builtin facts.slot.plain facts.entry (@check_slot (model prog w) _ _ ⟨hp, g, d, t, os⟩ "object.__setattr__" "object" "__setattr__" (.ref x) [.str name tk, v] [] _ facts.kind facts.split below (facts.args (.ref x) (.str name tk) v) ?_)
  have mros : Looks (model prog w) hp (mroOf (.ref C)) cd.mro := (looks_clsIn X hcd).andThen .now
  have nobody : Looks (model prog w) hp (storeTaker? none) none := .now
  have goes : refuseLoop (.ref x) "__setattr__" cd.mro = pure () := by
    rw [hm, refuseLoop_ref, refuseLoop_ref]
    exact F.store_Exception.passes _
  rw [osa_eq, refuse_eq]
  refine wpAny_bind (wpAny_bind (at_x.type.at (wpAny_bind (mros.at ?_))))
  rw [goes]
  refine wpAny_pure (wpAny_bind (at_x.type.at (wpAny_bind ((looks_findIn X ha).at (wpAny_bind (nobody.at ?_))))))
  show wpAny _ _ (storeInOwnDict (.ref x) (.ref C) (.str name tk) name v false) _ _ _
  have clsAt : Looks (model prog w) hp (classData C) cd := looks_clsIn X hcd
  obtain ⟨_, _, _, _, _, hd, _, _, _, _, _⟩ := cd
  dsimp only at hh
  subst hh
  unfold storeInOwnDict ownDictForStores
  repeat (first | with_reducible refine store_in_new ?_ ?_ | with_reducible refine wpAny_loadPart_at hx ?_ | with_reducible refine clsAt.at ?_ | wp_step)
  · exact ⟨_, #[], _, (Heap.get?_update_ne _ _ _ _ apart.symm).trans (Heap.get?_push_at rfl rfl), rfl, fun e he => absurd he (by simp), fun _ => rfl⟩
  · intro h1 tk1 n1 same
    have still : (hp.push { cls := .type "dict", data := .dict #[] }).get? x = some { cls := .ref C, data := .fields fv } := Heap.get?_push_of_some _ hx
    refine hq h1 tk1 hp.objs.size (fun b o hb ho => ?_) (Nat.le_refl _) apart.symm ?_ n1
    · rw [same.2 b (Nat.ne_of_lt (Heap.lt_size ho)), Heap.get?_update_ne _ _ _ _ hb]
      exact Heap.get?_push_of_some _ ho
    · rw [same.2 x apart]
      exact Heap.get?_update_self _ still rfl
end
/-- what the written part says of Low, at C, and of its __init__, at fI -/
structure BadPointTxt (K : Frag) (mg : Str → Option Value) (C fI : Addr) : Prop where
  gC : mg "BadPoint" = some (.ref C)
  cls : ∃ nm q N bs bm sn sub ab col dd k0 k1 k2 k3 k5, K.lookup C = some (excClassObj nm q C N bs bm true sn sub ab col dd k0 k1 k2 k3 k5 "Exception.__new__") ∧ underEx bm = true
  sa : findIn K (.ref C) "__setattr__" = some (some (.builtin "object.__setattr__"))
  ga : findIn K (.ref C) "__getattribute__" = some (some (.builtin "BaseException.__getattribute__"))
  gg : findIn K (.ref C) "__getattr__" = some none
  noN : findIn K (.ref C) "point" = some none
  iC : findIn K (.ref C) "__init__" = some (some (.ref fI))
  tC : typeIn K (.ref fI) = some (.type "function")
  kC : keepIn K (.ref C) = true
  exC : subIn K (.ref C) (.type "BaseException") = some true
  tyC : typeIn K (.ref C) = some (.type "type")
  hdC : hasDictIn K C = true
  te : exmOne K (.ref C) (.ref C) = some true
  fn : ∃ (oc : Value) (od : Option Addr) (doc pm : Value) (an : Option Addr) (cdv ct : Value) (osl : Array (Option Value)) (p1 p2 q1 q2 q3 q4 : Pos),
    K.lookup fI = some ⟨oc, od, .func (fnOf "__init__" "BadPoint.__init__" (iA p1 p2) (iB q1 q2 q3 q4) iS .none .none doc pm an cdv ct), osl⟩ ∧ codeIn K cdv "BadPoint.__init__" = true
theorem one_size (v : Value) : [v].length ≤ sizeLine := by
  rw [sizeLine_eq]
  exact (by decide : 1 ≤ 16777216)
theorem kept_but {K : Frag} {h h' : Heap} {x : Addr} (X : K.In h) (hx : K.lookup x = none) (k : ∀ b o, b ≠ x → h.get? b = some o → h'.get? b = some o) : K.In h' := fun a o e =>
  k a o (fun z => by rw [z, hx] at e; cases e) (X a o e)
theorem ldC {M : Model} {s : Shared} {name : Str} {scope : Scope} {L a : Addr} {cd : Value} {m : Str → Option Value} {x : Str} {pos : Pos} {v : Value} {Q : Value → Shared → Prop} {A : Around} {E : Value → Shared → Prop} (hn : s.heap.Ns L m) (hv : m x = some v) (h : Q v s)
    (hk : scope.kind = .function := by rfl) (hl : (envOfC name scope L a cd).kindOf x = some .local := by rfl) (hd : (x == ("__debug__" : Str)) = false := by decide) :
    wpAny M A (eval (.Name x pos) (envOfC name scope L a cd)) Q E s := wpAny_Name (wpAny_loadName_local hk hl hn hv h) hd
/-- what __init__ leaves of a fresh exception at x -/
structure InitEnd (h h' : Heap) (x C dx t1 : Addr) (v : Value) : Prop where
  keep : ∀ b o, b ≠ x → h.get? b = some o → h'.get? b = some o
  obj : h'.get? x = some { cls := .ref C, dict := some dx, data := .fields #[.ref t1, .none, .none, .none, .bool false, .none] }
  dbig : h.objs.size ≤ dx
  dne : dx ≠ x
  ns : h'.Ns1 dx (fun y => if y = "point" then some v else none)
/-- a made Low -/
structure OwnMade (h h' : Heap) (e C d : Addr) (v : Value) : Prop where
  keep : ∀ b o, h.get? b = some o → h'.get? b = some o
  new : h.objs.size ≤ e
  obj : ∃ oe vs, h'.get? e = some oe ∧ oe.cls = .ref C ∧ oe.dict = some d ∧ oe.data = .fields vs ∧ vs[1]? = some .none
  dbig : h.objs.size ≤ d
  dne : d ≠ e
  ns : h'.Ns1 d (fun y => if y = "point" then some v else none)
section
variable {prog : Program} {w : World} {A : Around} {E : Value → Shared → Prop} {R : Result → Shared → Prop} {s : Shared} {K : Frag} {mg : Str → Option Value} {C fI : Addr}
theorem low_init (T : BadPointTxt K mg C fI) {x t0 : Addr} {v : Value} (X : K.In s.heap) (hlim : s.heap.NoLimit) (hx : s.heap.get? x = some (excO C t0)) (hnx : K.lookup x = none) (hroom : A.depth < recursionLimit)
    (hq : ∀ h' tk dx, InitEnd s.heap h' x C dx t0 v → R (.ok (.ret .none)) { s with heap := h', toks := tk }) :
    codeAny (model prog w) A (.call (.ref fI) ⟨[.ref x, v], []⟩) R s := by
  obtain ⟨oc, od, doc, pm, an, cdv, ct, osl, p1, p2, q1, q2, q3, q4, ho, hcd⟩ := T.fn
  obtain ⟨nm, q, N, bs, bm, sn, sub, ab, col, dd, k0, k1, k2, k3, k5, hC, hbm⟩ := T.cls
  have hcl : clsIn K C = some { name := nm, bases := bs, mro := .ref C :: bm, ns := N, qualname := q, hasDict := true, slotNames := sn, subclasses := sub, abstract := ab, collection := col, hasDel := false } := by unfold clsIn; rw [hC] <;> rfl
  refine Att.call_fn (binds := [("self", .ref x), ("point", v)]) X hlim ho hcd hroom (BindsTo.of_eq (by first | rfl | with_unfolding_all rfl)) (by first | rfl | decide | with_unfolding_all rfl) (fun s₁ IC => ?_) rfl rfl rfl
  obtain ⟨h₁, tk₁, rfl⟩ := IC.toInCall.same
  have k : ∀ b o, s.heap.get? b = some o → h₁.get? b = some o := IC.toInCall.keep
  have hn := IC.toInCall.ns
  have hxL : s.heap.objs.size ≠ x := Nat.ne_of_gt (Heap.lt_size hx)
  have X₁ : K.In h₁ := X.keeps k
  have hx₁ := k _ _ hx
  -- self.by = by
  show wpAny _ _ (execs _ _) _ _ _
  refine wpAny_execs_cons (plainObj_wpAny_Assign_Attribute ?_)
  refine ldC (v := v) hn (by first | rfl | with_unfolding_all rfl | kernel_rfl) (ldC (v := .ref x) hn (by first | rfl | with_unfolding_all rfl | kernel_rfl) ?_)
  refine set_plain X₁ (ox := excO C t0) (od := none) ⟨hx₁, rfl, rfl, trivial⟩ T.sa ?_
  refine first_field X₁ hx₁ hcl rfl hbm rfl T.noN (fun h₃ tk₃ dx k₃ dn dne hx₃ hn₃ => ?_)
  show wpAny _ _ (execs _ _) _ _ _
  have z : s.heap.objs.size < h₁.objs.size := hn.lt
  exact wpAny_execs_nil (hq h₃ tk₃ dx ⟨fun b o hb e => k₃ b o hb (k b o e), hx₃, Nat.le_of_lt (Nat.lt_of_lt_of_le z dn), dne, hn₃⟩)
theorem low_made (T : BadPointTxt K mg C fI) {v : Value} (X : K.In s.heap) (hlim : s.heap.NoLimit) (hroom : A.depth + 1 < recursionLimit)
    (hq : ∀ h' tk e d, OwnMade s.heap h' e C d v → R (.ok (.ret (.ref e))) { s with heap := h', toks := tk }) :
    codeAny (model prog w) A (.call (.ref C) ⟨[v], []⟩) R s := by
  obtain ⟨nm, q, N, bs, bm, sn, sub, ab, col, dd, k0, k1, k2, k3, k5, hC, hbm⟩ := T.cls
  obtain ⟨hp, g, dr, tk, os⟩ := s
  have k : ∀ b o, hp.get? b = some o → ((hp.push (kdv_tup [v])).push (excO C hp.objs.size)).get? b = some o := fun b o e => Heap.get?_push_of_some _ (Heap.get?_push_of_some _ e)
  have hget : ((hp.push (kdv_tup [v])).push (excO C hp.objs.size)).get? (hp.objs.size + 1) = some (excO C hp.objs.size) := by heap_get
  have hnx : K.lookup (hp.objs.size + 1) = none := by
    cases e : K.lookup (hp.objs.size + 1) with
    | none => rfl
    | some o =>
      have z : hp.get? (hp.objs.size + 1) = some o := X _ _ e
      exact absurd (Nat.lt_of_succ_lt (Heap.lt_size z)) (Nat.lt_irrefl _)
  refine call_own F.excBase_Exception (fun X => underEx_has hbm X) (X _ _ hC) (looks_findIn X T.iC) (fun self => bind_fn X self T.tC) (one_size v) ?_
  refine low_init (s := ⟨(hp.push (kdv_tup [v])).push (excO C hp.objs.size), g, dr, tk, os⟩) T (X.keeps k) (hlim.keeps k) hget hnx ?_ fun h' tk' dx ⟨k', hx, dn, dne, hns⟩ => ?_
  · show A.depth + 1 < recursionLimit
    exact hroom
  · have old : ∀ b o, hp.get? b = some o → h'.get? b = some o := fun b o e => k' b o (Nat.ne_of_lt (Nat.lt_succ_of_lt (Heap.lt_size e))) (k b o e)
    have z : hp.objs.size + 1 + 1 ≤ dx := by
      first
        | (simpa only [Heap.size_push] using dn)
        | exact dn
        | (have q := dn; rw [Heap.size_push, Heap.size_push] at q; exact q)
    exact ⟨rfl, hq h' tk' (hp.objs.size + 1) dx ⟨old, Nat.le_succ _, ⟨_, _, hx, rfl, rfl, rfl, rfl⟩, Nat.le_trans (Nat.le_trans (Nat.le_succ _) (Nat.le_succ _)) z, dne, hns⟩⟩
end
end BadPointX
end PySem
namespace L2
open PySem PySem.Spec PyProof.Rows
theorem relO_BadPoint {v : V} {v' : Value} (r : RelV v v') (f : Str) : RelO (List.lookup f [(("point" : Str), v)]) (if f = "point" then some v' else none) := by
  by_cases hw : f = "point"
  · subst hw
    rw [if_pos rfl]
    have q : List.lookup ("point" : Str) [(("point" : Str), v)] = some v := by simp [List.lookup]
    rw [q]
    exact r
  · rw [if_neg hw]
    have qw : (f == ("point" : Str)) = false := by simpa using hw
    have q2 : List.lookup f [(("point" : Str), v)] = none := by simp [List.lookup, qw]
    rw [q2]
    trivial
section
variable {X : Cx} {C fI : Addr}
/-- Low(e) -/
def tMkBadPoint (C : Addr) (ta : TA) : St → Hp → XK → Prop := fun σ H Q => ta σ H fun vs H1 => ∃ v, vs = [v] ∧ ∀ d, H1 d = none → Q (.ref C) (some d) (upd H1 d (.xd [(("point" : Str), v)]))
theorem pmk_BadPoint {a : Expr} {ta : TA} {p pos : Pos} {k : Nat} (T : PySem.BadPointX.BadPointTxt X.K X.mg C fI) (hr : Room k X.A) (ha : PA X [a] ta) (hg : Gl X "BadPoint" := by rfl)
    (he : starEach (a :: []) X.env = (false, eval a X.env) :: starEach [] X.env := by rfl) (hpl : (backTo pos (starEach [] X.env)).any (·.1) = false := by rfl) :
    PMk X (.Call (.Name "BadPoint" p) [a] [] pos) (tMkBadPoint C ta) := by
  intro pins s σ H Q I h
  refine wpAny_Call_Name_kw (ld_glob I hg T.gC ?_)
  refine PySem.W.callWith_K (h₀ := X.base) I.ok.mod.kin T.kC (thn (ha.run pos pins s σ H _ I h) fun us s1 hh => ?_) he hpl
  obtain ⟨vs, H1, I1, r1, v, ev, q1⟩ := hh
  subst ev
  refine ⟨I1.kIn, ?_⟩
  cases r1 with
  | cons rv rn =>
    rename_i v' us'
    cases rn
    show wpAny _ _ (call (.ref C) [v']) _ _ _
    have hlim := I1.nolimit
    obtain ⟨hp, g, dr, tk, os⟩ := s1
    refine wpAny_call (PySem.BadPointX.low_made T I1.kIn hlim (by have := hr.dp; omega) fun h' tk' e d M => ?_)
    show MkP X pins σ Q (.ref e) ⟨h', g, dr, tk', os⟩
    obtain ⟨oe, fv, hoe, hc, hd, hdat, h1⟩ := M.obj
    have hns := M.ns
    obtain ⟨G', g1, g2⟩ := restrict h' fun b => decide (b ≠ e)
    have gk : ∀ b, b ≠ e → G'.get? b = h'.get? b := fun b hb => g1 b (decide_eq_true hb)
    have ge : G'.get? e = none := g2 e (by simp)
    have old : ∀ b o, hp.get? b = some o → G'.get? b = some o := fun b o q => (gk b (Nat.ne_of_lt (Nat.lt_of_lt_of_le (Heap.lt_size q) M.new))).trans (M.keep b o q)
    have ob : ObjOk X.prog X.w (upd H1 d (.xd [(("point" : Str), v)])) G' d (.xd [(("point" : Str), v)]) :=
      ⟨_, hns.at (fun o q => (gk d M.dne).trans q), fun f => relO_BadPoint rv f⟩
    have J : Inv X pins σ (upd H1 d (.xd [(("point" : Str), v)])) ⟨G', g, dr, tk', os⟩ := I1.laid (t' := tk') old M.dbig ob
    refine ⟨e, oe, fv, ⟨G', g, dr, tk', os⟩, _, .ref C, some d, rfl, J, fun b o q => ?_, ge, hoe, ⟨hc, hd⟩, hdat, h1, ?_, rfl, I1.bare, raises_own T.exC T.tyC, q1 d (I1.hok.fresh M.dbig)⟩
    · by_cases hb : b = e
      · have q' : G'.get? b = some o := q
        rw [hb, ge] at q'; cases q'
      · exact (gk b hb).symm.trans q
    · rw [upd_ne (Ne.symm M.dne)]
      exact I1.hok.fresh M.new
/-- raise Low(e) -/
def tRaiseBadPoint (C : Addr) (W : WX) (ta : TA) : TS := fun _ σ H => tMkBadPoint C ta σ H fun cls d H' => W cls d σ H'
theorem ps_raiseBadPoint {a : Expr} {ta : TA} {W : WX} {p pos pos2 : Pos} {k : Nat} (hc : X.calm = true) (T : PySem.BadPointX.BadPointTxt X.K X.mg C fI) (hr : Room k X.A) (tk : Takes X W) (ha : PA X [a] ta) (hg : Gl X "BadPoint" := by rfl)
    (he : starEach (a :: []) X.env = (false, eval a X.env) :: starEach [] X.env := by rfl) (hpl : (backTo pos (starEach [] X.env)).any (·.1) = false := by rfl) :
    PS X (.Raise (some (.Call (.Name "BadPoint" p) [a] [] pos)) none pos2) (tRaiseBadPoint C W ta) := ps_raise hc tk (pmk_BadPoint T hr ha hg he hpl)
/-- low.by, low the exception that the suite holds (at a; its class cls, its dict d) -/
def tByBadPoint (C : Addr) (a : Addr) (cls : Value) (d : Option Addr) (te : TE) : TE := fun σ H Q => te σ H fun x H1 => x = .ref a ∧ cls = .ref C ∧ ∃ (dd : Addr) (v : V), d = some dd ∧ H1 dd = some (.xd [(("point" : Str), v)]) ∧ Q v H1
theorem pe_byBadPoint {a : Addr} {oe : Obj} {cls : Value} {d : Option Addr} {pn : List (Addr × Obj)} {e : Expr} {te : TE} {pos : Pos} (T : PySem.BadPointX.BadPointTxt X.K X.mg C fI) (hz : Zc cls d oe) (hf : ∃ vs, oe.data = .fields vs) (he : PE (X.suite a ((a, oe) :: pn)) e te)
    (hb : attributeBase e "point" X.env (eval e X.env) = eval e X.env := by rfl) :
    PE (X.suite a ((a, oe) :: pn)) (.Attribute e "point" pos) (tByBadPoint C a cls d te) := by
  refine ⟨fun pins s σ H Q I h => ?_⟩
  refine attr_of hb (thn (he.run pins s σ H _ I h) fun u s1 hh => ?_)
  obtain ⟨x, H1, I1, rx, ex, ec, dd, v, ed, ea, q⟩ := hh
  subst ex
  obtain rfl : u = Value.ref a := rx
  subst ec
  subst ed
  obtain ⟨ha, _⟩ := I1.pin (a, oe) (List.mem_append_left _ List.mem_cons_self)
  obtain ⟨vs, hd⟩ := hf
  have hx : ObjOk X.prog X.w H1 s1.heap dd (.xd [(("point" : Str), v)]) := I1.hok dd _ ea
  obtain ⟨mA, hns, hr⟩ := hx
  obtain ⟨od, ho, hl⟩ := lookIn_ns hns
  have l : List.lookup ("point" : Str) [(("point" : Str), v)] = some v := by simp [List.lookup]
  obtain ⟨u, hu, ru⟩ := RelO.some_of (v := v) (o := mA "point") (by rw [← l]; exact hr "point")
  have J : PySem.W.InstAt s1.heap a oe C (some od) := ⟨ha, hz.1, by unfold PySem.W.notCls; rw [hd] <;> rfl, by rw [hz.2]; exact ho⟩
  exact HandSPX.exc_get I1.kIn J T.ga T.gg T.exC (PySem.W.findObj_own T.hdC T.noN rfl (by rw [hl, hu])) (handed_of ru) ⟨v, H1, I1.tok _, ru, q⟩
end
end L2

set_option Elab.async false
set_option linter.all false
set_option maxRecDepth 100000
set_option maxHeartbeats 2000000
namespace PySem
namespace BadCodeX
open PySem.W PySem.Calls PyProof.Rows PySem.HandSPX
/-! ### the text of __init__ -/
def iA (p1 p2 : Pos) : Arguments := { posonlyargs := [], args := [{ arg := "self", annotation := none, pos := p1 }, { arg := "many", annotation := none, pos := p2 }], vararg := none, kwonlyargs := [], kw_defaults := [], kwarg := none, defaults := [] }
def iB (q1 q2 q3 q4 : Pos) : List Stmt := [.Assign [.Attribute (.Name "self" q1) "many" q2] (.Name "many" q3) q4]
def iS : Scope := { kind := .function, names := [(PySem.Str.ofString "self", .local), (PySem.Str.ofString "many", .local)], isGenerator := false, isCoroutine := false, more := [] }
/-! ### one own class, then Exception's -/
def underEx : List Value → Bool
  | [.ref _, .type x, .type y, .type z] => x == "Exception" && y == "BaseException" && z == "object"
  | _ => false
theorem underEx_is {l : List Value} (h : underEx l = true) : ∃ D, l = .ref D :: [.type "Exception", .type "BaseException", .type "object"] := by
  unfold underEx at h
  split at h
  · rename_i D x y z
    rw [Bool.and_eq_true, Bool.and_eq_true, beq_iff_eq, beq_iff_eq, beq_iff_eq] at h
    obtain ⟨⟨rfl, rfl⟩, rfl⟩ := h
    exact ⟨D, rfl⟩
  · cases h
theorem underEx_has {l : List Value} (h : underEx l = true) (X : String) : l.contains (.type X) = ([.type "Exception", .type "BaseException", .type "object"] : List Value).contains (.type X) := by
  obtain ⟨D, rfl⟩ := underEx_is h
  rw [List.contains_cons]
  rfl
section
open Builtin Builtin.ObjectAttr
variable {prog : Program} {w : World} {A : Around} {R : Result → Shared → Prop} {hp : Heap} {g : Array GenState} {d : Drawn} {t : Nat} {os : OsState}
/-- the first field that such an exception is given -/
theorem first_field {K : Frag} {name : Str} {tk : Tok} {v : Value} {x C : Addr} {fv : Array Value} {cd : ClassData} {bm : List Value}
    (X : K.In hp) (hx : hp.get? x = some { cls := .ref C, data := .fields fv }) (hcd : clsIn K C = some cd) (hm : cd.mro = .ref C :: bm) (hb : underEx bm = true) (hh : cd.hasDict = true) (ha : findIn K (.ref C) name = some none)
    (hq : ∀ h' tk' dx, (∀ b o, b ≠ x → hp.get? b = some o → h'.get? b = some o) → hp.objs.size ≤ dx → dx ≠ x → h'.get? x = some { cls := .ref C, dict := some dx, data := .fields fv } →
      h'.Ns1 dx (fun y => if y = name then some v else none) → R (.ok (.ret .none)) ⟨h', g, d, tk', os⟩) :
    codeAny (model prog w) A (.call (.builtin "object.__setattr__") ⟨[.ref x, .str name tk, v], []⟩) R ⟨hp, g, d, t, os⟩ := by
  obtain ⟨D, rfl⟩ := underEx_is hb
  have at_x : InstAt hp x { cls := .ref C, data := .fields fv } C none := ⟨hx, rfl, rfl, trivial⟩
  have apart : x ≠ hp.objs.size := Nat.ne_of_lt (Heap.lt_size hx)
  have facts := F.store_object
  have isObj : mroIn K C (.type "object") = some true := by
    unfold mroIn
    rw [hcd, Option.bind_some, hm]
    rfl
  have below : Looks (model prog w) hp (isInstance (.ref x) (.type "object")) true := at_x.type.andThen (looks_mroIn X isObj)
  refine codeAny_call_builtin facts.slot.plain facts.entry (@check_slot (model prog w) _ _ ⟨hp, g, d, t, os⟩ "object.__setattr__" "object" "__setattr__" (.ref x) [.str name tk, v] [] _ facts.kind facts.split below (facts.args (.ref x) (.str name tk) v) ?_)
  have mros : Looks (model prog w) hp (mroOf (.ref C)) cd.mro := (looks_clsIn X hcd).andThen .now
  have nobody : Looks (model prog w) hp (storeTaker? none) none := .now
  have goes : refuseLoop (.ref x) "__setattr__" cd.mro = pure () := by
    rw [hm, refuseLoop_ref, refuseLoop_ref]
    exact F.store_Exception.passes _
  rw [osa_eq, refuse_eq]
  refine wpAny_bind (wpAny_bind (at_x.type.at (wpAny_bind (mros.at ?_))))
  rw [goes]
  refine wpAny_pure (wpAny_bind (at_x.type.at (wpAny_bind ((looks_findIn X ha).at (wpAny_bind (nobody.at ?_))))))
  show wpAny _ _ (storeInOwnDict (.ref x) (.ref C) (.str name tk) name v false) _ _ _
  have clsAt : Looks (model prog w) hp (classData C) cd := looks_clsIn X hcd
  obtain ⟨_, _, _, _, _, hd, _, _, _, _, _⟩ := cd
  dsimp only at hh
  subst hh
  unfold storeInOwnDict ownDictForStores
  repeat (first | with_reducible refine store_in_new ?_ ?_ | with_reducible refine wpAny_loadPart_at hx ?_ | with_reducible refine clsAt.at ?_ | wp_step)
  · exact ⟨_, #[], _, (Heap.get?_update_ne _ _ _ _ apart.symm).trans (Heap.get?_push_at rfl rfl), rfl, fun e he => absurd he (by simp), fun _ => rfl⟩
  · intro h1 tk1 n1 same
    have still : (hp.push { cls := .type "dict", data := .dict #[] }).get? x = some { cls := .ref C, data := .fields fv } := Heap.get?_push_of_some _ hx
    refine hq h1 tk1 hp.objs.size (fun b o hb ho => ?_) (Nat.le_refl _) apart.symm ?_ n1
    · rw [same.2 b (Nat.ne_of_lt (Heap.lt_size ho)), Heap.get?_update_ne _ _ _ _ hb]
      exact Heap.get?_push_of_some _ ho
    · rw [same.2 x apart]
      exact Heap.get?_update_self _ still rfl
end
/-- what the written part says of Low, at C, and of its __init__, at fI -/
structure BadCodeTxt (K : Frag) (mg : Str → Option Value) (C fI : Addr) : Prop where
  gC : mg "BadCode" = some (.ref C)
  cls : ∃ nm q N bs bm sn sub ab col dd k0 k1 k2 k3 k5, K.lookup C = some (excClassObj nm q C N bs bm true sn sub ab col dd k0 k1 k2 k3 k5 "Exception.__new__") ∧ underEx bm = true
  sa : findIn K (.ref C) "__setattr__" = some (some (.builtin "object.__setattr__"))
  ga : findIn K (.ref C) "__getattribute__" = some (some (.builtin "BaseException.__getattribute__"))
  gg : findIn K (.ref C) "__getattr__" = some none
  noN : findIn K (.ref C) "many" = some none
  iC : findIn K (.ref C) "__init__" = some (some (.ref fI))
  tC : typeIn K (.ref fI) = some (.type "function")
  kC : keepIn K (.ref C) = true
  exC : subIn K (.ref C) (.type "BaseException") = some true
  tyC : typeIn K (.ref C) = some (.type "type")
  hdC : hasDictIn K C = true
  te : exmOne K (.ref C) (.ref C) = some true
  fn : ∃ (oc : Value) (od : Option Addr) (doc pm : Value) (an : Option Addr) (cdv ct : Value) (osl : Array (Option Value)) (p1 p2 q1 q2 q3 q4 : Pos),
    K.lookup fI = some ⟨oc, od, .func (fnOf "__init__" "BadCode.__init__" (iA p1 p2) (iB q1 q2 q3 q4) iS .none .none doc pm an cdv ct), osl⟩ ∧ codeIn K cdv "BadCode.__init__" = true
theorem one_size (v : Value) : [v].length ≤ sizeLine := by
  rw [sizeLine_eq]
  exact (by decide : 1 ≤ 16777216)
theorem kept_but {K : Frag} {h h' : Heap} {x : Addr} (X : K.In h) (hx : K.lookup x = none) (k : ∀ b o, b ≠ x → h.get? b = some o → h'.get? b = some o) : K.In h' := fun a o e =>
  k a o (fun z => by rw [z, hx] at e; cases e) (X a o e)
theorem ldC {M : Model} {s : Shared} {name : Str} {scope : Scope} {L a : Addr} {cd : Value} {m : Str → Option Value} {x : Str} {pos : Pos} {v : Value} {Q : Value → Shared → Prop} {A : Around} {E : Value → Shared → Prop} (hn : s.heap.Ns L m) (hv : m x = some v) (h : Q v s)
    (hk : scope.kind = .function := by rfl) (hl : (envOfC name scope L a cd).kindOf x = some .local := by rfl) (hd : (x == ("__debug__" : Str)) = false := by decide) :
    wpAny M A (eval (.Name x pos) (envOfC name scope L a cd)) Q E s := wpAny_Name (wpAny_loadName_local hk hl hn hv h) hd
/-- what __init__ leaves of a fresh exception at x -/
structure InitEnd (h h' : Heap) (x C dx t1 : Addr) (v : Value) : Prop where
  keep : ∀ b o, b ≠ x → h.get? b = some o → h'.get? b = some o
  obj : h'.get? x = some { cls := .ref C, dict := some dx, data := .fields #[.ref t1, .none, .none, .none, .bool false, .none] }
  dbig : h.objs.size ≤ dx
  dne : dx ≠ x
  ns : h'.Ns1 dx (fun y => if y = "many" then some v else none)
/-- a made Low -/
structure OwnMade (h h' : Heap) (e C d : Addr) (v : Value) : Prop where
  keep : ∀ b o, h.get? b = some o → h'.get? b = some o
  new : h.objs.size ≤ e
  obj : ∃ oe vs, h'.get? e = some oe ∧ oe.cls = .ref C ∧ oe.dict = some d ∧ oe.data = .fields vs ∧ vs[1]? = some .none
  dbig : h.objs.size ≤ d
  dne : d ≠ e
  ns : h'.Ns1 d (fun y => if y = "many" then some v else none)
section
variable {prog : Program} {w : World} {A : Around} {E : Value → Shared → Prop} {R : Result → Shared → Prop} {s : Shared} {K : Frag} {mg : Str → Option Value} {C fI : Addr}
theorem low_init (T : BadCodeTxt K mg C fI) {x t0 : Addr} {v : Value} (X : K.In s.heap) (hlim : s.heap.NoLimit) (hx : s.heap.get? x = some (excO C t0)) (hnx : K.lookup x = none) (hroom : A.depth < recursionLimit)
    (hq : ∀ h' tk dx, InitEnd s.heap h' x C dx t0 v → R (.ok (.ret .none)) { s with heap := h', toks := tk }) :
    codeAny (model prog w) A (.call (.ref fI) ⟨[.ref x, v], []⟩) R s := by
  obtain ⟨oc, od, doc, pm, an, cdv, ct, osl, p1, p2, q1, q2, q3, q4, ho, hcd⟩ := T.fn
  obtain ⟨nm, q, N, bs, bm, sn, sub, ab, col, dd, k0, k1, k2, k3, k5, hC, hbm⟩ := T.cls
  have hcl : clsIn K C = some { name := nm, bases := bs, mro := .ref C :: bm, ns := N, qualname := q, hasDict := true, slotNames := sn, subclasses := sub, abstract := ab, collection := col, hasDel := false } := by unfold clsIn; rw [hC] <;> rfl
  refine Att.call_fn (binds := [("self", .ref x), ("many", v)]) X hlim ho hcd hroom (BindsTo.of_eq (by first | rfl | with_unfolding_all rfl)) (by first | rfl | decide | with_unfolding_all rfl) (fun s₁ IC => ?_) rfl rfl rfl
  obtain ⟨h₁, tk₁, rfl⟩ := IC.toInCall.same
  have k : ∀ b o, s.heap.get? b = some o → h₁.get? b = some o := IC.toInCall.keep
  have hn := IC.toInCall.ns
  have hxL : s.heap.objs.size ≠ x := Nat.ne_of_gt (Heap.lt_size hx)
  have X₁ : K.In h₁ := X.keeps k
  have hx₁ := k _ _ hx
  -- self.by = by
  show wpAny _ _ (execs _ _) _ _ _
  refine wpAny_execs_cons (plainObj_wpAny_Assign_Attribute ?_)
  refine ldC (v := v) hn (by first | rfl | with_unfolding_all rfl | kernel_rfl) (ldC (v := .ref x) hn (by first | rfl | with_unfolding_all rfl | kernel_rfl) ?_)
  refine set_plain X₁ (ox := excO C t0) (od := none) ⟨hx₁, rfl, rfl, trivial⟩ T.sa ?_
  refine first_field X₁ hx₁ hcl rfl hbm rfl T.noN (fun h₃ tk₃ dx k₃ dn dne hx₃ hn₃ => ?_)
  show wpAny _ _ (execs _ _) _ _ _
  have z : s.heap.objs.size < h₁.objs.size := hn.lt
  exact wpAny_execs_nil (hq h₃ tk₃ dx ⟨fun b o hb e => k₃ b o hb (k b o e), hx₃, Nat.le_of_lt (Nat.lt_of_lt_of_le z dn), dne, hn₃⟩)
theorem low_made (T : BadCodeTxt K mg C fI) {v : Value} (X : K.In s.heap) (hlim : s.heap.NoLimit) (hroom : A.depth + 1 < recursionLimit)
    (hq : ∀ h' tk e d, OwnMade s.heap h' e C d v → R (.ok (.ret (.ref e))) { s with heap := h', toks := tk }) :
    codeAny (model prog w) A (.call (.ref C) ⟨[v], []⟩) R s := by
  obtain ⟨nm, q, N, bs, bm, sn, sub, ab, col, dd, k0, k1, k2, k3, k5, hC, hbm⟩ := T.cls
  obtain ⟨hp, g, dr, tk, os⟩ := s
  have k : ∀ b o, hp.get? b = some o → ((hp.push (kdv_tup [v])).push (excO C hp.objs.size)).get? b = some o := fun b o e => Heap.get?_push_of_some _ (Heap.get?_push_of_some _ e)
  have hget : ((hp.push (kdv_tup [v])).push (excO C hp.objs.size)).get? (hp.objs.size + 1) = some (excO C hp.objs.size) := by heap_get
  have hnx : K.lookup (hp.objs.size + 1) = none := by
    cases e : K.lookup (hp.objs.size + 1) with
    | none => rfl
    | some o =>
      have z : hp.get? (hp.objs.size + 1) = some o := X _ _ e
      exact absurd (Nat.lt_of_succ_lt (Heap.lt_size z)) (Nat.lt_irrefl _)
  refine call_own F.excBase_Exception (fun X => underEx_has hbm X) (X _ _ hC) (looks_findIn X T.iC) (fun self => bind_fn X self T.tC) (one_size v) ?_
  refine low_init (s := ⟨(hp.push (kdv_tup [v])).push (excO C hp.objs.size), g, dr, tk, os⟩) T (X.keeps k) (hlim.keeps k) hget hnx ?_ fun h' tk' dx ⟨k', hx, dn, dne, hns⟩ => ?_
  · show A.depth + 1 < recursionLimit
    exact hroom
  · have old : ∀ b o, hp.get? b = some o → h'.get? b = some o := fun b o e => k' b o (Nat.ne_of_lt (Nat.lt_succ_of_lt (Heap.lt_size e))) (k b o e)
    have z : hp.objs.size + 1 + 1 ≤ dx := by
      first
        | (simpa only [Heap.size_push] using dn)
        | exact dn
        | (have q := dn; rw [Heap.size_push, Heap.size_push] at q; exact q)
    exact ⟨rfl, hq h' tk' (hp.objs.size + 1) dx ⟨old, Nat.le_succ _, ⟨_, _, hx, rfl, rfl, rfl, rfl⟩, Nat.le_trans (Nat.le_trans (Nat.le_succ _) (Nat.le_succ _)) z, dne, hns⟩⟩
end
end BadCodeX
end PySem
namespace L2
open PySem PySem.Spec PyProof.Rows
theorem relO_BadCode {v : V} {v' : Value} (r : RelV v v') (f : Str) : RelO (List.lookup f [(("many" : Str), v)]) (if f = "many" then some v' else none) := by
  by_cases hw : f = "many"
  · subst hw
    rw [if_pos rfl]
    have q : List.lookup ("many" : Str) [(("many" : Str), v)] = some v := by simp [List.lookup]
    rw [q]
    exact r
  · rw [if_neg hw]
    have qw : (f == ("many" : Str)) = false := by simpa using hw
    have q2 : List.lookup f [(("many" : Str), v)] = none := by simp [List.lookup, qw]
    rw [q2]
    trivial
section
variable {X : Cx} {C fI : Addr}
/-- Low(e) -/
def tMkBadCode (C : Addr) (ta : TA) : St → Hp → XK → Prop := fun σ H Q => ta σ H fun vs H1 => ∃ v, vs = [v] ∧ ∀ d, H1 d = none → Q (.ref C) (some d) (upd H1 d (.xd [(("many" : Str), v)]))
theorem pmk_BadCode {a : Expr} {ta : TA} {p pos : Pos} {k : Nat} (T : PySem.BadCodeX.BadCodeTxt X.K X.mg C fI) (hr : Room k X.A) (ha : PA X [a] ta) (hg : Gl X "BadCode" := by rfl)
    (he : starEach (a :: []) X.env = (false, eval a X.env) :: starEach [] X.env := by rfl) (hpl : (backTo pos (starEach [] X.env)).any (·.1) = false := by rfl) :
    PMk X (.Call (.Name "BadCode" p) [a] [] pos) (tMkBadCode C ta) := by
  intro pins s σ H Q I h
  refine wpAny_Call_Name_kw (ld_glob I hg T.gC ?_)
  refine PySem.W.callWith_K (h₀ := X.base) I.ok.mod.kin T.kC (thn (ha.run pos pins s σ H _ I h) fun us s1 hh => ?_) he hpl
  obtain ⟨vs, H1, I1, r1, v, ev, q1⟩ := hh
  subst ev
  refine ⟨I1.kIn, ?_⟩
  cases r1 with
  | cons rv rn =>
    rename_i v' us'
    cases rn
    show wpAny _ _ (call (.ref C) [v']) _ _ _
    have hlim := I1.nolimit
    obtain ⟨hp, g, dr, tk, os⟩ := s1
    refine wpAny_call (PySem.BadCodeX.low_made T I1.kIn hlim (by have := hr.dp; omega) fun h' tk' e d M => ?_)
    show MkP X pins σ Q (.ref e) ⟨h', g, dr, tk', os⟩
    obtain ⟨oe, fv, hoe, hc, hd, hdat, h1⟩ := M.obj
    have hns := M.ns
    obtain ⟨G', g1, g2⟩ := restrict h' fun b => decide (b ≠ e)
    have gk : ∀ b, b ≠ e → G'.get? b = h'.get? b := fun b hb => g1 b (decide_eq_true hb)
    have ge : G'.get? e = none := g2 e (by simp)
    have old : ∀ b o, hp.get? b = some o → G'.get? b = some o := fun b o q => (gk b (Nat.ne_of_lt (Nat.lt_of_lt_of_le (Heap.lt_size q) M.new))).trans (M.keep b o q)
    have ob : ObjOk X.prog X.w (upd H1 d (.xd [(("many" : Str), v)])) G' d (.xd [(("many" : Str), v)]) :=
      ⟨_, hns.at (fun o q => (gk d M.dne).trans q), fun f => relO_BadCode rv f⟩
    have J : Inv X pins σ (upd H1 d (.xd [(("many" : Str), v)])) ⟨G', g, dr, tk', os⟩ := I1.laid (t' := tk') old M.dbig ob
    refine ⟨e, oe, fv, ⟨G', g, dr, tk', os⟩, _, .ref C, some d, rfl, J, fun b o q => ?_, ge, hoe, ⟨hc, hd⟩, hdat, h1, ?_, rfl, I1.bare, raises_own T.exC T.tyC, q1 d (I1.hok.fresh M.dbig)⟩
    · by_cases hb : b = e
      · have q' : G'.get? b = some o := q
        rw [hb, ge] at q'; cases q'
      · exact (gk b hb).symm.trans q
    · rw [upd_ne (Ne.symm M.dne)]
      exact I1.hok.fresh M.new
/-- raise Low(e) -/
def tRaiseBadCode (C : Addr) (W : WX) (ta : TA) : TS := fun _ σ H => tMkBadCode C ta σ H fun cls d H' => W cls d σ H'
theorem ps_raiseBadCode {a : Expr} {ta : TA} {W : WX} {p pos pos2 : Pos} {k : Nat} (hc : X.calm = true) (T : PySem.BadCodeX.BadCodeTxt X.K X.mg C fI) (hr : Room k X.A) (tk : Takes X W) (ha : PA X [a] ta) (hg : Gl X "BadCode" := by rfl)
    (he : starEach (a :: []) X.env = (false, eval a X.env) :: starEach [] X.env := by rfl) (hpl : (backTo pos (starEach [] X.env)).any (·.1) = false := by rfl) :
    PS X (.Raise (some (.Call (.Name "BadCode" p) [a] [] pos)) none pos2) (tRaiseBadCode C W ta) := ps_raise hc tk (pmk_BadCode T hr ha hg he hpl)
/-- low.by, low the exception that the suite holds (at a; its class cls, its dict d) -/
def tByBadCode (C : Addr) (a : Addr) (cls : Value) (d : Option Addr) (te : TE) : TE := fun σ H Q => te σ H fun x H1 => x = .ref a ∧ cls = .ref C ∧ ∃ (dd : Addr) (v : V), d = some dd ∧ H1 dd = some (.xd [(("many" : Str), v)]) ∧ Q v H1
theorem pe_byBadCode {a : Addr} {oe : Obj} {cls : Value} {d : Option Addr} {pn : List (Addr × Obj)} {e : Expr} {te : TE} {pos : Pos} (T : PySem.BadCodeX.BadCodeTxt X.K X.mg C fI) (hz : Zc cls d oe) (hf : ∃ vs, oe.data = .fields vs) (he : PE (X.suite a ((a, oe) :: pn)) e te)
    (hb : attributeBase e "many" X.env (eval e X.env) = eval e X.env := by rfl) :
    PE (X.suite a ((a, oe) :: pn)) (.Attribute e "many" pos) (tByBadCode C a cls d te) := by
  refine ⟨fun pins s σ H Q I h => ?_⟩
  refine attr_of hb (thn (he.run pins s σ H _ I h) fun u s1 hh => ?_)
  obtain ⟨x, H1, I1, rx, ex, ec, dd, v, ed, ea, q⟩ := hh
  subst ex
  obtain rfl : u = Value.ref a := rx
  subst ec
  subst ed
  obtain ⟨ha, _⟩ := I1.pin (a, oe) (List.mem_append_left _ List.mem_cons_self)
  obtain ⟨vs, hd⟩ := hf
  have hx : ObjOk X.prog X.w H1 s1.heap dd (.xd [(("many" : Str), v)]) := I1.hok dd _ ea
  obtain ⟨mA, hns, hr⟩ := hx
  obtain ⟨od, ho, hl⟩ := lookIn_ns hns
  have l : List.lookup ("many" : Str) [(("many" : Str), v)] = some v := by simp [List.lookup]
  obtain ⟨u, hu, ru⟩ := RelO.some_of (v := v) (o := mA "many") (by rw [← l]; exact hr "many")
  have J : PySem.W.InstAt s1.heap a oe C (some od) := ⟨ha, hz.1, by unfold PySem.W.notCls; rw [hd] <;> rfl, by rw [hz.2]; exact ho⟩
  exact HandSPX.exc_get I1.kIn J T.ga T.gg T.exC (PySem.W.findObj_own T.hdC T.noN rfl (by rw [hl, hu])) (handed_of ru) ⟨v, H1, I1.tok _, ru, q⟩
end
end L2

set_option Elab.async false
set_option linter.all false
set_option maxRecDepth 100000
set_option maxHeartbeats 2000000
namespace PySem
namespace BadSpaceX
open PySem.W PySem.Calls PyProof.Rows PySem.HandSPX
/-! ### the text of __init__ -/
def iA (p1 p2 : Pos) : Arguments := { posonlyargs := [], args := [{ arg := "self", annotation := none, pos := p1 }, { arg := "word", annotation := none, pos := p2 }], vararg := none, kwonlyargs := [], kw_defaults := [], kwarg := none, defaults := [] }
def iB (q1 q2 q3 q4 : Pos) : List Stmt := [.Assign [.Attribute (.Name "self" q1) "word" q2] (.Name "word" q3) q4]
def iS : Scope := { kind := .function, names := [(PySem.Str.ofString "self", .local), (PySem.Str.ofString "word", .local)], isGenerator := false, isCoroutine := false, more := [] }
/-! ### one own class, then Exception's -/
def underEx : List Value → Bool
  | [.ref _, .type x, .type y, .type z] => x == "Exception" && y == "BaseException" && z == "object"
  | _ => false
theorem underEx_is {l : List Value} (h : underEx l = true) : ∃ D, l = .ref D :: [.type "Exception", .type "BaseException", .type "object"] := by
  unfold underEx at h
  split at h
  · rename_i D x y z
    rw [Bool.and_eq_true, Bool.and_eq_true, beq_iff_eq, beq_iff_eq, beq_iff_eq] at h
    obtain ⟨⟨rfl, rfl⟩, rfl⟩ := h
    exact ⟨D, rfl⟩
  · cases h
theorem underEx_has {l : List Value} (h : underEx l = true) (X : String) : l.contains (.type X) = ([.type "Exception", .type "BaseException", .type "object"] : List Value).contains (.type X) := by
  obtain ⟨D, rfl⟩ := underEx_is h
  rw [List.contains_cons]
  rfl
section
open Builtin Builtin.ObjectAttr
variable {prog : Program} {w : World} {A : Around} {R : Result → Shared → Prop} {hp : Heap} {g : Array GenState} {d : Drawn} {t : Nat} {os : OsState}
/-- the first field that such an exception is given -/
theorem first_field {K : Frag} {name : Str} {tk : Tok} {v : Value} {x C : Addr} {fv : Array Value} {cd : ClassData} {bm : List Value}
    (X : K.In hp) (hx : hp.get? x = some { cls := .ref C, data := .fields fv }) (hcd : clsIn K C = some cd) (hm : cd.mro = .ref C :: bm) (hb : underEx bm = true) (hh : cd.hasDict = true) (ha : findIn K (.ref C) name = some none)
    (hq : ∀ h' tk' dx, (∀ b o, b ≠ x → hp.get? b = some o → h'.get? b = some o) → hp.objs.size ≤ dx → dx ≠ x → h'.get? x = some { cls := .ref C, dict := some dx, data := .fields fv } →
      h'.Ns1 dx (fun y => if y = name then some v else none) → R (.ok (.ret .none)) ⟨h', g, d, tk', os⟩) :
    codeAny (model prog w) A (.call (.builtin "object.__setattr__") ⟨[.ref x, .str name tk, v], []⟩) R ⟨hp, g, d, t, os⟩ := by
  obtain ⟨D, rfl⟩ := underEx_is hb
  have at_x : InstAt hp x { cls := .ref C, data := .fields fv } C none := ⟨hx, rfl, rfl, trivial⟩
  have apart : x ≠ hp.objs.size := Nat.ne_of_lt (Heap.lt_size hx)
  have facts := F.store_object
  have isObj : mroIn K C (.type "object") = some true := by
    unfold mroIn
    rw [hcd, Option.bind_some, hm]
    rfl
  have below : Looks (model prog w) hp (isInstance (.ref x) (.type "object")) true := at_x.type.andThen (looks_mroIn X isObj)
  refine codeAny_call_builtin facts.slot.plain facts.entry (@check_slot (model prog w) _ _ ⟨hp, g, d, t, os⟩ "object.__setattr__" "object" "__setattr__" (.ref x) [.str name tk, v] [] _ facts.kind facts.split below (facts.args (.ref x) (.str name tk) v) ?_)
  have mros : Looks (model prog w) hp (mroOf (.ref C)) cd.mro := (looks_clsIn X hcd).andThen .now
  have nobody : Looks (model prog w) hp (storeTaker? none) none := .now
  have goes : refuseLoop (.ref x) "__setattr__" cd.mro = pure () := by
    rw [hm, refuseLoop_ref, refuseLoop_ref]
    exact F.store_Exception.passes _
  rw [osa_eq, refuse_eq]
  refine wpAny_bind (wpAny_bind (at_x.type.at (wpAny_bind (mros.at ?_))))
  rw [goes]
  refine wpAny_pure (wpAny_bind (at_x.type.at (wpAny_bind ((looks_findIn X ha).at (wpAny_bind (nobody.at ?_))))))
  show wpAny _ _ (storeInOwnDict (.ref x) (.ref C) (.str name tk) name v false) _ _ _
  have clsAt : Looks (model prog w) hp (classData C) cd := looks_clsIn X hcd
  obtain ⟨_, _, _, _, _, hd, _, _, _, _, _⟩ := cd
  dsimp only at hh
  subst hh
  unfold storeInOwnDict ownDictForStores
  repeat (first | with_reducible refine store_in_new ?_ ?_ | with_reducible refine wpAny_loadPart_at hx ?_ | with_reducible refine clsAt.at ?_ | wp_step)
  · exact ⟨_, #[], _, (Heap.get?_update_ne _ _ _ _ apart.symm).trans (Heap.get?_push_at rfl rfl), rfl, fun e he => absurd he (by simp), fun _ => rfl⟩
  · intro h1 tk1 n1 same
    have still : (hp.push { cls := .type "dict", data := .dict #[] }).get? x = some { cls := .ref C, data := .fields fv } := Heap.get?_push_of_some _ hx
    refine hq h1 tk1 hp.objs.size (fun b o hb ho => ?_) (Nat.le_refl _) apart.symm ?_ n1
    · rw [same.2 b (Nat.ne_of_lt (Heap.lt_size ho)), Heap.get?_update_ne _ _ _ _ hb]
      exact Heap.get?_push_of_some _ ho
    · rw [same.2 x apart]
      exact Heap.get?_update_self _ still rfl
end
/-- what the written part says of Low, at C, and of its __init__, at fI -/
structure BadSpaceTxt (K : Frag) (mg : Str → Option Value) (C fI : Addr) : Prop where
  gC : mg "BadSpace" = some (.ref C)
  cls : ∃ nm q N bs bm sn sub ab col dd k0 k1 k2 k3 k5, K.lookup C = some (excClassObj nm q C N bs bm true sn sub ab col dd k0 k1 k2 k3 k5 "Exception.__new__") ∧ underEx bm = true
  sa : findIn K (.ref C) "__setattr__" = some (some (.builtin "object.__setattr__"))
  ga : findIn K (.ref C) "__getattribute__" = some (some (.builtin "BaseException.__getattribute__"))
  gg : findIn K (.ref C) "__getattr__" = some none
  noN : findIn K (.ref C) "word" = some none
  iC : findIn K (.ref C) "__init__" = some (some (.ref fI))
  tC : typeIn K (.ref fI) = some (.type "function")
  kC : keepIn K (.ref C) = true
  exC : subIn K (.ref C) (.type "BaseException") = some true
  tyC : typeIn K (.ref C) = some (.type "type")
  hdC : hasDictIn K C = true
  te : exmOne K (.ref C) (.ref C) = some true
  fn : ∃ (oc : Value) (od : Option Addr) (doc pm : Value) (an : Option Addr) (cdv ct : Value) (osl : Array (Option Value)) (p1 p2 q1 q2 q3 q4 : Pos),
    K.lookup fI = some ⟨oc, od, .func (fnOf "__init__" "BadSpace.__init__" (iA p1 p2) (iB q1 q2 q3 q4) iS .none .none doc pm an cdv ct), osl⟩ ∧ codeIn K cdv "BadSpace.__init__" = true
theorem one_size (v : Value) : [v].length ≤ sizeLine := by
  rw [sizeLine_eq]
  exact (by decide : 1 ≤ 16777216)
theorem kept_but {K : Frag} {h h' : Heap} {x : Addr} (X : K.In h) (hx : K.lookup x = none) (k : ∀ b o, b ≠ x → h.get? b = some o → h'.get? b = some o) : K.In h' := fun a o e =>
  k a o (fun z => by rw [z, hx] at e; cases e) (X a o e)
theorem ldC {M : Model} {s : Shared} {name : Str} {scope : Scope} {L a : Addr} {cd : Value} {m : Str → Option Value} {x : Str} {pos : Pos} {v : Value} {Q : Value → Shared → Prop} {A : Around} {E : Value → Shared → Prop} (hn : s.heap.Ns L m) (hv : m x = some v) (h : Q v s)
    (hk : scope.kind = .function := by rfl) (hl : (envOfC name scope L a cd).kindOf x = some .local := by rfl) (hd : (x == ("__debug__" : Str)) = false := by decide) :
    wpAny M A (eval (.Name x pos) (envOfC name scope L a cd)) Q E s := wpAny_Name (wpAny_loadName_local hk hl hn hv h) hd
/-- what __init__ leaves of a fresh exception at x -/
structure InitEnd (h h' : Heap) (x C dx t1 : Addr) (v : Value) : Prop where
  keep : ∀ b o, b ≠ x → h.get? b = some o → h'.get? b = some o
  obj : h'.get? x = some { cls := .ref C, dict := some dx, data := .fields #[.ref t1, .none, .none, .none, .bool false, .none] }
  dbig : h.objs.size ≤ dx
  dne : dx ≠ x
  ns : h'.Ns1 dx (fun y => if y = "word" then some v else none)
/-- a made Low -/
structure OwnMade (h h' : Heap) (e C d : Addr) (v : Value) : Prop where
  keep : ∀ b o, h.get? b = some o → h'.get? b = some o
  new : h.objs.size ≤ e
  obj : ∃ oe vs, h'.get? e = some oe ∧ oe.cls = .ref C ∧ oe.dict = some d ∧ oe.data = .fields vs ∧ vs[1]? = some .none
  dbig : h.objs.size ≤ d
  dne : d ≠ e
  ns : h'.Ns1 d (fun y => if y = "word" then some v else none)
section
variable {prog : Program} {w : World} {A : Around} {E : Value → Shared → Prop} {R : Result → Shared → Prop} {s : Shared} {K : Frag} {mg : Str → Option Value} {C fI : Addr}
theorem low_init (T : BadSpaceTxt K mg C fI) {x t0 : Addr} {v : Value} (X : K.In s.heap) (hlim : s.heap.NoLimit) (hx : s.heap.get? x = some (excO C t0)) (hnx : K.lookup x = none) (hroom : A.depth < recursionLimit)
    (hq : ∀ h' tk dx, InitEnd s.heap h' x C dx t0 v → R (.ok (.ret .none)) { s with heap := h', toks := tk }) :
    codeAny (model prog w) A (.call (.ref fI) ⟨[.ref x, v], []⟩) R s := by
  obtain ⟨oc, od, doc, pm, an, cdv, ct, osl, p1, p2, q1, q2, q3, q4, ho, hcd⟩ := T.fn
  obtain ⟨nm, q, N, bs, bm, sn, sub, ab, col, dd, k0, k1, k2, k3, k5, hC, hbm⟩ := T.cls
  have hcl : clsIn K C = some { name := nm, bases := bs, mro := .ref C :: bm, ns := N, qualname := q, hasDict := true, slotNames := sn, subclasses := sub, abstract := ab, collection := col, hasDel := false } := by unfold clsIn; rw [hC] <;> rfl
  refine Att.call_fn (binds := [("self", .ref x), ("word", v)]) X hlim ho hcd hroom (BindsTo.of_eq (by first | rfl | with_unfolding_all rfl)) (by first | rfl | decide | with_unfolding_all rfl) (fun s₁ IC => ?_) rfl rfl rfl
  obtain ⟨h₁, tk₁, rfl⟩ := IC.toInCall.same
  have k : ∀ b o, s.heap.get? b = some o → h₁.get? b = some o := IC.toInCall.keep
  have hn := IC.toInCall.ns
  have hxL : s.heap.objs.size ≠ x := Nat.ne_of_gt (Heap.lt_size hx)
  have X₁ : K.In h₁ := X.keeps k
  have hx₁ := k _ _ hx
  -- self.by = by
  show wpAny _ _ (execs _ _) _ _ _
  refine wpAny_execs_cons (plainObj_wpAny_Assign_Attribute ?_)
  refine ldC (v := v) hn (by first | rfl | with_unfolding_all rfl | kernel_rfl) (ldC (v := .ref x) hn (by first | rfl | with_unfolding_all rfl | kernel_rfl) ?_)
  refine set_plain X₁ (ox := excO C t0) (od := none) ⟨hx₁, rfl, rfl, trivial⟩ T.sa ?_
  refine first_field X₁ hx₁ hcl rfl hbm rfl T.noN (fun h₃ tk₃ dx k₃ dn dne hx₃ hn₃ => ?_)
  show wpAny _ _ (execs _ _) _ _ _
  have z : s.heap.objs.size < h₁.objs.size := hn.lt
  exact wpAny_execs_nil (hq h₃ tk₃ dx ⟨fun b o hb e => k₃ b o hb (k b o e), hx₃, Nat.le_of_lt (Nat.lt_of_lt_of_le z dn), dne, hn₃⟩)
theorem low_made (T : BadSpaceTxt K mg C fI) {v : Value} (X : K.In s.heap) (hlim : s.heap.NoLimit) (hroom : A.depth + 1 < recursionLimit)
    (hq : ∀ h' tk e d, OwnMade s.heap h' e C d v → R (.ok (.ret (.ref e))) { s with heap := h', toks := tk }) :
    codeAny (model prog w) A (.call (.ref C) ⟨[v], []⟩) R s := by
  obtain ⟨nm, q, N, bs, bm, sn, sub, ab, col, dd, k0, k1, k2, k3, k5, hC, hbm⟩ := T.cls
  obtain ⟨hp, g, dr, tk, os⟩ := s
  have k : ∀ b o, hp.get? b = some o → ((hp.push (kdv_tup [v])).push (excO C hp.objs.size)).get? b = some o := fun b o e => Heap.get?_push_of_some _ (Heap.get?_push_of_some _ e)
  have hget : ((hp.push (kdv_tup [v])).push (excO C hp.objs.size)).get? (hp.objs.size + 1) = some (excO C hp.objs.size) := by heap_get
  have hnx : K.lookup (hp.objs.size + 1) = none := by
    cases e : K.lookup (hp.objs.size + 1) with
    | none => rfl
    | some o =>
      have z : hp.get? (hp.objs.size + 1) = some o := X _ _ e
      exact absurd (Nat.lt_of_succ_lt (Heap.lt_size z)) (Nat.lt_irrefl _)
  refine call_own F.excBase_Exception (fun X => underEx_has hbm X) (X _ _ hC) (looks_findIn X T.iC) (fun self => bind_fn X self T.tC) (one_size v) ?_
  refine low_init (s := ⟨(hp.push (kdv_tup [v])).push (excO C hp.objs.size), g, dr, tk, os⟩) T (X.keeps k) (hlim.keeps k) hget hnx ?_ fun h' tk' dx ⟨k', hx, dn, dne, hns⟩ => ?_
  · show A.depth + 1 < recursionLimit
    exact hroom
  · have old : ∀ b o, hp.get? b = some o → h'.get? b = some o := fun b o e => k' b o (Nat.ne_of_lt (Nat.lt_succ_of_lt (Heap.lt_size e))) (k b o e)
    have z : hp.objs.size + 1 + 1 ≤ dx := by
      first
        | (simpa only [Heap.size_push] using dn)
        | exact dn
        | (have q := dn; rw [Heap.size_push, Heap.size_push] at q; exact q)
    exact ⟨rfl, hq h' tk' (hp.objs.size + 1) dx ⟨old, Nat.le_succ _, ⟨_, _, hx, rfl, rfl, rfl, rfl⟩, Nat.le_trans (Nat.le_trans (Nat.le_succ _) (Nat.le_succ _)) z, dne, hns⟩⟩
end
end BadSpaceX
end PySem
namespace L2
open PySem PySem.Spec PyProof.Rows
theorem relO_BadSpace {v : V} {v' : Value} (r : RelV v v') (f : Str) : RelO (List.lookup f [(("word" : Str), v)]) (if f = "word" then some v' else none) := by
  by_cases hw : f = "word"
  · subst hw
    rw [if_pos rfl]
    have q : List.lookup ("word" : Str) [(("word" : Str), v)] = some v := by simp [List.lookup]
    rw [q]
    exact r
  · rw [if_neg hw]
    have qw : (f == ("word" : Str)) = false := by simpa using hw
    have q2 : List.lookup f [(("word" : Str), v)] = none := by simp [List.lookup, qw]
    rw [q2]
    trivial
section
variable {X : Cx} {C fI : Addr}
/-- Low(e) -/
def tMkBadSpace (C : Addr) (ta : TA) : St → Hp → XK → Prop := fun σ H Q => ta σ H fun vs H1 => ∃ v, vs = [v] ∧ ∀ d, H1 d = none → Q (.ref C) (some d) (upd H1 d (.xd [(("word" : Str), v)]))
theorem pmk_BadSpace {a : Expr} {ta : TA} {p pos : Pos} {k : Nat} (T : PySem.BadSpaceX.BadSpaceTxt X.K X.mg C fI) (hr : Room k X.A) (ha : PA X [a] ta) (hg : Gl X "BadSpace" := by rfl)
    (he : starEach (a :: []) X.env = (false, eval a X.env) :: starEach [] X.env := by rfl) (hpl : (backTo pos (starEach [] X.env)).any (·.1) = false := by rfl) :
    PMk X (.Call (.Name "BadSpace" p) [a] [] pos) (tMkBadSpace C ta) := by
  intro pins s σ H Q I h
  refine wpAny_Call_Name_kw (ld_glob I hg T.gC ?_)
  refine PySem.W.callWith_K (h₀ := X.base) I.ok.mod.kin T.kC (thn (ha.run pos pins s σ H _ I h) fun us s1 hh => ?_) he hpl
  obtain ⟨vs, H1, I1, r1, v, ev, q1⟩ := hh
  subst ev
  refine ⟨I1.kIn, ?_⟩
  cases r1 with
  | cons rv rn =>
    rename_i v' us'
    cases rn
    show wpAny _ _ (call (.ref C) [v']) _ _ _
    have hlim := I1.nolimit
    obtain ⟨hp, g, dr, tk, os⟩ := s1
    refine wpAny_call (PySem.BadSpaceX.low_made T I1.kIn hlim (by have := hr.dp; omega) fun h' tk' e d M => ?_)
    show MkP X pins σ Q (.ref e) ⟨h', g, dr, tk', os⟩
    obtain ⟨oe, fv, hoe, hc, hd, hdat, h1⟩ := M.obj
    have hns := M.ns
    obtain ⟨G', g1, g2⟩ := restrict h' fun b => decide (b ≠ e)
    have gk : ∀ b, b ≠ e → G'.get? b = h'.get? b := fun b hb => g1 b (decide_eq_true hb)
    have ge : G'.get? e = none := g2 e (by simp)
    have old : ∀ b o, hp.get? b = some o → G'.get? b = some o := fun b o q => (gk b (Nat.ne_of_lt (Nat.lt_of_lt_of_le (Heap.lt_size q) M.new))).trans (M.keep b o q)
    have ob : ObjOk X.prog X.w (upd H1 d (.xd [(("word" : Str), v)])) G' d (.xd [(("word" : Str), v)]) :=
      ⟨_, hns.at (fun o q => (gk d M.dne).trans q), fun f => relO_BadSpace rv f⟩
    have J : Inv X pins σ (upd H1 d (.xd [(("word" : Str), v)])) ⟨G', g, dr, tk', os⟩ := I1.laid (t' := tk') old M.dbig ob
    refine ⟨e, oe, fv, ⟨G', g, dr, tk', os⟩, _, .ref C, some d, rfl, J, fun b o q => ?_, ge, hoe, ⟨hc, hd⟩, hdat, h1, ?_, rfl, I1.bare, raises_own T.exC T.tyC, q1 d (I1.hok.fresh M.dbig)⟩
    · by_cases hb : b = e
      · have q' : G'.get? b = some o := q
        rw [hb, ge] at q'; cases q'
      · exact (gk b hb).symm.trans q
    · rw [upd_ne (Ne.symm M.dne)]
      exact I1.hok.fresh M.new
/-- raise Low(e) -/
def tRaiseBadSpace (C : Addr) (W : WX) (ta : TA) : TS := fun _ σ H => tMkBadSpace C ta σ H fun cls d H' => W cls d σ H'
theorem ps_raiseBadSpace {a : Expr} {ta : TA} {W : WX} {p pos pos2 : Pos} {k : Nat} (hc : X.calm = true) (T : PySem.BadSpaceX.BadSpaceTxt X.K X.mg C fI) (hr : Room k X.A) (tk : Takes X W) (ha : PA X [a] ta) (hg : Gl X "BadSpace" := by rfl)
    (he : starEach (a :: []) X.env = (false, eval a X.env) :: starEach [] X.env := by rfl) (hpl : (backTo pos (starEach [] X.env)).any (·.1) = false := by rfl) :
    PS X (.Raise (some (.Call (.Name "BadSpace" p) [a] [] pos)) none pos2) (tRaiseBadSpace C W ta) := ps_raise hc tk (pmk_BadSpace T hr ha hg he hpl)
/-- low.by, low the exception that the suite holds (at a; its class cls, its dict d) -/
def tByBadSpace (C : Addr) (a : Addr) (cls : Value) (d : Option Addr) (te : TE) : TE := fun σ H Q => te σ H fun x H1 => x = .ref a ∧ cls = .ref C ∧ ∃ (dd : Addr) (v : V), d = some dd ∧ H1 dd = some (.xd [(("word" : Str), v)]) ∧ Q v H1
theorem pe_byBadSpace {a : Addr} {oe : Obj} {cls : Value} {d : Option Addr} {pn : List (Addr × Obj)} {e : Expr} {te : TE} {pos : Pos} (T : PySem.BadSpaceX.BadSpaceTxt X.K X.mg C fI) (hz : Zc cls d oe) (hf : ∃ vs, oe.data = .fields vs) (he : PE (X.suite a ((a, oe) :: pn)) e te)
    (hb : attributeBase e "word" X.env (eval e X.env) = eval e X.env := by rfl) :
    PE (X.suite a ((a, oe) :: pn)) (.Attribute e "word" pos) (tByBadSpace C a cls d te) := by
  refine ⟨fun pins s σ H Q I h => ?_⟩
  refine attr_of hb (thn (he.run pins s σ H _ I h) fun u s1 hh => ?_)
  obtain ⟨x, H1, I1, rx, ex, ec, dd, v, ed, ea, q⟩ := hh
  subst ex
  obtain rfl : u = Value.ref a := rx
  subst ec
  subst ed
  obtain ⟨ha, _⟩ := I1.pin (a, oe) (List.mem_append_left _ List.mem_cons_self)
  obtain ⟨vs, hd⟩ := hf
  have hx : ObjOk X.prog X.w H1 s1.heap dd (.xd [(("word" : Str), v)]) := I1.hok dd _ ea
  obtain ⟨mA, hns, hr⟩ := hx
  obtain ⟨od, ho, hl⟩ := lookIn_ns hns
  have l : List.lookup ("word" : Str) [(("word" : Str), v)] = some v := by simp [List.lookup]
  obtain ⟨u, hu, ru⟩ := RelO.some_of (v := v) (o := mA "word") (by rw [← l]; exact hr "word")
  have J : PySem.W.InstAt s1.heap a oe C (some od) := ⟨ha, hz.1, by unfold PySem.W.notCls; rw [hd] <;> rfl, by rw [hz.2]; exact ho⟩
  exact HandSPX.exc_get I1.kIn J T.ga T.gg T.exC (PySem.W.findObj_own T.hdC T.noN rfl (by rw [hl, hu])) (handed_of ru) ⟨v, H1, I1.tok _, ru, q⟩
end
end L2

set_option Elab.async false
set_option linter.all false
set_option maxRecDepth 100000
/-! defs, methods and classes by name, those too that may let an error out -/
namespace VL
open PySem PySem.Spec L2
/-- a def that may be called by its name and may let an error out -/
structure CalE (Pg : Program) (w : World) (K : PySem.W.Frag) (mg : Str → Option Value) (base : Heap) (k : Nat) (x : Str) (sp : Sp) : Prop where
  ex : ∃ (f : Addr) (fd : FuncData) (ps : List Str), FnOk Pg w K mg base (L2.CX Pg w) k f fd ps sp ∧ mg x = some (.ref f) ∧ PySem.W.keepIn K (.ref f) = true ∧ Binds K fd ps []
structure MetE (Pg : Program) (w : World) (K : PySem.W.Frag) (mg : Str → Option Value) (base : Heap) (k : Nat) (C : Addr) (m : Str) (sp : Sp) : Prop where
  ex : ∃ (f : Addr) (fd : FuncData) (ps : List Str), Cls K C ∧ Meth K C m f ∧ FnOk Pg w K mg base (L2.CX Pg w) k f fd ps sp ∧ Binds K fd ps []
structure MakE (Pg : Program) (w : World) (K : PySem.W.Frag) (mg : Str → Option Value) (base : Heap) (k : Nat) (x : Str) (C : Addr) (sp : Sp) : Prop where
  ex : ∃ (f : Addr) (fd : FuncData) (ps : List Str), Mk K C f ∧ FnOk Pg w K mg base (L2.CX Pg w) k f fd ps sp ∧ mg x = some (.ref C) ∧ Binds K fd ps []
theorem passE0 {P : Program} {w : World} {X : Cx} : Passes (L2.CX P w) X E0 := fun _ _ _ _ _ _ _ ⟨_, _, _, _, _, _, _, _, _, _, _, _, h⟩ => h.elim
section
variable {X : Cx} {k j : Nat} {C : Addr} {x m : Str} {sp : Sp} {E : XK} {p pos apos : Pos} {e o : Expr} {es : List Expr} {ta : TE} {t : TA}
theorem pe_calE (c : CalE X.prog X.w X.K X.mg X.base k x sp) (hr : Room j X.A) (hk : k ≤ j) (hg : Gl X x) (hx : Passes (L2.CX X.prog X.w) X E) (ha : PA X (e :: es) t) (hdb : (x == ("__debug__" : Str)) = false := by decide)
    (h1 : starEach (e :: es) X.env = (false, eval e X.env) :: starEach es X.env := by rfl) (h2 : (backTo pos (starEach es X.env)).any (·.1) = false := by rfl) : PE X (.Call (.Name x p) (e :: es) [] pos) (tCall sp [] E t) := by
  obtain ⟨f, fd, ps, F, hm, kp, b⟩ := c.ex
  exact pe_call F (hr.mono hk) hg hm kp b .nil hx ha hdb h1 h2
theorem pe_makE (c : MakE X.prog X.w X.K X.mg X.base k x C sp) (hr : Room j X.A) (hk : k + 1 ≤ j) (hg : Gl X x) (hx : Passes (L2.CX X.prog X.w) X E) (ha : PA X (e :: es) t) (hdb : (x == ("__debug__" : Str)) = false := by decide)
    (h1 : starEach (e :: es) X.env = (false, eval e X.env) :: starEach es X.env := by rfl) (h2 : (backTo pos (starEach es X.env)).any (·.1) = false := by rfl) : PE X (.Call (.Name x p) (e :: es) [] pos) (tMake C sp [] E t) := by
  obtain ⟨f, fd, ps, M, F, hm, b⟩ := c.ex
  exact pe_make M F (hr.mono hk) hg hm b .nil hx ha hdb h1 h2
theorem pe_metE {pl : Sem Bool} (c : MetE X.prog X.w X.K X.mg X.base k C m sp) (hr : Room j X.A) (hk : k ≤ j) (hx : Passes (L2.CX X.prog X.w) X E) (he : PE X o ta) (ha : PA X (e :: es) t)
    (h1 : starEach (e :: es) X.env = (false, eval e X.env) :: starEach es X.env := by rfl) (h2 : (backTo pos (starEach es X.env)).any (·.1) = false := by rfl)
    (h3 : eval (.Call (.Attribute o m apos) (e :: es) [] pos) X.env = (do
      let ov ← eval o X.env
      standAt apos.atName
      let (f, first) ← holding [ov] (getMethod ov m pl)
      callWith pos f first (backTo pos (starEach (e :: es) X.env)) (backToKw pos (keywordEach [] X.env))) := by rfl) :
    PE X (.Call (.Attribute o m apos) (e :: es) [] pos) (tMeth C m sp [] E ta t) := by
  obtain ⟨f, fd, ps, cl, me, F, b⟩ := c.ex
  exact pe_meth he cl me F (hr.mono hk) b .nil hx ha h1 h2 h3
theorem pe_metWE {pl : Sem Bool} {Ew : St → XK} (c : MetE X.prog X.w X.K X.mg X.base k C m sp) (hr : Room j X.A) (hk : k ≤ j) (hx : ∀ σ, PassesAt (L2.CX X.prog X.w) X σ (Ew σ)) (he : PE X o ta) (ha : PA X (e :: es) t)
    (h1 : starEach (e :: es) X.env = (false, eval e X.env) :: starEach es X.env := by rfl) (h2 : (backTo pos (starEach es X.env)).any (·.1) = false := by rfl)
    (h3 : eval (.Call (.Attribute o m apos) (e :: es) [] pos) X.env = (do
      let ov ← eval o X.env
      standAt apos.atName
      let (f, first) ← holding [ov] (getMethod ov m pl)
      callWith pos f first (backTo pos (starEach (e :: es) X.env)) (backToKw pos (keywordEach [] X.env))) := by rfl) :
    PE X (.Call (.Attribute o m apos) (e :: es) [] pos) (tMethW C m sp Ew ta t) := by
  obtain ⟨f, fd, ps, cl, me, F, b⟩ := c.ex
  exact pe_methW he cl me F (hr.mono hk) b hx ha h1 h2 h3
end
section
variable {K : PySem.W.Frag} {c : Cfg} {S : Addr → Prop} {F0 H0 : Hp} {ρ : List SV} {N : Fi} {te ta tb : TE} {P Xp : DV → Prop} {C : Addr} {fld : Str} {f : Cfg → List DV → (DV → Prop) → (DV → Prop) → Prop}
theorem es_methW {W : WX} {tl : TA} {D : Addr} {m : Str} (hw : Wish K c S F0 H0 ρ C fld Xp W) (h : Ev K c ta ρ fun x => ∃ fs, x = .ins D fs ∧ fs.lookup m = none ∧ EvA K c tl ρ fun ds => f c (x :: ds) P Xp) :
    EvS K c S F0 H0 (tMethW D m (SpE K C fld f) (WE W) ta tl) ρ P := fun σ F H a Q q =>
  h _ σ F H a.s a.g.fh a.g.m _ fun v x F1 H1 g1 r1 h1 => by
    obtain ⟨fs, rfl, hl, h2⟩ := h1
    cases r1 with
    | ins ha rf => exact ⟨_, _, _, rfl, g1.fh _ _ ha, rf.no hl, h2 _ σ F1 H1 (a.go g1).s g1.fh g1.m _ fun vs ds F2 H2 g2 r2 h3 =>
        ⟨c, F2, _ :: ds, P, Xp, g2.fh, g2.m, .cons (.ins (g2.ff _ _ ha) (rf.mono g2.ff)) r2, h3, fun v d F3 H3 g3 r3 p => q v d F3 H3 ((g1.trans g2).trans g3) r3 p,
          fun e v d F3 H3 g3 r3 x he ht => hw σ e v d F3 H3 (a.go ((g1.trans g2).trans g3)) r3 x he ht⟩⟩
/-! items and parts of lists or tuples -/
def rIxA (K : PySem.W.Frag) : R2 := fun x y H Q => rIxL K x y H Q ∨ rIxT K x y H Q
theorem x_ixA (K : PySem.W.Frag) {X : Cx} (hK : X.K = K := by rfl) : IxR X (rIxA K) := (x_ixL K hK).or (x_ixT K hK)
theorem rv_ixA {x : DV} {ds : List DV} {j : Nat} {d : DV} (hx : x = .lst ds ∨ x = .tup ds) (hd : ds[j]? = some d) (h : P d) : RV2 K c (rIxA K) x (.int (j : Int)) P := fun F H v w r1 r2 ex m Q q => by
  rcases hx with rfl | rfl
  · exact .inl (rv_ixL hd h F H v w r1 r2 ex m Q q)
  · exact .inr (rv_ixT hd h F H v w r1 r2 ex m Q q)
theorem rv_ixA_L {x y : DV} (h : RV2 K c (rIxL K) x y P) : RV2 K c (rIxA K) x y P := fun F H v w r1 r2 ex m Q q => .inl (h F H v w r1 r2 ex m Q q)
/-- == of scalars or of rows -/
def rEqA (K : PySem.W.Frag) : R2 := fun x y H Q => rEq x y H Q ∨ rEqD K x y H Q
def rNeA (K : PySem.W.Frag) : R2 := fun x y H Q => rNe x y H Q ∨ rNeD K x y H Q
end
end VL

set_option Elab.async false
set_option linter.all false
set_option maxRecDepth 100000
set_option maxHeartbeats 4000000
/-! sorted(..) of a tuple of ints -/
namespace VS
open PySem PyProof.Rows Srt SrtO
section
variable {pg : Program} {w : World} {A : Around} {Er : Value → Shared → Prop} {s : Shared}
abbrev bag (h : Heap) (us : List Value) : Heap := (h.push (seqObj "list" #[] 0)).update h.objs.size (Obj.mapSeq (· ++ us.toArray))
theorem cat0 (us : List Value) : ((#[] : Array Value) ++ us.toArray).toList = us := by simp
/-- the items of a tuple, gathered in a new list -/
theorem gatherT {t : Addr} {us : List Value} {Q : List Value → Shared → Prop} (ht : IsTup s.heap t us.toArray) (z : us.length ≤ sizeLine) (k : Q us { s with heap := bag s.heap us }) :
    wpAny (model pg w) A (collect (.ref t)) Q Er s := by
  obtain ⟨o, ho, hc, n, hd⟩ := ht
  have at0 : (s.heap.push (seqObj "list" #[] 0)).get? s.heap.objs.size = some (seqObj "list" #[] 0) := Heap.get?_push_size _ rfl
  have hot : (s.heap.push (seqObj "list" #[] 0)).get? t = some o := Heap.get?_push_of_some _ ho
  unfold collect; refine wpAny_bind (wpAny_runValue (codeAny_builtin entry_proto_collect' ?_))
  show wpAny _ _ (do again (.builtin "list.__iadd__" ⟨[← newList [], .ref t], []⟩)) _ _ s
  refine wpAny_bind (wpAny_newList (wpAny_pure ⟨Code.quiet_builtin _ (by decide +kernel), codeAny_builtin entry_list_iadd' ?_⟩))
  show wpAny _ _ (Builtin.List.listExtendWith (.ref s.heap.objs.size) (.ref t) (.ref s.heap.objs.size)) _ _ { s with heap := s.heap.push (seqObj "list" #[] 0) }
  unfold Builtin.List.listExtendWith; refine wpAny_bind (wpAny_typeOf (T := "tuple") ⟨o, hot, hc⟩ ?_)
  rw [if_pos (by simp [show (Value.type "tuple" == Value.type "tuple") = true from rfl])]
  refine wpAny_bind (listItems_at hot hd ?_); refine wpAny_bind (listItems_at (n := 0) (xs := #[]) at0 rfl ?_)
  rw [if_neg (by simp)]; refine wpAny_bind (listUpdate_at (n := 0) (xs := #[]) at0 rfl ?_ (Nat.zero_le _) (by show (#[] ++ us.toArray).size ≤ _; simp only [Array.size_append, List.size_toArray, List.length_nil]; omega))
  refine wpAny_pure (show wpAny (model pg w) A (do
      let q ← load s.heap.objs.size
      match q.data with
      | .seq ys _ => pure ys.toList
      | _ => unsupported "internal:collect") Q Er { s with heap := bag s.heap us } from ?_)
  refine wpAny_bind (wpAny_load (get?_update_seq at0 _) ?_)
  show wpAny _ _ (pure ((#[] : Array Value) ++ us.toArray).toList) Q Er _
  rw [cat0]; exact wpAny_pure k
theorem sortT {t : Addr} {us : List Value} {ns : List Int} {Q : Value → Shared → Prop} (hI : IntsAre us ns) (ht : IsTup s.heap t us.toArray) (z : us.length ≤ sizeLine)
    (k : ∀ out : List Value, Srtd ltIv out → Stb ltIv out us → Q (.ref (s.heap.objs.size + 1)) { s with heap := sortedAll s.heap us out.toArray }) : wpAny (model pg w) A (call (.builtin "sorted") [.ref t]) Q Er s := by
  refine Calls.call_function_entry kind_sorted plain_sorted entry_sorted (args_sorted1 _) ?_
  unfold Builtin.«sorted»; refine wpAny_bind (m := checkCount "sorted" 1 1 _) (wpAny_pure ?_)
  refine wpAny_bind (gatherT ht z ?_); refine wpAny_bind (wpAny_newList ?_ z)
  have big : (bag s.heap us).objs.size = s.heap.objs.size + 1 := by rw [Heap.size_update, size_push']
  have here : ((bag s.heap us).push (seqObj "list" us.toArray 0)).get? (s.heap.objs.size + 1) = some (seqObj "list" us.toArray 0) := by rw [← big]; exact Heap.get?_push_size _ rfl
  show wpAny _ _ _ _ _ { s with heap := (bag s.heap us).push (seqObj "list" us.toArray 0) }
  rw [big]
  refine wpAny_bind (wpAny_holding (wpAny_call_entry slot_list_sort ⟨_, here, rfl⟩ entry_list_sort (list_sort_ord swo_int here z (fun h2 => ints_sortable hI h2) fun out hs hb => ⟨_, rfl, ?_⟩) (args_list_sort _)))
  exact wpAny_pure ⟨_, rfl, k out hs hb⟩
end
end VS
namespace VL
open PySem PySem.Spec PyProof.Rows L2
open Evl (Ex)
/-- sorted(t), t a tuple of ints -/
def rSortedTI (K : PySem.W.Frag) : List V → Hp → VK → Prop := fun vs H Q => ∃ (a : Addr) (ns : List Int), vs = [V.ref a] ∧ SqT K H a (ns.map V.int) ∧ ∀ (ms : List Int) (p : Addr), ms.Perm ns → ms.Pairwise (· ≤ ·) → H p = none → Q (.ref p) (upd H p (.lst (ms.map V.int)))
theorem x_sortedTI (K : PySem.W.Frag) {X : Cx} (hK : X.K = K := by rfl) : CallR X (.builtin "sorted") (rSortedTI K) := by
  subst hK
  intro pins s σ H vs us Q I r ⟨a, ns, ev, hs, q⟩
  subst ev
  obtain ⟨its, rv, hl, hz⟩ := I.tuple hs
  rw [Vals.ref1 r]
  have hi := rv.ints
  refine VS.sortT hi hl (by rw [← rv.length]; exact hz) fun out h1 h2 => ?_
  obtain ⟨k1, k2, k3⟩ := SrtO.ints_out hi h1 h2
  obtain ⟨ep, he'⟩ := PyProof.Rows.sortedAll_at s.heap its out.toArray
  have fit : ((out.map SrtO.iv).map V.int).length ≤ sizeLine := by rw [List.length_map] at hz ⊢; rw [k2.length_eq]; exact hz
  refine ⟨.ref _, upd H (s.heap.objs.size + 1) (.lst ((out.map SrtO.iv).map V.int)), ?_, rfl, q _ _ k2 k3 (I.hok.fresh (Nat.le_succ _))⟩
  exact I.laid (t' := s.toks) (fun _ _ => PyProof.Rows.sortedAll_old) (Nat.le_succ _) ⟨fit, out, ep, vals_of_ints k1, he'⟩
def rSortedA (K : PySem.W.Frag) : List V → Hp → VK → Prop := fun vs H Q => rSortedI K vs H Q ∨ rSortedTI K vs H Q
theorem x_sortedA (K : PySem.W.Frag) {X : Cx} (hK : X.K = K := by rfl) : CallR X (.builtin "sorted") (rSortedA K) := by
  intro pins s σ H vs us Q I r h
  have h : rSortedI K vs H Q ∨ rSortedTI K vs H Q := h
  exact h.elim (fun h => x_sortedI K hK pins s σ H vs us Q I r h) (fun h => x_sortedTI K hK pins s σ H vs us Q I r h)
section
variable {K : PySem.W.Frag} {c : Cfg} {P : DV → Prop}
theorem rva_sortedA {x : DV} {ns : List Int} (hx : x = .lst (intsD ns) ∨ x = .tup (intsD ns)) (h : ∀ ms : List Int, ms.Perm ns → ms.Pairwise (· ≤ ·) → P (.lst (intsD ms))) : RVA K c (rSortedA K) [x] P := fun F H vs r ex m Q q => by
  cases r with
  | cons r1 r2 =>
    cases r2
    have fin : ∀ (ms : List Int) (p : Addr), ms.Perm ns → ms.Pairwise (· ≤ ·) → H p = none → Q (.ref p) (upd H p (.lst (ms.map V.int))) := fun ms p h1 h2 hp =>
      new_lst relA_of_ints ex m hp q (h ms h1 h2)
    rcases hx with rfl | rfl
    · cases r1 with
      | lst ha ra =>
        have e := relA_ints ra
        subst e
        exact .inl ⟨_, ns, rfl, Evl.sq_of (ex _ _ ha), fin⟩
    · cases r1 with
      | tup ha ra =>
        have e := relA_ints ra
        subst e
        exact .inr ⟨_, ns, rfl, Evl.ex_t ex ha, fin⟩
end
end VL

set_option Elab.async false
set_option linter.all false
set_option maxRecDepth 100000
set_option maxHeartbeats 2000000
/-! == and != by a class's own __eq__, whatever it answers -/
namespace VQ
open PySem PySem.Spec PyProof.Rows
section
variable {prog : Program} {w : World} {A : Around} {E : Value → Shared → Prop} {s : Shared} {K : PySem.W.Frag} {x C f L : Addr} {ox : Obj} {od : Option Obj} {h₀ : Heap} {m : Str → Option Value} {b tb : Value}
theorem ne_body {Q : Fin → Shared → Prop} (hu : A.units < cLine) (X : K.In s.heap) (I : PySem.W.InstAt s.heap x ox C od) (hs : PySem.W.findIn K (.ref C) "__eq__" = some (some (.ref f))) (hf : PySem.W.isFn K (.ref f) = true)
    (h : wpAny (model prog w) A (call (.ref f) [.ref x, b]) (fun v s' => ∃ k, v = .bool k ∧ Q (.done (.ret (.bool (!k)))) s') E s) : wpAny (model prog w) A (Builtin.«object.__ne__» ⟨[.ref x, b], []⟩) Q E s := by
  unfold Builtin.«object.__ne__»
  repeat (first
    | with_reducible refine wpAny_cRoomFor hu ?_
    | (refine wpAny_bind (m := callSpecialIfBound? (.ref x) (Str.ofString "__eq__") [b]) (PySem.W.ifBound_K X I hs hf (wpAny_mono h (fun r s' hr => by
          obtain ⟨k, rfl, hq⟩ := hr
          repeat (first | exact hq | exact wpAny_pure hq | exact wpAny_truthy_bool hq | (refine wpAny_bind (m := truthy (.bool _)) (wpAny_truthy_bool ?_)) | wp_step)) fun _ _ e => e)))
    | wp_step)
theorem ne_call {Q : Value → Shared → Prop} (hu : A.units + 1 < cLine) (X : K.In s.heap) (I : PySem.W.InstAt s.heap x ox C od) (hm : PySem.W.mroIn K C (.type "object") = some true) (hs : PySem.W.findIn K (.ref C) "__eq__" = some (some (.ref f))) (hf : PySem.W.isFn K (.ref f) = true)
    (h : wpAny (model prog w) A.in1 (call (.ref f) [.ref x, b]) (fun v s' => ∃ k, v = .bool k ∧ Q (.bool (!k)) s') E s) : wpAny (model prog w) A (call (.builtin "object.__ne__") [.ref x, b]) Q E s :=
  wpAny_call (codeAny_call_builtin F.cmp_object.ne.plain F.cmpEntry_ne (PySem.W.check_slot F.cmpKind_ne F.cmpSplit_ne (I.type.andThen (PySem.W.looks_mroIn X hm)) (F.cmpArgs_ne _ _)
    (ne_body (A := A.in1) hu X I hs hf (wpAny_mono h (fun v s' hv => by
      obtain ⟨k, rfl, hq⟩ := hv
      exact ⟨k, rfl, by first | exact hq | exact wpAny_pure hq⟩) fun _ _ e => e))))
theorem ne_bound {args : List Value} {Q : Option Value → Shared → Prop} (X : K.In s.heap) (I : PySem.W.InstAt s.heap x ox C od) (hn : PySem.W.findIn K (.ref C) "__ne__" = some (some (.builtin "object.__ne__")))
    (h : wpAny (model prog w) A (call (.builtin "object.__ne__") (.ref x :: args)) (fun v => Q (some v)) E s) : wpAny (model prog w) A (callSpecialIfBound? (.ref x) "__ne__" args) Q E s := by
  simp only [callSpecialIfBound?, bindSpecialIfBound?]
  refine wpAny_holding (wpAny_bind (wpAny_bind (wpAny_bind (I.type.here ((PySem.W.looks_findIn X hn).here ?_)))))
  have last : wpAny (model prog w) A (call (.builtin "object.__ne__") ([.ref x] ++ args) >>= fun v => pure (some v)) Q E s := wpAny_bind (wpAny_mono h (fun _ _ z => wpAny_pure z) fun _ _ z => z)
  refine wpAny_bind (wpAny_askSetting (wpAny_ite ?_)); split
  · exact wpAny_bind (wpAny_of_eq (F.cmp_object.ne.bind _) (wpAny_pure (by exact last)))
  · exact wpAny_tryCatch (wpAny_bind (wpAny_of_eq (F.cmp_object.ne.bind _) (wpAny_pure (by exact last))))
theorem ne_K {Q : Value → Shared → Prop} (hu : A.units + 1 < cLine) (F : Fr h₀ L s.heap m) (X₀ : K.In h₀) (I : PySem.W.InstAt s.heap x ox C od) (hb : PySem.W.Looks (model prog w) s.heap (typeOf b) (.ref C)) (hm : PySem.W.mroIn K C (.type "object") = some true)
    (hn : PySem.W.findIn K (.ref C) "__ne__" = some (some (.builtin "object.__ne__"))) (hs : PySem.W.findIn K (.ref C) "__eq__" = some (some (.ref f))) (hf : PySem.W.isFn K (.ref f) = true)
    (h : wpAny (model prog w) A.in1 (call (.ref f) [.ref x, b]) (fun v s' => ∃ k, v = .bool k ∧ Q (.bool (!k)) s') E s) : wpAny (model prog w) A (richCompare .NotEq (.ref x) b) Q E s := by
  have X := X₀.keeps F.keep
  have one : wpAny (model prog w) A (tryCompare (.ref x) "__ne__" b) (fun r s' => ∃ k, r = some (.bool k) ∧ Q (.bool k) s') E s := by
    unfold tryCompare
    refine wpAny_bind (ne_bound X I hn (ne_call hu X I hm hs hf (wpAny_mono h (fun v s' hv => ?_) fun _ _ e => e)))
    obtain ⟨k, ev, hq⟩ := hv
    exact ⟨k, ev, wpAny_pure ⟨_, rfl, hq⟩⟩
  simp only [richCompare, cmpInfo_NotEq, oneThing_ref]
  refine wpAny_holding (wpAny_bind (wpAny_cRoomFor (Nat.lt_of_succ_lt hu) ?_))
  refine wpAny_bind (I.type.here (wpAny_bind (hb.here ?_)))
  rw [show (Value.ref C != Value.ref C) = false from by simp]
  simp only [Bool.false_eq_true, if_false]
  refine wpAny_bind (wpAny_pure ?_)
  simp only [Bool.false_eq_true, if_false]
  refine wpAny_bind (wpAny_mono one (fun r s' z => ?_) fun _ _ e => e)
  obtain ⟨k, rfl, hq⟩ := z
  first | exact wpAny_pure hq | exact hq
end
end VQ
namespace VL
open PySem PySem.Spec PyProof.Rows L2
/-- x == y, both of the class C -/
def rOwnEq (C : Addr) (sp : Sp) (neg : Bool) : R2 := fun x y H Q => ∃ a b dx dy fs gs, x = .ref a ∧ y = .ref b ∧ H a = some (.ins C dx fs) ∧ H b = some (.ins C dy gs) ∧ sp [x, y] H (fun v H' => ∃ k, v = .bl k ∧ Q (.bl (neg != k)) H') E0
structure NeF (K : PySem.W.Frag) (C : Addr) : Prop where
  ne : PySem.W.findIn K (.ref C) "__ne__" = some (some (.builtin "object.__ne__"))
  ob : PySem.W.mroIn K C (.type "object") = some true
  kl : PySem.W.findIn K (.ref C) "__class__" = some (some (.builtin "object.__class__"))
  kg : PySem.W.specialIn K (.builtin "object.__class__") "__get__" = some (some (.builtin "getset_descriptor.__get__"))
  kt : PySem.W.takesIn K (.builtin "object.__class__") = some true
section
variable {X : Cx} {k : Nat} {C : Addr} {sp : Sp}
theorem run_own {A : Around} {f : Addr} {fd : FuncData} {ps : List Str} {pins : List (Addr × Obj)} {σ : L2.St} {H : Hp} {s : Shared} {Q : VK} {a b : Addr} {R : Value → Shared → Prop} (F : FnOk X.prog X.w X.K X.mg X.base CX0 k f fd ps sp) (hb : Binds X.K fd ps []) (hr : Room k A) (hfr : A.frames = X.A.frames) (I : Inv X pins σ H s)
    (h : sp [.ref a, .ref b] H Q E0) (fin : ∀ v u H' s', Inv X pins σ H' s' → RelV v u → Q v H' → R u s') : wpAny (model X.prog X.w) A (call (.ref f) [.ref a, .ref b]) R X.xe s := by
  have e0 : Env0 X.prog X.w X.K X.mg X.base A X.stack s H := by
    obtain ⟨q1, q2, q3, q4, q5, q6, q7, q8⟩ := I.env0
    exact ⟨by rw [hfr]; exact q1, q2, q3, q4, q5, q6, q7, q8⟩
  have hl := F.len _ _ _ _ h
  refine wpAny_call (codeAny_mono (F.run A X.stack s H ⟨[.ref a, .ref b], []⟩ [.ref a, .ref b] [.ref a, .ref b] _ E0 hr e0 (by simpa using hb s [.ref a, .ref b] I.kIn (by simpa using hl)) (.cons rfl (.cons rfl .nil)) h) fun r s' hq => ?_)
  cases r with
  | error e => exact False.elim hq
  | ok fl =>
    cases fl with
    | ret u =>
      obtain ⟨z, H', I', rz, q⟩ := I.after hq
      exact fin z u H' s' I' rz q
    | next => exact False.elim hq
    | brk => exact False.elim hq
    | cont => exact False.elim hq
theorem op_ownEq (c : Met X.prog X.w X.K X.mg X.base k C "__eq__" sp) {j : Nat} (hr : Room j X.A) (hk : k ≤ j) : OpR X (compareOp .Eq) (rOwnEq C sp false) := by
  intro pins s σ H x y v u Q I rx ry h
  obtain ⟨f, fd, ps, cl, me, F, bi⟩ := c.ex
  obtain ⟨a, b, dx, dy, fs, gs, rfl, rfl, ha, hb', h⟩ := h
  cases rx
  cases ry
  obtain ⟨mA, J, _⟩ := ins_get I.hok ha
  obtain ⟨mB, J', _⟩ := ins_get I.hok hb'
  obtain ⟨od, J, _⟩ := J.look
  obtain ⟨od', J', _⟩ := J'.look
  obtain ⟨m, hF⟩ := I.fr
  have hr := hr.mono hk
  show wpAny (model X.prog X.w) X.A (richCompare .Eq (.ref a) (.ref b)) (EP X pins σ Q) X.xe s
  refine PySem.W.cmp_K (op := .Eq) (tb := .ref C) (by have := hr.un; omega) hF I.ok.mod.kin J J'.type (by simp [PySem.W.notFirst]) me.at_ me.fn ?_
  refine run_own F bi hr rfl I h fun v u H' s' I' rv q => ?_
  obtain ⟨k, rfl, q⟩ := q
  obtain ⟨t, rfl⟩ : ∃ t : Unit, u = .bool k := ⟨(), rv⟩
  exact ⟨.bl k, H', I', rfl, by simpa using q⟩
theorem op_ownNe (c : Met X.prog X.w X.K X.mg X.base k C "__eq__" sp) (nf : NeF X.K C) {j : Nat} (hr : Room j X.A) (hk : k + 1 ≤ j) : OpR X (compareOp .NotEq) (rOwnEq C sp true) := by
  intro pins s σ H x y v u Q I rx ry h
  obtain ⟨f, fd, ps, cl, me, F, bi⟩ := c.ex
  obtain ⟨a, b, dx, dy, fs, gs, rfl, rfl, ha, hb', h⟩ := h
  cases rx
  cases ry
  obtain ⟨mA, J, _⟩ := ins_get I.hok ha
  obtain ⟨mB, J', _⟩ := ins_get I.hok hb'
  obtain ⟨od, J, _⟩ := J.look
  obtain ⟨od', J', _⟩ := J'.look
  obtain ⟨m, hF⟩ := I.fr
  have hr := hr.mono hk
  show wpAny (model X.prog X.w) X.A (richCompare .NotEq (.ref a) (.ref b)) (EP X pins σ Q) X.xe s
  refine VQ.ne_K (by have := hr.un; omega) hF I.ok.mod.kin J J'.type nf.ob nf.ne me.at_ me.fn ?_
  refine run_own F bi hr.in1 rfl I h fun v u H' s' I' rv q => ?_
  obtain ⟨k, rfl, q⟩ := q
  obtain ⟨t, rfl⟩ : ∃ t : Unit, u = .bool k := ⟨(), rv⟩
  exact ⟨k, rfl, .bl (!k), H', I', rfl, by simpa using q⟩
end
section
variable {K : PySem.W.Frag} {c : Cfg} {P : DV → Prop} {C : Addr} {f : Cfg → List DV → (DV → Prop) → Prop}
theorem rv_own {neg : Bool} {fs gs : List (Str × DV)} (h : f c [.ins C fs, .ins C gs] fun d => ∃ k, d = .bl k ∧ P (.bl (neg != k))) : RV2 K c (rOwnEq C (SpD K f) neg) (.ins C fs) (.ins C gs) P := fun F H v w r1 r2 ex m Q q => by
  cases r1 with
  | ins h1 s1 =>
    cases r2 with
    | ins h2 s2 =>
      refine ⟨_, _, _, _, _, _, rfl, rfl, ex _ _ h1, ex _ _ h2, c, F, [.ins C fs, .ins C gs], _, ex, m, .cons (.ins h1 s1) (.cons (.ins h2 s2) .nil), h, fun v d F' H' g r p => ?_⟩
      obtain ⟨k, rfl, p⟩ := p
      cases r
      exact ⟨k, rfl, q _ _ F' H' g (.bl _) p⟩
/-- isinstance(o, C) of an object of the class -/
theorem rva_isiC {fs : List (Str × DV)} (cl : Cls K C) (e : NeF K C) (h : P (.bl true)) : RVA K c (rIsi K) [.ins C fs, .adr C] P := fun F H vs r ex m Q q => by
  cases r with
  | cons r1 r2 =>
    cases r2 with
    | cons r3 r4 =>
      cases r4
      cases r3
      cases r1 with
      | ins h1 s1 => exact ⟨_, _, _, _, true, rfl, .own C, .base (.ins (ex _ _ h1) cl e.kl e.kg e.kt e.ob), by unfold PySem.W.kitOne; rw [if_pos (by simp)], q _ _ F H (Go.refl ex m) (.bl true) h⟩
end
end VL

set_option Elab.async false
set_option linter.all false
set_option maxRecDepth 100000
set_option maxHeartbeats 2000000
/-! tuple(d.items()) -/
namespace VI
open PySem PySem.Spec PyProof.Rows
open AutoSeq1 (wpAny_loadPart')
section
variable {pg : Program} {w : World} {KT : Type} [DecidableEq KT] {knd : KeyKind pg w KT} {A : Around} {Er : Value → Shared → Prop} {s : Shared} {r d : Addr} {kvs : List (KT × Value)} {ep : Nat}
theorem newItems {Q₁ : Value → Shared → Prop} (hh : A.handled = none) (hv : s.heap.IsItemsView r d) (hm : s.heap.DictAt knd d kvs ep) (z : kvs.length ≤ sizeLine)
    (k : ∀ (h' : Heap) (tk : Nat) (as : List Addr), (∀ b o, s.heap.get? b = some o → h'.get? b = some o) → as.length = kvs.length → PySem.W.KdxG knd kvs s.heap.objs.size h' as →
      Q₁ (.ref h'.objs.size) { s with heap := h'.push { cls := .type "tuple", data := .seq (as.map Value.ref).toArray }, toks := tk }) :
    codeAny (model pg w) A (.call (.builtin "tuple.__new__") ⟨[.type "tuple", .ref r], []⟩) (wants Q₁ Er) s := by
  refine codeAny_of_tree ?_
  show wpAny _ A.in1 (do checkBuiltinCall "tuple.__new__" ⟨[.type "tuple", .ref r], []⟩; again (.builtin "tuple.__new__" ⟨[.type "tuple", .ref r], []⟩)) _ _ s
  refine wpAny_bind (wpAny_of_eq (F.newCall_tuple_1 _) (wpAny_pure ⟨plainId_quiet F.plain_tuple_new _, codeAny_builtin F.entry_tuple_new ?_⟩))
  rw [Around.under_plainId F.plain_tuple_new _]
  have e1 := sub_tuple_self
  have e2 := init_tuple_lookup
  have e3 := madeHere_tuple
  have hT : s.TypeIs (.ref r) "dict_items" := let ⟨o, ho, hc, _⟩ := hv; ⟨o, ho, hc⟩
  wp_walk using wpAny_typeOf hT, PySem.W.kdx_collect (A := A.in1) (knd := knd) (kvs := kvs) (ep := ep) (show A.in1.handled = none from hh) hv hm z
  intro h' tk as hk hl hG
  show wpAny _ _ (Builtin.Tuple.tupleExact (as.map Value.ref).toArray >>= fun v => ret v) _ _ _
  unfold Builtin.Tuple.tupleExact
  refine wpAny_bind (wpAny_newObj_type ?_ (by show (as.map Value.ref).toArray.size ≤ sizeLine; simp only [List.size_toArray, List.length_map]; omega))
  exact wpAny_pure (k h' tk as hk hl hG)
theorem callItems {Q : Value → Shared → Prop} (hh : A.handled = none) (hv : s.heap.IsItemsView r d) (hm : s.heap.DictAt knd d kvs ep) (z : kvs.length ≤ sizeLine)
    (k : ∀ (h' : Heap) (tk : Nat) (as : List Addr), (∀ b o, s.heap.get? b = some o → h'.get? b = some o) → as.length = kvs.length → PySem.W.KdxG knd kvs s.heap.objs.size h' as →
      Q (.ref h'.objs.size) { s with heap := h'.push { cls := .type "tuple", data := .seq (as.map Value.ref).toArray }, toks := tk }) : wpAny (model pg w) A (call (.type "tuple") [.ref r]) Q Er s := by
  refine callType_codes (Q₁ := fun obj s₁ => s₁.TypeIs obj "tuple" ∧ Q obj s₁) F.called_tuple (F.typeCall_tuple_1 _) F.entry_object_init
    (newItems (A := A.in1) hh hv hm z fun h' tk as hk hl hG => ⟨⟨_, Heap.get?_push_size _ rfl, rfl⟩, k h' tk as hk hl hG⟩) fun obj s₁ h₁ => ?_
  exact ⟨h₁.1, F.args_object_init_2 obj _, object_init_meets F.called_tuple.init.lookup F.called_tuple.made (by decide) pg w A.in1 _ s₁ ⟨h₁.1, rfl, h₁.2⟩⟩
end
end VI
namespace L2
open PySem PySem.Spec PyProof.Rows
/-- the new pairs and the tuple of them -/
def rItemsT : V → Hp → VK → Prop := fun x H Q => ∃ (d : Addr) (kvs : List (Key × V)), x = .ref d ∧ H d = some (.dK kvs) ∧
  ∀ (H' : Hp) (p : Addr) (ts : List Addr), (∀ b o, H b = some o → H' b = some o) → (∀ t ∈ ts, H t = none) → Paired (fun (t : Addr) (q : Key × V) => H' t = some (.tup [kV q.1, q.2])) ts kvs → H' p = none → Q (.ref p) (upd H' p (.tup (ts.map V.ref)))
def tTupItems (te : TE) : TE := fun σ H Q => te σ H fun x H1 => rItemsT x H1 Q
section
variable {X : Cx} {e : Expr} {te : TE} {p apos cpos pos : Pos}
theorem pairs_laid {pins : List (Addr × Obj)} {σ : L2.St} {H : Hp} {s : Shared} {h' : Heap} {tk : Nat} {kvs : List (Key × V)} {vs : List (Key × Value)} {as : List Addr} (I : Inv X pins σ H s) (kv : KV kvs vs)
    (hk : ∀ b o, s.heap.get? b = some o → h'.get? b = some o) (hl : as.length = vs.length) (hG : PySem.W.KdxG (mixKind X.prog X.w) vs s.heap.objs.size h' as) :
    ∃ H' : Hp, (∀ b o, H b = some o → H' b = some o) ∧ (∀ t ∈ as, H t = none) ∧ Paired (fun (t : Addr) (q : Key × V) => H' t = some (.tup [kV q.1, q.2])) as kvs ∧ Inv X pins σ H' { s with heap := h', toks := tk } := by
  have len : as.length = kvs.length := by have := Paired.length kv; omega
  have nd : as.Nodup := hG.rise.imp fun {a b} (h : a < b) => Nat.ne_of_lt h
  have gone : ∀ t ∈ as, H t = none := fun t ht => I.hok.fresh (Nat.le_of_lt (hG.above t ht))
  have here := LiI.putT_at as kvs H len nd
  have else_ : ∀ b, b ∉ as → LiI.putT H as kvs b = H b := fun b hb => LiI.putT_off as kvs H hb
  have old : ∀ b o, s.heap.get? b = some o → b ∉ as := fun b o eb z => absurd (Heap.lt_size eb) (Nat.not_lt.mpr (Nat.le_of_lt (hG.above b z)))
  have kept : ∀ b u, H b = some u → LiI.putT H as kvs b = some u := fun b u eb => by rw [else_ b (fun z => by rw [gone b z] at eb; cases eb)]; exact eb
  refine ⟨LiI.putT H as kvs, kept, gone, here, ?_⟩
  refine I.call' (ch := []) rfl ⟨fun b o q _ _ _ => hk b o q, fun b o q _ _ _ => ⟨o.slots, hk b o q⟩, fun b o q n _ => (else_ b (old b o q)).trans n, fun b o q _ => ⟨o, hk b o q⟩, fun b xs q => kept b _ q, fun b o u q => kept b _ q, fun b ps q => ⟨#[], by rw [kept b _ q]; simp⟩⟩ (fun b u q => ?_) I.bare fun b z => by simp at z
  by_cases hb : b ∈ as
  · obtain ⟨j, pk, i1, i2, i3⟩ := LiI.paired_ix here hb
    rw [i3] at q; cases q
    obtain ⟨key, k, x, f1, f2, f3⟩ := hG.pairs j b i1
    obtain ⟨qv, g1, g2, g3⟩ := LiI.paired_get kv i2
    rw [f1] at g1; cases g1
    have rk : RelV (kV pk.1) key := by rw [g2]; exact relV_key (show keyIs k key = true from f2)
    exact ⟨by show 2 ≤ sizeLine; decide, [key, x], .cons rk (.cons g3 .nil), ⟨_, f3, rfl, _, rfl⟩⟩
  · rw [else_ b hb] at q
    exact (I.hok b u q).stay (fun c v _ y => hk c v y) (fun c y => kept c _ y) fun c xs y => kept c _ y
theorem pe_tupItems (hc : X.calm = true) (he : PE X e te) (hg : Gl X "tuple") (hm : X.mg "tuple" = none) (hv : bootBuiltins "tuple" = some (.type "tuple")) (hbase : attributeBase e "items" X.env (eval e X.env) = eval e X.env := by rfl) (hline : (apos.endLine == cpos.line) = true := by rfl)
    (hs : starEach [.Call (.Attribute e "items" apos) [] [] cpos] X.env = (false, eval (.Call (.Attribute e "items" apos) [] [] cpos) X.env) :: starEach [] X.env := by rfl) :
    PE X (.Call (.Name "tuple" p) [.Call (.Attribute e "items" apos) [] [] cpos] [] pos) (tTupItems te) := by
  refine ⟨fun pins s σ H Q I hq => ?_⟩
  refine wpAny_Call_Name_kw (ld_blt I hg hm hv (PyProof.Rows.callWith_type1 ?_ hs rfl))
  rw [hs]
  show wpAny _ _ (spliced ((false, eval (.Call (.Attribute e "items" apos) [] [] cpos) X.env) :: backTo pos (starEach [] X.env))) _ _ s
  refine Calls.spliced_cons (wpAny_Call_method (T := "dict") (id := "dict.items") hbase rfl hline F.plainAttrs_dict F.slot_dict_items F.type_dict_items (thn (he.run pins s σ H _ I hq) fun u s1 hh => ?_))
  obtain ⟨x, H1, I1, rx, d, kvs, ex, hd, q⟩ := hh
  subst ex
  obtain rfl : u = Value.ref d := rx
  obtain ⟨hz, h0, vs, kv, hdo⟩ := I1.hok d _ hd
  obtain ⟨ep, hat⟩ := hdo.dictAt
  have lk : kvs.length = vs.length := Paired.length kv
  have I2 : Inv X pins σ H1 { s1 with heap := s1.heap.push { cls := .type "dict_items", data := .fields #[.ref d] } } := I1.kept (t' := s1.toks) fun b ob q => Heap.get?_push_of_some _ q
  refine ⟨hdo.typeIs, hdo.mapOf.noDict, ?_⟩
  show wpAny _ _ (callWith cpos (.builtin "dict.items") [.ref d] [] []) _ X.xe s1
  refine method_meetsIn F.slot_dict_items F.entry_dict_items rfl (PySem.evalArgs_none ⟨rfl, hdo.typeIs, F.args_dict_items_1 _, _, meets_dict_items (mixKind X.prog X.w) d h0, ⟨vs, hdo⟩, Calls.spliced_nil ?_⟩)
  refine VI.callItems (knd := mixKind X.prog X.w) (kvs := vs) (ep := ep) (I1.ok.hd hc) ⟨_, Heap.get?_push_size _ rfl, rfl, rfl⟩ (hat.push _) (by omega) fun h' tk as hk hl hG => ?_
  obtain ⟨H', k1, k2, k3, J⟩ := pairs_laid (tk := tk) I2 kv hk hl hG
  have la : as.length = kvs.length := by omega
  have J2 : Inv X pins σ (upd H' h'.objs.size (.tup (as.map V.ref))) { s1 with heap := h'.push { cls := .type "tuple", data := .seq (as.map Value.ref).toArray }, toks := tk } :=
    J.laid (t' := tk) (fun b o eb => Heap.get?_push_of_some _ eb) (Nat.le_refl _) (show ObjOk X.prog X.w _ _ _ (.tup (as.map V.ref)) from ⟨by rw [List.length_map]; omega, as.map Value.ref, LiI.vals_refs as, IsTup.new _ _⟩)
  exact ⟨.ref h'.objs.size, _, J2, rfl, q H' _ as k1 k2 k3 (J.hok.fresh (Nat.le_refl _))⟩
end
end L2
namespace VI
open PySem PySem.Spec PyProof.Rows
open AutoSeq1 (wpAny_loadPart')
theorem mul_one (l : Addr) (items : Array Value) (n : Nat) (dd : Option Addr) (sl : Array (Option Value)) (u : Tok) :
    Meets (Builtin.«tuple.__mul__» ⟨[.ref l, .int 1 u], []⟩) (fun _ R s => s.heap.get? l = some { cls := .type "tuple", dict := dd, data := .seq items n, slots := sl } ∧ R (.ok (.ret (Value.ref l))) s) :=
  .of_wp fun prog w A R s h => by
    obtain ⟨hp, g, d, tk, os⟩ := s
    obtain ⟨hl, h⟩ := h
    have f1 := AutoSeq1.idx_int
    have c1 : (items.isEmpty || (1 : Int) == 1) = true := by simp
    wp_walk using wpAny_loadPart' hl
    repeat (first
      | (refine wpAny_ite_true (decide_eq_true c1) ?_; wp_walk using wpAny_loadPart' hl)
      | (refine wpAny_ite_false (by decide) ?_; wp_walk using wpAny_loadPart' hl))
    exact ⟨_, rfl, h⟩
end VI
namespace L2
open PySem PySem.Spec PyProof.Rows
def rRepT1 (K : PySem.W.Frag) : R2 := fun x y H Q => ∃ l xs, x = .ref l ∧ y = .int 1 ∧ SqT K H l xs ∧ Q (.ref l) H
theorem op_repT1 {X : Cx} : OpR X (binaryOp .Mult) (rRepT1 X.K) := by
  intro pins s σ H x y v u Q I rx ry h
  obtain ⟨l, xs, rfl, rfl, hT, q⟩ := h
  cases rx
  obtain ⟨t, rfl⟩ := ry
  obtain ⟨its, r, ⟨⟨cls, dd, data, sl⟩, ho, hc, n, hd⟩, hs⟩ := I.tuple hT
  simp only at hc hd
  subst hc hd
  refine wpAny_binaryOp_repeat_ref (T := "tuple") (U := "int") (by decide) ⟨_, ho, rfl⟩ (fun s' => typeIs_int s' 1 t) noFill_tuple_mul F.fills_int_mul F.slot_int_rmul repeat_tuple F.slot_int_index.lookup
    (call_meets F.slot_int_rmul (typeIs_int s 1 t) F.entry_int_rmul (F.args_int_rmul_2 _ _) (int_rmul_tuple 1 t l its.toArray n dd sl)
      ⟨ho, rfl, ⟨_, ho, rfl⟩, call_meets F.slot_tuple_mul ⟨_, ho, rfl⟩ F.entry_tuple_mul (F.args_tuple_mul_2 _ _) (VI.mul_one l its.toArray n dd sl t) ⟨ho, ?_⟩⟩)
  exact ⟨.ref l, H, I, rfl, q⟩
end L2
namespace VL
open PySem PySem.Spec PyProof.Rows L2
open Evl (Ex)
def rRepA (K : PySem.W.Frag) : R2 := fun x y H Q => rRepT K x y H Q ∨ rRepT1 K x y H Q
theorem x_repT (K : PySem.W.Frag) {X : Cx} (hK : X.K = K := by rfl) : OpR X (binaryOp .Mult) (rRepA K) := by
  subst hK
  intro pins s σ H x y v u Q I r1 r2 h
  have h : rRepT X.K x y H Q ∨ rRepT1 X.K x y H Q := h
  exact h.elim (fun h => op_repT pins s σ H x y v u Q I r1 r2 h) fun h => op_repT1 pins s σ H x y v u Q I r1 r2 h
section
variable {K : PySem.W.Frag} {c : Cfg} {ρ : List SV} {P : DV → Prop} {te to : TE}
theorem RelA.rep {F : Hp} {vs : List V} {ds : List DV} (r : RelA K F vs ds) : ∀ n : Nat, RelA K F (List.replicate n vs).flatten (List.replicate n ds).flatten
  | 0 => .nil
  | n + 1 => by
    rw [List.replicate_succ, List.replicate_succ, List.flatten_cons, List.flatten_cons]
    have := RelA.rep r n
    generalize (List.replicate n vs).flatten = us at this
    generalize (List.replicate n ds).flatten = es at this
    clear n
    induction r using RelA.rec (motive_1 := fun _ _ _ => True) (motive_3 := fun _ _ _ => True) with
    | nil => exact this
    | cons h _ _ ih => exact .cons h ih
    | _ => trivial
theorem rv_repT {ds : List DV} {n : Nat} (h1 : 1 ≤ n) (h2 : n ≤ 1000) (h3 : ds ≠ []) (h4 : ds.length ≤ 1000) (h : P (.tup (List.replicate n ds).flatten)) : RV2 K c (rRepA K) (.tup ds) (.int (n : Int)) P := fun F H v w r1 r2 ex m Q q => by
  cases r2
  cases r1 with
  | tup ha ra =>
    by_cases e : n = 1
    · subst e
      have z : (List.replicate 1 ds).flatten = ds := by simp
      rw [z] at h
      exact .inr ⟨_, _, rfl, rfl, Evl.ex_t ex ha, q _ _ F H (Go.refl ex m) (.tup ha ra) h⟩
    · refine .inl ⟨_, _, _, rfl, rfl, Evl.ex_t ex ha, fun z => h3 ?_, by omega, by omega, by rw [ra.len]; exact h4, fun p hp => ?_⟩
      · rw [z] at ra
        cases ra
        rfl
      · rw [Int.toNat_natCast]
        exact new_tup (ra.rep n) ex m hp q h
/-- xs[::-1] -/
theorem RelA.rev {F : Hp} : ∀ {vs : List V} {ds : List DV}, RelA K F vs ds → RelA K F vs.reverse ds.reverse
  | _, _, .nil => .nil
  | _, _, .cons h r => by
    rw [List.reverse_cons, List.reverse_cons]
    exact (RelA.rev r).snoc h
theorem ev_revL (h : Ev K c te ρ fun x => ∃ ds, x = .lst ds ∧ P (.lst ds.reverse)) : Ev K c (tRevL K te) ρ P := fun B σ F H s ex m Q q =>
  h B σ F H s ex m _ fun v x F1 H1 g1 r1 p => by
    obtain ⟨ds, rfl, p⟩ := p
    cases r1 with
    | lst ha ra => exact ⟨_, _, rfl, Evl.sq_of (g1.fh _ _ ha), fun l hl => new_lst ra.rev g1.fh g1.m hl (fun v d F' H' g r p => q v d F' H' (g1.trans g) r p) p⟩
/-- xs[a:b] of a list -/
theorem ev_slL {tl th : TO} (h : Ev K c te ρ fun x => ∃ ds, x = .lst ds ∧ EvO K c tl ρ fun lo => EvO K c th ρ fun hi => P (.lst (cutD ds lo hi))) : Ev K c (tSl (rSlL K) te tl th) ρ P := fun B σ F H s ex m Q q =>
  h B σ F H s ex m _ fun v x F1 H1 g1 r1 h1 => by
    obtain ⟨ds, rfl, h1⟩ := h1
    cases r1 with
    | lst ha ra =>
      refine h1 B σ F1 H1 (s.go g1) g1.fh g1.m _ fun lo F2 H2 g2 h2 => h2 B σ F2 H2 (s.go (g1.trans g2)) g2.fh g2.m _ fun hi F3 H3 g3 p => ?_
      have g := g2.trans g3
      exact ⟨_, _, rfl, Evl.sq_of (g3.fh _ _ (g.ff _ _ ha)), fun l hl => new_lst ((ra.mono g.ff).cut lo hi) g3.fh g3.m hl (fun v d F' H' g' r p => q v d F' H' ((g1.trans g).trans g') r p) p⟩
/-- a method of a list -/
theorem ev_bmL {r : V → List V → Hp → VK → Prop} {t : TA} (h : Ev K c to ρ fun x => ∃ ds, x = .lst ds ∧ EvA K c t ρ fun xs => RVM K c r x xs P) : Ev K c (tBM K "list" r to t) ρ P := fun B σ F H S ex m Q q =>
  h B σ F H S ex m _ fun v x F1 H1 g1 r1 h1 => by
    obtain ⟨ds, rfl, h2⟩ := h1
    cases r1 with
    | lst ha ra => exact ⟨.inl ⟨rfl, _, Evl.sq_of (g1.fh _ _ ha)⟩, h2 B σ F1 H1 (S.go g1) g1.fh g1.m _ fun vs xs F2 H2 g2 r2 h3 => h3 F2 H2 _ vs (.lst (g2.ff _ _ ha) (ra.mono g2.ff)) r2 g2.fh g2.m Q fun z d F3 H3 g3 r3 p => q z d F3 H3 ((g1.trans g2).trans g3) r3 p⟩
theorem rvm_count {ns : List Int} {k : Int} (h : P (.int ((ns.count k : Nat) : Int))) : RVM K c (rCntI K) (.lst (intsD ns)) [.int k] P := fun F H v vs r1 r2 ex m Q q => by
  cases r2 with
  | cons r3 r4 =>
    cases r4
    cases r3
    cases r1 with
    | lst ha ra =>
      have e := relA_ints ra
      subst e
      exact ⟨_, ns, k, rfl, rfl, Evl.sq_of (ex _ _ ha), q _ _ F H (Go.refl ex m) (.int _) h⟩
/-- tuple(x.items()) of a dict of one's own -/
def keyD : Key → DV
  | .inl i => .int i
  | .inr s => .str s
theorem rel_key {F : Hp} (k : Key) : Rel K F (kV k) (keyD k) := by
  cases k with
  | inl i => exact .int i
  | inr s => exact .str s
theorem ev_tupItems {i : Nat} {kvs : List (Key × DV)} (e : ρ[i]? = some (.own (.dK kvs))) (h : P (.tup (kvs.map fun p => .tup [keyD p.1, p.2]))) : Ev K c (tTupItems (tVar i)) ρ P := fun B σ F H s ex m Q q => by
  obtain ⟨v, e1, l, o, rfl, hl, f2, f3, f4, f5⟩ := s.ok i _ e
  cases o with
  | dK vs =>
    refine ⟨_, e1, _, vs, rfl, hl, fun H' p ts kp hn hp hnp => ?_⟩
    have f5 : RelKV K F vs kvs := f5
    let F' : Hp := fun b => if b ∈ ts then H' b else F b
    have fin : ∀ b, b ∉ ts → F' b = F b := fun b hb => if_neg hb
    have fat : ∀ b, b ∈ ts → F' b = H' b := fun b hb => if_pos hb
    have eff : Ex F F' := fun a u z => by
      rw [fin a (fun y => by have := hn a y; rw [ex a u z] at this; cases this)]
      exact z
    have efh : Ex F' H' := fun a u z => by
      by_cases y : a ∈ ts
      · rw [fat a y] at z
        exact z
      · rw [fin a y] at z
        exact kp a u (ex a u z)
    have g : Go c F H F' H' := by
      refine ⟨eff, efh, fun a u z _ => kp a u z, fun a u z => by rw [kp a u z]; simp, fun a u z y => ?_, c.st _ _ _ _ (fun a u _ z => kp a u z) (fun a ta z => ?_) m⟩
      · rw [fin a (fun x => by rw [hn a x] at z; cases z)]
        exact y
      · rw [fin a (fun x => c.al F H a m ta (hn a x))]
        exact z
    have r : ∀ (ts' : List Addr) (us : List (Key × V)) (ds : List (Key × DV)), (∀ t ∈ ts', t ∈ ts) → Paired (fun (t : Addr) (q : Key × V) => H' t = some (.tup [kV q.1, q.2])) ts' us → RelKV K F us ds → RelA K F' (ts'.map V.ref) (ds.map fun p => .tup [keyD p.1, p.2]) := by
      intro ts'
      induction ts' with
      | nil =>
        intro us ds _ hp hr
        cases hp
        cases hr
        exact .nil
      | cons t ts' ih =>
        intro us ds hm hp hr
        cases hp with
        | cons h1 h2 =>
          cases hr with
          | cons h3 h4 =>
            refine .cons (.tup (Evl.st_of (by rw [fat t (hm t List.mem_cons_self)]; exact h1)) (.cons ?_ (.cons (h3.2.mono eff) .nil))) (ih _ _ (fun t h => hm t (List.mem_cons_of_mem _ h)) h2 h4)
            rw [h3.1]
            exact rel_key _
    exact new_tup (r ts vs kvs (fun _ h => h) hp f5) efh g.m hnp (fun v d F'' H'' g' r p => q v d F'' H'' (g.trans g') r p) h
  | _ => exact absurd f5 (fun z => z)
end
end VL

set_option Elab.async false
set_option linter.all false
set_option maxRecDepth 100000
/-! objects made of one's own, sorted keys -/
namespace VL
open PySem PySem.Spec L2
open Evl (Ex)
section
variable {K : PySem.W.Frag} {c : Cfg} {S : Addr → Prop} {F0 H0 : Hp} {ρ : List SV} {N : Fi} {P : DV → Prop}
/-- x = C(..), where no error comes -/
theorem sx_makeE {i : Nat} {C Ce : Addr} {fld : Str} {g : Cfg → List DV → (List (Str × DV) → Prop) → (DV → Prop) → Prop} {E : XK} {tl : TA} (h : EvA K c tl ρ fun ds => g c ds (fun fs => ∀ x, N.nx (ρ.set i (.own (.obj x C fs)))) fun _ => False) :
    Sx K c S F0 H0 (tAsg (tMake C (SpIE K C Ce fld g) [] E tl) (gName i)) ρ N := fun σ F H D a k1 _ _ _ =>
  h _ σ F H a.s a.g.fh a.g.m _ fun vs ds F1 H1 g1 r1 h1 => by
    intro x dx nx ndx hne
    have fx : F1 x = none := none_of_ex g1.fh nx
    have tx : ¬ c.T x := fun t => c.al F1 H1 x g1.m t nx
    have keep : ∀ a u, H1 a = some u → (upd (upd H1 dx (.own x)) x (.ins C dx [])) a = some u := fun a u e => by
      rw [upd_ne (ne_of_none e nx), upd_ne (ne_of_none e ndx)]
      exact e
    refine ⟨c, F1, ds, _, _, x, dx, vs, by rw [List.append_nil], upd_same, fx, tx, fun a u e => keep a u (g1.fh a u e), c.st _ _ _ _ (fun a u _ e => keep a u e) (fun _ _ e => e) g1.m, r1, h1, fun fs dx' ws F2 H2 g2 hx f2 rf p => ⟨rfl, ?_⟩, fun _ _ _ _ _ _ _ xx _ _ => xx.elim⟩
    have gg : Go c F1 H1 F2 H2 := by
      refine ⟨g2.ff, g2.fh, fun a u e t => g2.hh a u (keep a u e) t (fun z => absurd e (by rw [z, nx]; exact fun y => nomatch y)), fun a u e => g2.dom a u (keep a u e), fun a u e z => g2.fr a u (keep a u e) z, g2.m⟩
    exact k1 _ _ F2 H2 (a.new (g1.trans gg) hx (g1.back nx) f2 (x := .obj x C fs) ⟨rfl, rf⟩ rfl i) (g1.trans gg).ff (p x)
/-- sorted(d), d a dict of one's own with keys that are ints -/
def rSortedDI : List V → Hp → VK → Prop := fun xs H Q => ∃ (a : Addr) (kvs : List (Key × V)) (ks : List Int), xs = [.ref a] ∧ Rd H a (.dK kvs) ∧ kvs.map (·.1) = ks.map Sum.inl ∧ ks.length < 64 ∧
    ∀ (ys : List Int) (p : Addr), ys.Perm ks → ys.Pairwise (· ≤ ·) → H p = none → Q (.ref p) (upd H p (.lst (ys.map V.int)))
theorem x_sortedDI {X : Cx} (hc : X.calm = true) : CallR X (.builtin "sorted") rSortedDI := call_sortedDI hc
theorem RelKV.keys {F : Hp} : ∀ {vs : List (Key × V)} {ds : List (Key × DV)}, RelKV K F vs ds → vs.map (·.1) = ds.map (·.1)
  | _, _, .nil => rfl
  | _, _, .cons h r => by rw [List.map_cons, List.map_cons, h.1, RelKV.keys r]
theorem ev_sortedDI {i : Nat} {kvs : List (Key × DV)} {ks : List Int} (e : ρ[i]? = some (.own (.dK kvs))) (hk : kvs.map (·.1) = ks.map Sum.inl) (hz : ks.length < 64) (h : ∀ ys : List Int, ys.Perm ks → ys.Pairwise (· ≤ ·) → P (.lst (intsD ys))) :
    Ev K c (tCB rSortedDI (tCons (tVar i) tNil)) ρ P := fun B σ F H s ex m Q q => by
  obtain ⟨v, e1, l, o, rfl, hl, f2, f3, f4, f5⟩ := s.ok i _ e
  cases o with
  | dK vs => exact ⟨_, e1, l, vs, ks, rfl, .inl hl, (RelKV.keys f5).trans hk, hz, fun ys p h1 h2 hp => new_lst relA_of_ints ex m hp q (h ys h1 h2)⟩
  | _ => exact absurd f5 (fun z => z)
end
end VL

namespace VL
open PySem PySem.Spec PyProof.Rows L2
open Evl (Ex)
/-- C(e, ..) where what is wished of an error may speak of the slots -/
def tMakeS (C : Addr) (sp : Sp) (E : L2.St → XK) (tl : TA) : TE := fun σ H Q => tl σ H fun vs H1 => ∀ x dx, H1 x = none → H1 dx = none → dx ≠ x → sp (.ref x :: vs) (upd (upd H1 dx (.own x)) x (.ins C dx [])) (fun v H2 => v = .non ∧ Q (.ref x) H2) (E σ)
section
variable {X : Cx} {k j : Nat} {f C : Addr} {fd : FuncData} {ps : List Str} {sp : Sp} {E : L2.St → XK} {x : Str} {p pos : Pos} {e : Expr} {es : List Expr} {t : TA}
theorem made_run {pins : List (Addr × Obj)} {σ : L2.St} {H : Hp} {s : Shared} {Q : VK} {us : List Value} {vs : List V} (M : Mk X.K C f) (G : FnOk X.prog X.w X.K X.mg X.base (L2.CX X.prog X.w) k f fd ps sp) (hr : Room (k + 1) X.A) (bi : Binds X.K fd ps [])
    (hx : PassesAt (L2.CX X.prog X.w) X σ (E σ)) (I : Inv X pins σ H s) (r : Vals vs us)
    (h : ∀ y dy, H y = none → H dy = none → dy ≠ y → sp (.ref y :: vs) (upd (upd H dy (.own y)) y (.ins C dy [])) (fun v H2 => v = .non ∧ Q (.ref y) H2) (E σ)) : wpAny (model X.prog X.w) X.A (call (.ref C) us) (EP X pins σ Q) X.xe s := by
  have q := h (s.heap.objs.size + 1) s.heap.objs.size (I.hok.fresh (Nat.le_succ _)) (I.hok.fresh (Nat.le_refl _)) (Nat.ne_of_lt (Nat.lt_succ_self _))
  have J := Inv.made (C := C) I
  have rr : Vals (V.ref (s.heap.objs.size + 1) :: vs) (Value.ref (s.heap.objs.size + 1) :: us) := .cons rfl r
  have len : (Value.ref (s.heap.objs.size + 1) :: us).length = ps.length := rr.length.symm.trans (G.len _ _ _ _ q)
  have bb := bi _ (Value.ref (s.heap.objs.size + 1) :: us) J.kIn (by rw [List.append_nil]; exact len)
  rw [List.append_nil] at bb
  refine wpAny_call (make_map (f := f) I.kIn M.makes M.init (beq_iff_eq.mp M.fn) (codeAny_mono (G.run _ X.stack _ _ ⟨_, []⟩ _ _ _ (E σ) (hr.make C us []) (J.env0.make C us []) bb rr q) fun res s' hq' => ?_))
  cases res with
  | error er => exact hx pins _ _ er s' J hq'
  | ok fl =>
    cases fl with
    | ret u =>
      obtain ⟨v, H', J', rv, ev, z⟩ := J.after hq'
      subst ev
      exact ⟨rv, V.ref (s.heap.objs.size + 1), H', J', rfl, z⟩
    | next | brk | cont => exact False.elim hq'
theorem pe_makS (c : MakE X.prog X.w X.K X.mg X.base k x C sp) (hr : Room j X.A) (hk : k + 1 ≤ j) (hg : Gl X x) (hx : ∀ σ, PassesAt (L2.CX X.prog X.w) X σ (E σ)) (ha : PA X (e :: es) t) (hdb : (x == ("__debug__" : Str)) = false := by decide)
    (h1 : starEach (e :: es) X.env = (false, eval e X.env) :: starEach es X.env := by rfl) (h2 : (backTo pos (starEach es X.env)).any (·.1) = false := by rfl) : PE X (.Call (.Name x p) (e :: es) [] pos) (tMakeS C sp E t) := by
  obtain ⟨f, fd, ps, M, F, hm, b⟩ := c.ex
  refine ⟨fun pins s σ H Q I h => wpAny_Call_Name_kw (ld_glob I hg hm ?_ hdb)⟩
  refine PySem.W.callWith_K (h₀ := X.base) I.ok.mod.kin M.kp (thn (ha.run pos pins s σ H _ I h) fun us s1 hh => ?_) h1 h2
  obtain ⟨vs, H1, I1, r, q⟩ := hh
  exact ⟨I1.kIn, made_run M F (hr.mono hk) b (hx σ) I1 r q⟩
end
section
variable {K : PySem.W.Frag} {c : Cfg} {S : Addr → Prop} {F0 H0 : Hp} {ρ : List SV} {P X : DV → Prop} {C Ce : Addr} {fld : Str}
theorem es_makeS {g : Cfg → List DV → (List (Str × DV) → Prop) → (DV → Prop) → Prop} {W : WX} {tl : TA} (hw : Wish K c S F0 H0 ρ Ce fld X W) (h : EvA K c tl ρ fun ds => g c ds (fun fs => P (.ins C fs)) X) :
    EvS K c S F0 H0 (tMakeS C (SpIE K C Ce fld g) (WE W) tl) ρ P := fun σ F H a0 Q q =>
  h _ σ F H a0.s a0.g.fh a0.g.m _ fun vs ds F1 H1 g1 r1 h1 => by
    intro x dx nx ndx hne
    have fx : F1 x = none := none_of_ex g1.fh nx
    have tx : ¬ c.T x := fun t => c.al F1 H1 x g1.m t nx
    have keep : ∀ a u, H1 a = some u → (upd (upd H1 dx (.own x)) x (.ins C dx [])) a = some u := fun a u e => by
      rw [upd_ne (ne_of_none e nx), upd_ne (ne_of_none e ndx)]
      exact e
    have out : ∀ {F2 H2}, Gs c (fun a => a = x) F1 (upd (upd H1 dx (.own x)) x (.ins C dx [])) F2 H2 → Go c F1 H1 F2 H2 := fun g2 =>
      ⟨g2.ff, g2.fh, fun a u e t => g2.hh a u (keep a u e) t (fun z => absurd e (by rw [z, nx]; exact fun y => nomatch y)), fun a u e => g2.dom a u (keep a u e), fun a u e z => g2.fr a u (keep a u e) z, g2.m⟩
    refine ⟨c, F1, ds, _, X, x, dx, vs, rfl, upd_same, fx, tx, fun a u e => keep a u (g1.fh a u e), c.st _ _ _ _ (fun a u _ e => keep a u e) (fun _ _ e => e) g1.m, r1, h1, fun fs dx' ws F2 H2 g2 hx f2 rf p => ⟨rfl, ?_⟩,
      fun e v d F2 H2 g2 r2 xx he ht => hw σ e v d F2 H2 (a0.go (g1.trans (out g2))) r2 xx he ht⟩
    have e2 : Ex F2 (upd F2 x (.ins C dx' ws)) := Evl.Ex.new f2
    exact q _ _ _ _ (g1.trans (go_still g1.m (out g2) hx nx f2)) (.ins upd_same (rf.mono e2)) p
end
section
variable {K : PySem.W.Frag} {c : Cfg} {P : DV → Prop}
theorem rv_neB {i j : Bool} (h : P (.bl (i != j))) : RV2 K c rNe (.bl i) (.bl j) P := fun F H v w r1 r2 ex m Q q => by
  cases r1
  cases r2
  refine ⟨rfl, q _ _ F H (Go.refl ex m) (.bl _) ?_⟩
  have e : (!decide (V.bl i = V.bl j)) = (i != j) := by cases i <;> cases j <;> simp
  rw [e]
  exact h
theorem rv_eqB {i j : Bool} (h : P (.bl (i == j))) : RV2 K c rEq (.bl i) (.bl j) P := fun F H v w r1 r2 ex m Q q => by
  cases r1
  cases r2
  refine ⟨rfl, q _ _ F H (Go.refl ex m) (.bl _) ?_⟩
  have e : (decide (V.bl i = V.bl j)) = (i == j) := by cases i <;> cases j <;> simp
  rw [e]
  exact h
theorem rva_isi' {x : DV} {n T : String} {b : Bool} (hx : (x = .non ∧ T = "NoneType") ∨ ∃ ds, x = .lst ds ∧ T = "list") (hb : PySem.W.kitOne K (.type T) (.type n) = some b) (h : P (.bl b)) :
    RVA K c (rIsi K) [x, .ty n] P := fun F H vs r ex m Q q => by
  cases r with
  | cons r1 r2 =>
    cases r2 with
    | cons r2 r3 =>
      cases r3
      cases r2
      refine ⟨_, _, .type T, _, b, rfl, .ty n, ?_, hb, q _ _ F H (Go.refl ex m) (.bl b) h⟩
      rcases hx with ⟨rfl, rfl⟩ | ⟨ds, rfl, rfl⟩
      · cases r1
        exact .base .non
      · cases r1 with
        | lst ht _ => exact .base (.lst (ex _ _ ht))
end
theorem x_revL (K : PySem.W.Frag) {X : Cx} {e : Expr} {te : TE} {k : Nat} {p1 p2 p3 pos : Pos} (he : PE X e te) (hK : X.K = K := by rfl) : PE X (.Subscript e (.Slice none none (some (.UnaryOp .USub (.Constant (.int 1) k p1) p2)) p3) pos) (tRevL K te) := by subst hK; exact pe_revL he
theorem x_lcount (K : PySem.W.Frag) {X : Cx} (hK : X.K = K := by rfl) : MtR X "list.count" (rCntI K) := by subst hK; exact mt_lcount
theorem x_bmL (K : PySem.W.Frag) {X : Cx} {o e : Expr} {es : List Expr} {to : TE} {t : TA} {name : Str} {apos cpos : Pos} {id : String} {r : V → List V → Hp → VK → Prop} (slot : Slot "list" name id) (hty : typeOf (.builtin id) = pure (.type "method_descriptor")) (hm : MtR X id r) (ho : PE X o to) (ha : PA X (e :: es) t)
    (hbase : attributeBase o name X.env (eval o X.env) = eval o X.env := by rfl) (hfew : ((backTo cpos (starEach (e :: es) X.env)).all (fun x => !x.1) && (backToKw cpos (keywordEach [] X.env)).all (fun x => x.1.isSome) && decide ((e :: es).length + ([] : List Keyword).length + (if ([] : List Keyword).isEmpty then 0 else 1) < 30)) = true := by rfl)
    (hline : (apos.endLine == cpos.line) = true := by rfl) (hs : starEach (e :: es) X.env = (false, eval e X.env) :: starEach es X.env := by rfl) (hplain : (backTo cpos (starEach es X.env)).any (·.1) = false := by rfl) (hK : X.K = K := by rfl) :
    PE X (.Call (.Attribute o name apos) (e :: es) [] cpos) (tBM K "list" r to t) := by subst hK; exact pe_bm PySem.F.plainAttrs_list slot hty hm ho ha hbase hfew hline hs hplain
end VL

set_option Elab.async false
set_option linter.all false
set_option maxRecDepth 100000
/-! a caught error's field -/
namespace VL
open PySem PySem.Spec L2
open Evl (Ex)
section
variable {K : PySem.W.Frag} {c : Cfg} {S S' : Addr → Prop} {F0 H0 : Hp} {ρ ρw : List SV} {N : Fi} {ta tb : TE} {P X : DV → Prop} {C : Addr} {fld : Str}
theorem At.grow {F H : Hp} {σ : St} (h : ∀ a, S a → S' a) (a : At K c S F0 H0 F H σ ρ) : At K c S' F0 H0 F H σ ρ :=
  ⟨⟨a.g.ff, a.g.fh, fun x o e t s => a.g.hh x o e t (fun z => s (h x z)), a.g.dom, a.g.fr, a.g.m⟩, a.s.own fun l hl => hl.elim .inl fun z => .inr (h l z)⟩
theorem Gs.grow {F H : Hp} (h : ∀ a, S a → S' a) (a : Gs c S F0 H0 F H) : Gs c S' F0 H0 F H := ⟨a.ff, a.fh, fun x o e t s => a.hh x o e t (fun z => s (h x z)), a.dom, a.fr, a.m⟩
theorem no_xd {F : Hp} {fs : List (Str × V)} {x : OV} (h : RelO K F (.xd fs) x) : False := by
  cases x with
  | st w a S n => cases (show HO.xd fs = SetO w a S n from h)
  | _ => exact h
def tTry (K : PySem.W.Frag) (C : Addr) (i : Nat) (tb : WX → TS) (ts : Addr → Value → Option Addr → TS) (Wout : WX) : TS := fun D σ H => tb (wAs K (.ref C) i ts Wout D) D σ H
theorem ps_tryD {X : Cx} {x n : Str} {C : Addr} {i : Nat} {body suite : List Stmt} {b₀ : Stmt} {np pos pos' : Pos} {tb : WX → TS} {ts : Addr → Value → Option Addr → TS} {Wout : WX} (hs : X.stack = X.env :: X.outer) (hf : X.env.frame = some X.env.locals) (hN : X.N.Nodup) (hi : X.N[i]? = some n) (hln : X.env.kindOf n = some .local) (hc : Names X x (.ref C)) (tk : Takes X Wout)
    (hb : ∀ (W : WX) (pn : List (Addr × Obj)) (xe : Value → Shared → Prop), Takes (X.tr pn xe) W → PassesOwn (model X.prog X.w) X.A X.env xe → PSs (X.tr pn xe) body (tb W))
    (hsu : ∀ (a : Addr) (oe : Obj) (cls : Value) (d : Option Addr) (pn : List (Addr × Obj)), Zc cls d oe → (∃ vs, oe.data = .fields vs) → PSs (X.suite a ((a, oe) :: pn)) (b₀ :: suite) (ts a cls d)) :
    PS X (.Try body [.ExceptHandler (some (.Name x np)) (some n) (b₀ :: suite) pos'] [] [] pos) (tTry X.K C i tb ts Wout) := ps_try_as hs hf hN hi hln hc tk hb hsu
/-- try: body except C as n (slot i): suite; the error's dict e does not change -/
theorem sx_tryAs' {i : Nat} {tb : WX → TS} {ts : Addr → Value → Option Addr → TS} {Wout : WX} (hx : PySem.W.exmOne K (.ref C) (.ref C) = some true)
    (hb : ∀ F H W, Wish K c (VL.Own S H0) F H ρw C fld X W → Sx K c (VL.Own S H0) F H (tb W) ρ N)
    (hs : ∀ (S' : Addr → Prop) a e v d F1 H1, ¬ S' e → Rel K F1 v d → X d → H1 e = some (.xd [(fld, v)]) → ¬ c.T e → Sx K c S' F1 H1 (ts a (.ref C) (some e)) (ρw.set i (.d (.adr a))) { nx := fun ρ' => N.nx (ρ'.set i .non), rt := N.rt, bk := fun ρ' => N.bk (ρ'.set i .non), ct := fun ρ' => N.ct (ρ'.set i .non) }) :
    Sx K c S F0 H0 (tTry K C i tb ts Wout) ρ N := fun σ F H D a k1 k2 k3 k4 => by
  show tb (wAs K (.ref C) i ts Wout D) D σ H
  refine hb F H (wAs K (.ref C) i ts Wout D) (fun σ2 e v d F2 H2 a2 r x he ht => ⟨true, hx, fun _ ad had => ?_, fun z => nomatch z⟩) σ F H D a.base
    (fun σ' ρ' F' H' b ex p => k1 σ' ρ' F' H' (a.unbase b) ex p) (fun v d F' H' g r p => k2 v d F' H' (Gs.unbase a g) r p) (fun σ' ρ' F' H' b ex p => k3 σ' ρ' F' H' (a.unbase b) ex p) (fun σ' ρ' F' H' b ex p => k4 σ' ρ' F' H' (a.unbase b) ex p)
  have a3 := a2.base
  have low : ∀ x, (VL.Own (VL.Own S H0) H x ∧ x ≠ e) → VL.Own (VL.Own S H0) H x := fun x h => h.1
  have a4 : At K c (fun x => VL.Own (VL.Own S H0) H x ∧ x ≠ e) F2 H2 F2 H2 σ2 ρw := by
    refine ⟨Gs.refl a3.g.fh a3.g.m, a3.s.len, fun j s es => ?_, a3.s.dj⟩
    obtain ⟨w, e1, q⟩ := a3.s.ok j s es
    refine ⟨w, e1, ?_⟩
    cases s with
    | own y =>
      obtain ⟨l, o, q1, q2, q3, q4, ⟨q5, q6⟩, q7⟩ := q
      have hne : l ≠ e := fun z => by
        rw [z, he] at q2
        cases q2
        exact no_xd q7
      exact ⟨l, o, q1, q2, q3, q4, ⟨q5.elim .inl fun z => .inr ⟨z, hne⟩, q6⟩, q7⟩
    | non => exact q
    | any => trivial
    | d y => exact q
  have fin : ∀ {σ' ρ' F' H'}, At K c (fun x => VL.Own (VL.Own S H0) H x ∧ x ≠ e) F2 H2 F' H' σ' ρ' → At K c S F0 H0 F' H' (σ'.set i none) (ρ'.set i .non) := fun b => by
    have q := a.unbase (a2.unbase (b.grow low))
    exact ⟨q.g, q.s.wipe1 i⟩
  exact hs _ ad e v d F2 H2 (fun z => z.2 rfl) r x he ht (σ2.set i (some (.ref ad))) F2 H2 _ ⟨a4.g, a4.s.put i (.adr ad)⟩
    (fun σ' ρ' F' H' b ex p => k1 _ _ F' H' (fin b) (a2.g.ff.trans ex) p) (fun v' d' F' H' g r' p => k2 v' d' F' H' (Gs.unbase a (Gs.unbase a2 (g.grow low))) r' p)
    (fun σ' ρ' F' H' b ex p => k3 _ _ F' H' (fin b) (a2.g.ff.trans ex) p) (fun σ' ρ' F' H' b ex p => k4 _ _ F' H' (fin b) (a2.g.ff.trans ex) p)
theorem es_op {r : R2} (h : EvS K c S F0 H0 ta ρ fun x => Ev K c tb ρ fun y => RV2 K c r x y P) : EvS K c S F0 H0 (tOp r ta tb) ρ P := fun σ F H a Q q =>
  h σ F H a _ fun v x F1 H1 g1 r1 h1 => h1 _ σ F1 H1 (a.go g1).s g1.fh g1.m _ fun w y F2 H2 g2 r2 h2 =>
    h2 F2 H2 v w (r1.mono g2.ff) r2 g2.fh g2.m Q fun z d F3 H3 g3 r3 p => q z d F3 H3 ((g1.trans g2).trans g3) r3 p
/-- a test that stands right in an if -/
def EvTS (K : PySem.W.Frag) (c : Cfg) (S : Addr → Prop) (F0 H0 : Hp) (t : TT) (ρ : List SV) (P : Bool → Prop) : Prop := ∀ (σ : St) (F H : Hp), At K c S F0 H0 F H σ ρ → ∀ Q : Bool → Hp → Prop, (∀ b F' H', Go c F H F' H' → P b → Q b H') → t σ H Q
theorem ets_test {P : Bool → Prop} (h : EvS K c S F0 H0 ta ρ fun x => ∃ k, x = .bl k ∧ P k) : EvTS K c S F0 H0 (tTest ta) ρ P := fun σ F H a Q q =>
  h σ F H a _ fun v x F1 H1 g1 r1 h1 => by
    obtain ⟨k, rfl, p⟩ := h1
    cases r1
    exact ⟨k, rfl, q k F1 H1 g1 p⟩
theorem ets_B {P : Bool → Prop} (h : EvS K c S F0 H0 ta ρ fun x => ∃ k, x = .bl k ∧ P k) : EvTS K c S F0 H0 (tB ta) ρ P := ets_test h
theorem sxs_if {t u : TS} {tc : TT} (h : EvTS K c S F0 H0 tc ρ fun b => if b = true then Sx K c S F0 H0 t ρ N else Sx K c S F0 H0 u ρ N) : Sx K c S F0 H0 (tIfS tc t u) ρ N := fun σ F H D a k1 k2 k3 k4 =>
  h σ F H a _ fun b F1 H1 g1 p => by
    have l1 : ∀ σ' ρ' F' H', At K c S F0 H0 F' H' σ' ρ' → Ex F1 F' → N.nx ρ' → D.nx σ' H' := fun σ2 ρ2 F2 H2 a2 e2 q2 => k1 σ2 ρ2 F2 H2 a2 (g1.ff.trans e2) q2
    have l3 : ∀ σ' ρ' F' H', At K c S F0 H0 F' H' σ' ρ' → Ex F1 F' → N.bk ρ' → D.bk σ' H' := fun σ2 ρ2 F2 H2 a2 e2 q2 => k3 σ2 ρ2 F2 H2 a2 (g1.ff.trans e2) q2
    have l4 : ∀ σ' ρ' F' H', At K c S F0 H0 F' H' σ' ρ' → Ex F1 F' → N.ct ρ' → D.ct σ' H' := fun σ2 ρ2 F2 H2 a2 e2 q2 => k4 σ2 ρ2 F2 H2 a2 (g1.ff.trans e2) q2
    cases b with
    | true => exact p σ F1 H1 D (a.go g1) l1 k2 l3 l4
    | false => exact p σ F1 H1 D (a.go g1) l1 k2 l3 l4
theorem es_byBadPoint {i : Nat} {a e : Addr} {v : V} {d : DV} (hi : ρ[i]? = some (.d (.adr a))) (hn : ¬ S e) (ht : ¬ c.T e) (he : H0 e = some (.xd [("point", v)])) (r : Rel K F0 v d) (h : P d) : EvS K c S F0 H0 (tByBadPoint C a (.ref C) (some e) (tVar i)) ρ P := fun σ F H a0 Q q => by
  obtain ⟨u, e1, ru⟩ := a0.s.dat hi
  cases ru
  exact ⟨_, e1, rfl, rfl, e, v, rfl, a0.g.hh e _ he ht hn, q v d F H (Go.refl a0.g.fh a0.g.m) (r.mono a0.g.ff) h⟩
theorem es_byBadCode {i : Nat} {a e : Addr} {v : V} {d : DV} (hi : ρ[i]? = some (.d (.adr a))) (hn : ¬ S e) (ht : ¬ c.T e) (he : H0 e = some (.xd [("many", v)])) (r : Rel K F0 v d) (h : P d) : EvS K c S F0 H0 (tByBadCode C a (.ref C) (some e) (tVar i)) ρ P := fun σ F H a0 Q q => by
  obtain ⟨u, e1, ru⟩ := a0.s.dat hi
  cases ru
  exact ⟨_, e1, rfl, rfl, e, v, rfl, a0.g.hh e _ he ht hn, q v d F H (Go.refl a0.g.fh a0.g.m) (r.mono a0.g.ff) h⟩
theorem es_byBadSpace {i : Nat} {a e : Addr} {v : V} {d : DV} (hi : ρ[i]? = some (.d (.adr a))) (hn : ¬ S e) (ht : ¬ c.T e) (he : H0 e = some (.xd [("word", v)])) (r : Rel K F0 v d) (h : P d) : EvS K c S F0 H0 (tByBadSpace C a (.ref C) (some e) (tVar i)) ρ P := fun σ F H a0 Q q => by
  obtain ⟨u, e1, ru⟩ := a0.s.dat hi
  cases ru
  exact ⟨_, e1, rfl, rfl, e, v, rfl, a0.g.hh e _ he ht hn, q v d F H (Go.refl a0.g.fh a0.g.m) (r.mono a0.g.ff) h⟩
end
end VL

set_option Elab.async false
set_option linter.all false
set_option maxRecDepth 100000
set_option maxHeartbeats 2000000
/-! zip with a plain name as its target; zip of three -/
namespace VZ
open PySem PySem.Spec PyProof.Rows
/-- a zip whose last pair may still be held by somebody -/
def Zn (h : Heap) (z TI TO : Addr) (f0 : Value) (f1 : Bool) : Prop := h.get? z = some { cls := .type "zip", dict := none, data := .fields #[f0, .bool f1, .bool false, .ref TI, .ref TO], slots := #[] }
def Kept (f0 : Value) : Prop := f0 = .none ∨ ∃ T : Nat, f0 = rawInt T
section
variable {pg : Program} {w : World} {A : Around} {Er : Value → Shared → Prop} {s : Shared} {z TI TO i1 i2 l1 l2 : Addr} {k : Nat} {xs ys : Array Value} {x y a b f0 : Value} {f1 : Bool}
theorem alive {t : Addr} {Q : Option Obj → Shared → Prop} (h : Q (s.heap.get? t) s) : wpAny (model pg w) A (loadIfAlive t) Q Er s := fun _ _ _ => h
theorem free_or (hz : Zn s.heap z TI TO f0 f1) (hf : Kept f0) {Q : Bool → Shared → Prop} (h1 : Q true s)
    (h2 : ∀ h', Zn h' z TI TO f0 true → Heap.SameBut z s.heap h' → Q false { s with heap := h' }) : wpAny (model pg w) A (Builtin.SmallTypes.ownedTupleIsFree (.ref z)) Q Er s := by
  have same : ∀ h : Heap, Heap.SameBut z h h := fun h => ⟨rfl, fun _ _ => rfl⟩
  unfold Builtin.SmallTypes.ownedTupleIsFree
  refine wpAny_bind (wpAny_field hz rfl (x := f0) rfl ?_)
  rcases hf with rfl | ⟨T, rfl⟩
  · exact wpAny_pure h1
  · show wpAny _ _ (loadIfAlive ((T : Int).toNat) >>= _) _ _ _
    refine wpAny_bind (alive ?_)
    cases e : s.heap.get? ((T : Int).toNat) with
    | none => exact wpAny_pure h1
    | some o =>
      show wpAny _ _ (field (.ref z) 1 >>= _) _ _ _
      refine wpAny_bind (wpAny_field hz rfl (x := .bool f1) rfl ?_)
      cases f1 with
      | true => exact wpAny_pure (h2 s.heap hz (same _))
      | false =>
        refine wpAny_bind (m := setField (.ref z) 1 (.bool true)) (wpAny_setField_rec hz (by simp) fun h' hz' hs' => ?_)
        exact wpAny_pure (h2 h' hz' hs')
theorem zn_next (D : ZipApart z TI TO i1 i2 l1 l2) (hz : Zn s.heap z TI TO f0 f1) (hf : Kept f0) (hTI : IsPair s.heap TI (.ref i1) (.ref i2)) (hTO : IsPair s.heap TO a b)
    (h1 : s.heap.IsTupleIter i1 l1 k) (h2 : s.heap.IsTupleIter i2 l2 k) (hl1 : s.heap.IsTuple l1 xs) (hl2 : s.heap.IsTuple l2 ys) (hx : xs[k]? = some x) (hy : ys[k]? = some y) {Q : Value → Shared → Prop}
    (hQ : ∀ h' g0 g1, Zn h' z TI TO g0 g1 → Kept g0 → (∃ a b, IsPair h' TO a b) → h'.IsTupleIter i1 l1 (k + 1) → h'.IsTupleIter i2 l2 (k + 1) → IsPair h' s.heap.objs.size x y →
      (∀ c o, c ≠ z → c ≠ TO → c ≠ i1 → c ≠ i2 → s.heap.get? c = some o → h'.get? c = some o) → Q (.ref s.heap.objs.size) { s with heap := h' }) :
    wpAny (model pg w) A (Builtin.«zip.__next__» ⟨[.ref z], []⟩) (fun fin s' => ∃ v, fin = .done (.ret v) ∧ Q v s') Er s := by
  show wpAny _ _ (field (.ref z) 2 >>= _) _ _ _
  refine wpAny_bind (wpAny_field hz rfl (x := .bool false) rfl ?_)
  show wpAny _ _ (field (.ref z) 3 >>= _) _ _ _
  refine wpAny_bind (wpAny_field hz rfl (x := .ref TI) rfl (wpAny_bind (wpAny_seqItems hTI rfl ?_)))
  show wpAny _ _ (Builtin.SmallTypes.ownedTupleIsFree (.ref z) >>= _) _ _ _
  refine wpAny_bind (free_or hz hf ?_ fun h₁ hz₁ hs₁ => ?_)
  · simp only [if_true]
    refine wpAny_bind (wpAny_rule (wpAny_bind (wpAny_field hz rfl (x := .ref TO) rfl ?_)))
    refine wpAny_bind (wpAny_setField_rec hz (by simp) fun h₁ hz₁ hs₁ => ?_)
    replace hz₁ : Zn h₁ z TI TO .ellipsis f1 := hz₁
    refine wpAny_bind ?_
    simp only [List.zipIdx_cons, List.zipIdx_nil, List.forIn_cons, List.forIn_nil]
    refine wpAny_bind (wpAny_bind (wpAny_onRaise (show wpAny _ _ (Builtin.SmallTypes.nextOf (.ref i1) >>= _) _ _ _ from ?_)))
    refine wpAny_bind (wpAny_nextOf_tuple_item (h1.extBut hs₁.extBut D.i1z) (hl1.extBut hs₁.extBut D.l1z) hx fun h₂ h1₂ hs₂ => wpAny_pure ?_)
    have o₂ : IsPair h₂ TO a b := hs₂.extBut _ _ D.TOi1 (hs₁.extBut _ _ D.TOz hTO)
    refine wpAny_bind (wpAny_seqItems o₂ rfl (wpAny_bind (wpAny_updateSeq_pair o₂ fun h₃ o₃ hs₃ => ?_)))
    replace o₃ : IsPair h₃ TO x b := o₃
    refine wpAny_bind (wpAny_letGo (wpAny_pure (wpAny_bind (wpAny_bind (wpAny_onRaise (show wpAny _ _ (Builtin.SmallTypes.nextOf (.ref i2) >>= _) _ _ _ from ?_))))))
    refine wpAny_bind (wpAny_nextOf_tuple_item (((h2.extBut hs₁.extBut D.i2z).extBut hs₂.extBut D.i12.symm).extBut hs₃.extBut D.TOi2.symm) (((hl2.extBut hs₁.extBut D.l2z).extBut hs₂.extBut D.l2i1).extBut hs₃.extBut D.l2TO) hy fun h₄ h2₄ hs₄ => wpAny_pure ?_)
    have o₄ : IsPair h₄ TO x b := hs₄.extBut _ _ D.TOi2 o₃
    refine wpAny_bind (wpAny_seqItems o₄ rfl (wpAny_bind (wpAny_updateSeq_pair o₄ fun h₅ o₅ hs₅ => ?_)))
    replace o₅ : IsPair h₅ TO x y := o₅
    refine wpAny_bind (wpAny_letGo (wpAny_pure (wpAny_pure (wpAny_bind (wpAny_seqItems o₅ rfl (wpAny_bind (wpAny_newTuple ?_)))))))
    have size : h₅.objs.size = s.heap.objs.size := by rw [hs₅.1, hs₄.1, hs₃.1, hs₂.1, hs₁.1]
    have z₅ : Zn h₅ z TI TO .ellipsis f1 := hs₅.extBut _ _ D.TOz.symm (hs₄.extBut _ _ D.i2z.symm (hs₃.extBut _ _ D.TOz.symm (hs₂.extBut _ _ D.i1z.symm hz₁)))
    have zlt : z < h₅.objs.size := Heap.lt_size z₅
    show wpAny _ _ (Builtin.SmallTypes.ownedTupleHandOut (.ref z) (.ref h₅.objs.size) >>= _) _ _ _
    refine wpAny_bind ?_
    unfold Builtin.SmallTypes.ownedTupleHandOut
    have z₆ : Zn (h₅.push { cls := .type "tuple", data := .seq #[x, y] }) z TI TO .ellipsis f1 := Heap.get?_push_of_some _ z₅
    refine wpAny_bind (wpAny_setField_rec z₆ (by simp) fun h₇ z₇ hs₇ => ?_)
    replace z₇ : Zn h₇ z TI TO (rawInt h₅.objs.size) f1 := z₇
    refine wpAny_setField_rec z₇ (by simp) fun h₈ z₈ hs₈ => ?_
    replace z₈ : Zn h₈ z TI TO (rawInt h₅.objs.size) false := z₈
    have up : ∀ c o, c ≠ z → h₅.get? c = some o → h₈.get? c = some o := fun c o c1 e => hs₈.extBut _ _ c1 (hs₇.extBut _ _ c1 (Heap.get?_push_of_some _ e))
    have t₈ : IsPair h₈ h₅.objs.size x y := hs₈.extBut _ _ (Nat.ne_of_gt zlt) (hs₇.extBut _ _ (Nat.ne_of_gt zlt) (Heap.get?_push_size _ rfl))
    have i₁ : h₅.IsTupleIter i1 l1 (k + 1) := ((h1₂.extBut hs₃.extBut D.TOi1.symm).extBut hs₄.extBut D.i12).extBut hs₅.extBut D.TOi1.symm
    have i₂ : h₅.IsTupleIter i2 l2 (k + 1) := h2₄.extBut hs₅.extBut D.TOi2.symm
    rw [size] at z₈ t₈
    refine wpAny_pure ⟨_, rfl, ?_⟩
    show Q (.ref h₅.objs.size) _
    rw [size]
    exact hQ h₈ _ _ z₈ (.inr ⟨_, rfl⟩) ⟨_, _, up _ _ D.TOz o₅⟩ (i₁.at fun o e => up _ o D.i1z e) (i₂.at fun o e => up _ o D.i2z e) t₈ fun c o c1 c2 c3 c4 e =>
      up c o c1 (hs₅.extBut _ _ c2 (hs₄.extBut _ _ c4 (hs₃.extBut _ _ c2 (hs₂.extBut _ _ c3 (hs₁.extBut _ _ c1 e)))))
  · simp only [Bool.false_eq_true, if_false]
    refine wpAny_bind ?_
    rw [← Array.forIn_toList]
    simp only [List.forIn_cons, List.forIn_nil]
    refine wpAny_bind (wpAny_bind (wpAny_holding (show wpAny _ _ (Builtin.SmallTypes.nextOf (.ref i1) >>= _) _ _ _ from ?_)))
    refine wpAny_bind (wpAny_nextOf_tuple_item (h1.extBut hs₁.extBut D.i1z) (hl1.extBut hs₁.extBut D.l1z) hx fun h₂ h1₂ hs₂ => wpAny_pure (wpAny_pure ?_))
    refine wpAny_bind (wpAny_bind (wpAny_holding (show wpAny _ _ (Builtin.SmallTypes.nextOf (.ref i2) >>= _) _ _ _ from ?_)))
    refine wpAny_bind (wpAny_nextOf_tuple_item ((h2.extBut hs₁.extBut D.i2z).extBut hs₂.extBut D.i12.symm) ((hl2.extBut hs₁.extBut D.l2z).extBut hs₂.extBut D.l2i1) hy fun h₃ h2₃ hs₃ => wpAny_pure (wpAny_pure (wpAny_pure ?_)))
    refine wpAny_bind (wpAny_newTuple ?_ (by show 2 ≤ sizeLine; decide))
    have size : h₃.objs.size = s.heap.objs.size := by rw [hs₃.1, hs₂.1, hs₁.1]
    have z₃ : Zn h₃ z TI TO f0 true := hs₃.extBut _ _ D.i2z.symm (hs₂.extBut _ _ D.i1z.symm hz₁)
    have up : ∀ c o, h₃.get? c = some o → (h₃.push { cls := .type "tuple", data := .seq #[x, y] }).get? c = some o := fun c o e => Heap.get?_push_of_some _ e
    have i₁ : h₃.IsTupleIter i1 l1 (k + 1) := h1₂.extBut hs₃.extBut D.i12
    refine wpAny_pure ⟨_, rfl, ?_⟩
    show Q (.ref h₃.objs.size) _
    rw [size]
    have t₃ : IsPair (h₃.push { cls := .type "tuple", data := .seq #[x, y] }) h₃.objs.size x y := Heap.get?_push_size _ rfl
    rw [size] at t₃
    exact hQ _ _ _ (up _ _ z₃) hf ⟨a, b, up _ _ (hs₃.extBut _ _ D.TOi2 (hs₂.extBut _ _ D.TOi1 (hs₁.extBut _ _ D.TOz hTO)))⟩ (i₁.at fun o e => up _ o e) (h2₃.at fun o e => up _ o e) t₃ fun c o c1 c2 c3 c4 e =>
      up c o (hs₃.extBut _ _ c4 (hs₂.extBut _ _ c3 (hs₁.extBut _ _ c1 e)))
theorem zn_end (hh : A.handled = none) (D : ZipApart z TI TO i1 i2 l1 l2) (hz : Zn s.heap z TI TO f0 f1) (hf : Kept f0) (hTI : IsPair s.heap TI (.ref i1) (.ref i2)) (hTO : IsPair s.heap TO a b)
    (h1 : s.heap.IsTupleIter i1 l1 k) (hl1 : s.heap.IsTuple l1 xs) (hx : xs[k]? = none) {Q : Fin → Shared → Prop}
    (hE : ∀ h' e, (∀ c o, c ≠ z → c ≠ TO → c ≠ i1 → c ≠ i2 → s.heap.get? c = some o → h'.get? c = some o) → (∃ o, h'.get? e = some o ∧ o.cls = .type "StopIteration") → Er (.ref e) { s with heap := h' }) :
    wpAny (model pg w) A (Builtin.«zip.__next__» ⟨[.ref z], []⟩) Q Er s := by
  show wpAny _ _ (field (.ref z) 2 >>= _) _ _ _
  refine wpAny_bind (wpAny_field hz rfl (x := .bool false) rfl ?_)
  show wpAny _ _ (field (.ref z) 3 >>= _) _ _ _
  refine wpAny_bind (wpAny_field hz rfl (x := .ref TI) rfl (wpAny_bind (wpAny_seqItems hTI rfl ?_)))
  show wpAny _ _ (Builtin.SmallTypes.ownedTupleIsFree (.ref z) >>= _) _ _ _
  refine wpAny_bind (free_or hz hf ?_ fun h₁ hz₁ hs₁ => ?_)
  · simp only [if_true]
    refine wpAny_bind (wpAny_rule (wpAny_bind (wpAny_field hz rfl (x := .ref TO) rfl ?_)))
    refine wpAny_bind (wpAny_setField_rec hz (by simp) fun h₁ hz₁ hs₁ => ?_)
    replace hz₁ : Zn h₁ z TI TO .ellipsis f1 := hz₁
    refine wpAny_bind ?_
    simp only [List.zipIdx_cons, List.zipIdx_nil, List.forIn_cons, List.forIn_nil]
    refine wpAny_bind (wpAny_bind (wpAny_onRaise (show wpAny _ _ (Builtin.SmallTypes.nextOf (.ref i1) >>= _) _ _ _ from ?_)))
    refine wpAny_bind (wpAny_nextOf_tuple_end hh (h1.extBut hs₁.extBut D.i1z) (hl1.extBut hs₁.extBut D.l1z) hx fun h₂ e hs₂ he => ?_)
    obtain ⟨oe, hoe, hce⟩ := he
    have z₂ : Zn h₂ z TI TO .ellipsis f1 := hs₂ _ _ D.i1z.symm hz₁
    have ez : e ≠ z := fun q => by subst q; rw [z₂] at hoe; cases hoe; simp at hce
    exact wpAny_setField_rec z₂ (by simp) fun h₃ _ hs₃ => hE h₃ e (fun c o c1 _ c3 _ q => hs₃.extBut _ _ c1 (hs₂ _ _ c3 (hs₁.extBut _ _ c1 q))) ⟨oe, hs₃.extBut _ _ ez hoe, hce⟩
  · simp only [Bool.false_eq_true, if_false]
    refine wpAny_bind ?_
    rw [← Array.forIn_toList]
    simp only [List.forIn_cons, List.forIn_nil]
    refine wpAny_bind (wpAny_bind (wpAny_holding (show wpAny _ _ (Builtin.SmallTypes.nextOf (.ref i1) >>= _) _ _ _ from ?_)))
    refine wpAny_bind (wpAny_nextOf_tuple_end hh (h1.extBut hs₁.extBut D.i1z) (hl1.extBut hs₁.extBut D.l1z) hx fun h₂ e hs₂ he => ?_)
    exact hE h₂ e (fun c o c1 _ c3 _ q => hs₂ _ _ c3 (hs₁.extBut _ _ c1 q)) he
end
end VZ
namespace VZ
open PySem PySem.Spec PyProof.Rows L2 RZ
section
variable {pg : Program} {w : World} {A : Around} {Er : Value → Shared → Prop} {s : Shared} {z TI TO i1 i2 l1 l2 : Addr} {k : Nat} {xs ys : Array Value} {x y a b f0 : Value} {f1 : Bool}
theorem next_zn (D : ZipApart z TI TO i1 i2 l1 l2) (hz : Zn s.heap z TI TO f0 f1) (hf : Kept f0) (hTI : IsPair s.heap TI (.ref i1) (.ref i2)) (hTO : IsPair s.heap TO a b)
    (h1 : s.heap.IsTupleIter i1 l1 k) (h2 : s.heap.IsTupleIter i2 l2 k) (hl1 : s.heap.IsTuple l1 xs) (hl2 : s.heap.IsTuple l2 ys) (hx : xs[k]? = some x) (hy : ys[k]? = some y) {Q : Option Value → Shared → Prop}
    (hQ : ∀ h' g0 g1, Zn h' z TI TO g0 g1 → Kept g0 → (∃ a b, IsPair h' TO a b) → h'.IsTupleIter i1 l1 (k + 1) → h'.IsTupleIter i2 l2 (k + 1) → IsPair h' s.heap.objs.size x y →
      (∀ c o, c ≠ z → c ≠ TO → c ≠ i1 → c ≠ i2 → s.heap.get? c = some o → h'.get? c = some o) → Q (some (.ref s.heap.objs.size)) { s with heap := h' }) : wpAny (model pg w) A (pyNext (.ref z)) Q Er s := by
  have hT : s.TypeIs (.ref z) "zip" := ⟨_, hz, rfl⟩
  unfold pyNext
  exact wpAny_bind (wpAny_attempt (wpAny_callSpecial?_slot (name := Str.ofString "__next__") hT F.slot_zip_next
    (wpAny_call_entry F.slot_zip_next hT F.entry_zip_next (zn_next D hz hf hTI hTO h1 h2 hl1 hl2 hx hy fun h' g0 g1 b1 b2 b3 b4 b5 b6 b7 => wpAny_pure (hQ h' g0 g1 b1 b2 b3 b4 b5 b6 b7)) (F.args_zip_next_1 _))))
theorem last_zn (hh : A.handled = none) (D : ZipApart z TI TO i1 i2 l1 l2) (hz : Zn s.heap z TI TO f0 f1) (hf : Kept f0) (hTI : IsPair s.heap TI (.ref i1) (.ref i2)) (hTO : IsPair s.heap TO a b)
    (h1 : s.heap.IsTupleIter i1 l1 k) (hl1 : s.heap.IsTuple l1 xs) (hx : xs[k]? = none) {Q : Option Value → Shared → Prop}
    (hQ : ∀ h', (∀ c o, c ≠ z → c ≠ TO → c ≠ i1 → c ≠ i2 → s.heap.get? c = some o → h'.get? c = some o) → Q none { s with heap := h' }) : wpAny (model pg w) A (pyNext (.ref z)) Q Er s := by
  have hT : s.TypeIs (.ref z) "zip" := ⟨_, hz, rfl⟩
  unfold pyNext
  refine wpAny_bind (wpAny_attempt (wpAny_callSpecial?_slot (name := Str.ofString "__next__") hT F.slot_zip_next
    (wpAny_call_entry F.slot_zip_next hT F.entry_zip_next (zn_end (A := A.in1) (show A.in1.handled = none from hh) D hz hf hTI hTO h1 hl1 hx fun h' e hk he => ?_) (F.args_zip_next_1 _))))
  obtain ⟨o, ho, hc⟩ := he
  exact wpAny_bind (wpAny_isInstance (T := "StopIteration") (b := true) ⟨o, ho, hc⟩ isSubtype_stop (wpAny_pure (hQ _ hk)))
end
/-- two tuples of one length, in new pairs that are kept -/
def ItzN (K : PySem.W.Frag) (a b : Addr) : It :=
  ⟨(ItzT K a b).go, (ItzT K a b).yld, fun i H => ∃ xs ys : List V, SqT K H a xs ∧ SqT K H b ys ∧ xs.length ≤ i⟩
theorem turn_zn {P : Program} {w : World} {K : PySem.W.Frag} {nm : Str} {npos : Pos} {a b z TI TO i1 i2 : Addr} (D : ZipApart z TI TO i1 i2 a b) :
    Turn P w K (.Name nm npos) (ItzN K a b) [z, TI, TO, i1, i2] z (fun i h => (∃ f0 f1, Zn h z TI TO f0 f1 ∧ Kept f0) ∧ IsPair h TI (.ref i1) (.ref i2) ∧ (∃ x y, IsPair h TO x y) ∧ h.IsTupleIter i1 a i ∧ h.IsTupleIter i2 b i) where
  mem := by simp
  obj := fun i h st c hc => by
    obtain ⟨⟨f0, f1, hz, _⟩, hTI, ⟨x, y, hTO⟩, ⟨o1, e1, _, d1⟩, ⟨o2, e2, _, d2⟩⟩ := st
    have e' : c = z ∨ c = TI ∨ c = TO ∨ c = i1 ∨ c = i2 := by simpa using hc
    rcases e' with rfl | rfl | rfl | rfl | rfl
    · exact ⟨_, hz, fun v q => nomatch q⟩
    · exact ⟨_, hTI, fun v q => nomatch q⟩
    · exact ⟨_, hTO, fun v q => nomatch q⟩
    · exact ⟨o1, e1, fun v q => by rw [d1] at q; cases q⟩
    · exact ⟨o2, e2, fun v q => by rw [d2] at q; cases q⟩
  keep := fun i h h' st kp => by
    obtain ⟨⟨f0, f1, hz, hf⟩, hTI, ⟨x, y, hTO⟩, h1, h2⟩ := st
    exact ⟨⟨f0, f1, kp z (by simp) _ hz, hf⟩, kp TI (by simp) _ hTI, ⟨x, y, kp TO (by simp) _ hTO⟩, h1.at fun o q => kp i1 (by simp) o q, h2.at fun o q => kp i2 (by simp) o q⟩
  item := by
    intro X hP hw hK hc i pins s σ H E I hf st hg
    subst hP hw hK
    obtain ⟨⟨f0, f1, hz, hk0⟩, hTI, ⟨x0, y0, hTO⟩, h1, h2⟩ := st
    obtain ⟨xs, ys, x, y, hqx, hqy, hx, hy⟩ := hg
    obtain ⟨its, rv, p, _⟩ := I.tuple hqx
    obtain ⟨its2, rv2, p2, _⟩ := I.tuple hqy
    obtain ⟨u, hu, ru⟩ := rv.get hx
    obtain ⟨u2, hu2, ru2⟩ := rv2.get hy
    refine next_zn D hz hk0 hTI hTO h1 h2 p p2 (x := u) (y := u2) (by simpa using hu) (by simpa using hu2) fun h' g0 g1 z' k' TO' h1' h2' hT hk => ?_
    refine ⟨_, rfl, wpAny_pure ?_⟩
    have new : ObjOk X.prog X.w (upd H s.heap.objs.size (.tup [x, y])) h' s.heap.objs.size (.tup [x, y]) := ⟨by show 2 ≤ sizeLine; decide, [u, u2], .cons ru (.cons ru2 .nil), ⟨_, hT, rfl, _, rfl⟩⟩
    have I1 : Inv X pins σ (upd H s.heap.objs.size (.tup [x, y])) { s with heap := h' } :=
      I.turnedNew (t' := s.toks) (ch := [z, TI, TO, i1, i2]) (fun c o hb q => hk c o (fun e => hb (by simp [e])) (fun e => hb (by simp [e])) (fun e => hb (by simp [e])) (fun e => hb (by simp [e])) q) hf (Nat.le_refl _) new
    refine ⟨.ref s.heap.objs.size, _, I1, rfl, ⟨_, x, y, rfl, I.hok.fresh (Nat.le_refl _), rfl, fun l hl => by rw [I.tuple_inj hl hqx]; exact hx, fun l hl => by rw [I.tuple_inj hl hqy]; exact hy⟩, ⟨⟨g0, g1, z', k'⟩, hk _ _ D.TIz D.TITO D.TIi1 D.TIi2 hTI, TO', h1', h2'⟩, fun c hcm => ?_⟩
    have hlt : c < s.heap.objs.size := by
      have e' : c = z ∨ c = TI ∨ c = TO ∨ c = i1 ∨ c = i2 := by simpa using hcm
      rcases e' with rfl | rfl | rfl | rfl | rfl
      · exact Heap.lt_size hz
      · exact Heap.lt_size hTI
      · exact Heap.lt_size hTO
      · obtain ⟨_, e1, _⟩ := h1; exact Heap.lt_size e1
      · obtain ⟨_, e1, _⟩ := h2; exact Heap.lt_size e1
    rw [upd_ne (Nat.ne_of_lt hlt)]
    exact (hf c hcm).1
  done := by
    intro X hP hw hK hc i pins s σ H E I hf st hg
    subst hP hw hK
    obtain ⟨⟨f0, f1, hz, hk0⟩, hTI, ⟨x0, y0, hTO⟩, h1, h2⟩ := st
    obtain ⟨xs, ys, hqx, hqy, hend⟩ := hg
    obtain ⟨its, rv, p, _⟩ := I.tuple hqx
    have l1 := rv.length
    exact last_zn (I.ok.hd hc) D hz hk0 hTI hTO h1 p (by simp; omega) fun h' hk => ⟨rfl, I.turnedL (t' := s.toks) (ch := [z, TI, TO, i1, i2]) (fun c o hb q => hk c o (fun e => hb (by simp [e])) (fun e => hb (by simp [e])) (fun e => hb (by simp [e])) (fun e => hb (by simp [e])) q) hf⟩
  self := fun A i s Q E st h => by
    obtain ⟨f0, f1, hz, _⟩ := st.1
    have hT : s.TypeIs (.ref z) "zip" := ⟨_, hz, rfl⟩
    refine wpAny_pyIter_slot hT F.slot_zip_iter (wpAny_call_entry F.slot_zip_iter hT F.entry_zip_iter (show wpAny _ _ (ret (.ref z)) _ _ s from ?_) (F.args_zip_iter_1 _))
    exact wpAny_pure ⟨_, rfl, "zip", _, hT, F.slot_zip_next.lookup, h⟩
def iZipN (K : PySem.W.Frag) (ta : TA) : TI := fun σ H R => ta σ H fun vs H1 => ∃ a b xs ys, vs = [.ref a, .ref b] ∧ SqT K H1 a xs ∧ SqT K H1 b ys ∧ R (ItzN K a b) H1
theorem fresh_run {X : Cx} {pins : List (Addr × Obj)} {σ : L2.St} {H : Hp} {s : Shared} (I : Inv X pins σ H s) (cs : List Addr) (h : ∀ c ∈ cs, s.heap.objs.size ≤ c) : ∀ c, c ∈ cs → FpOk X pins H c := fun c hc => I.fpOk (h c hc) (I.hok.fresh (h c hc))
/-- for x in zip(e, f), of tuples -/
theorem pi_zipN {X : Cx} {e e2 : Expr} {ta : TA} {p pos npos : Pos} {nm : Str} (hg : Gl X "zip") (hm : X.mg "zip" = none) (ha : PA X [e, e2] ta)
    (hs : starEach [e, e2] X.env = (false, eval e X.env) :: starEach [e2] X.env := by rfl) (hpl : (backTo pos (starEach [e2] X.env)).any (·.1) = false := by rfl) :
    PI X (.Name nm npos) (.Call (.Name "zip" p) [e, e2] [] pos) (iZipN X.K ta) := by
  refine ⟨fun pins s σ H R I h => Call_ (ld_blt I hg hm PyProof.Rows.boot_zip (PyProof.Rows.callWith_type1 (thn (ha.run pos pins s σ H _ I h) fun us s1 hh => ?_) hs hpl))⟩
  obtain ⟨vs, H1, I1, r1, a, b, xs, ys, ex, hqx, hqy, q⟩ := hh
  subst ex
  obtain ⟨u, v, rfl, r, r'⟩ := vals2 r1
  cases r
  cases r'
  obtain ⟨its, rv, p1, _⟩ := I1.tuple hqx
  obtain ⟨its2, rv2, p2, _⟩ := I1.tuple hqy
  obtain ⟨o1, ho1, _⟩ := id p1
  obtain ⟨o2, ho2, _⟩ := id p2
  refine call_zipT (show s1.heap.IsTuple a its.toArray from p1) (show s1.heap.IsTuple b its2.toArray from p2) fun h' hz hTI hTO h1 h2 hsz hk => wpAny_pyIter_zip hz ?_
  have I2 : Inv X pins σ H1 { s1 with heap := h' } := I1.kept (t' := s1.toks) hk
  refine ⟨s1.heap.objs.size + 4, [s1.heap.objs.size + 4, s1.heap.objs.size + 2, s1.heap.objs.size + 3, s1.heap.objs.size, s1.heap.objs.size + 1], _, _, H1, rfl, I2, turn_zn (PySem.W.ktu_apart s1.heap.objs.size a b (Heap.lt_size ho1) (Heap.lt_size ho2)), ⟨⟨_, _, hz, .inl rfl⟩, hTI, ⟨_, _, hTO⟩, h1, h2⟩, fresh_run I1 _ fun c hc => ?_, q⟩
  simp only [List.mem_cons, List.not_mem_nil, or_false] at hc
  rcases hc with rfl | rfl | rfl | rfl | rfl <;> first | exact Nat.le_add_right _ _ | exact Nat.le_refl _
/-! ### three tuples -/
def Itz3 (K : PySem.W.Frag) (a b c : Addr) : It :=
  ⟨fun i H => ∃ (xs ys zs : List V) (x y z : V), SqT K H a xs ∧ SqT K H b ys ∧ SqT K H c zs ∧ xs[i]? = some x ∧ ys[i]? = some y ∧ zs[i]? = some z,
    fun i H v H' => ∃ T x y z, v = .ref T ∧ H T = none ∧ H' = upd H T (.tup [x, y, z]) ∧ (∀ xs, SqT K H a xs → xs[i]? = some x) ∧ (∀ ys, SqT K H b ys → ys[i]? = some y) ∧ ∀ zs, SqT K H c zs → zs[i]? = some z,
    fun i H => ∃ xs ys zs : List V, SqT K H a xs ∧ SqT K H b ys ∧ SqT K H c zs ∧ xs.length = i ∧ ys.length = i ∧ zs.length = i⟩
theorem turn_z3 {P : Program} {w : World} {K : PySem.W.Frag} {elts : List Expr} {kk : Nat} {tpos : Pos} {a b c z TI TO i1 i2 i3 : Addr} (D : ZipSep3 z TI TO i1 i2 i3 [i1, a] [i2, b] [i3, c]) (n1 : a ≠ i1) (n2 : b ≠ i2) (n3 : c ≠ i3) :
    Turn P w K (.Tuple elts kk tpos) (Itz3 K a b c) [z, TI, TO, i1, i2, i3] z (fun i h => IsZip h z TI TO .none ∧ IsTupOf3 h TI (.ref i1) (.ref i2) (.ref i3) ∧ (∃ x y u, IsTupOf3 h TO x y u) ∧ h.IsTupleIter i1 a i ∧ h.IsTupleIter i2 b i ∧ h.IsTupleIter i3 c i) where
  mem := by simp
  obj := fun i h st q hq => by
    obtain ⟨hz, hTI, ⟨x, y, u, hTO⟩, ⟨o1, e1, _, d1⟩, ⟨o2, e2, _, d2⟩, ⟨o3, e3, _, d3⟩⟩ := st
    simp only [List.mem_cons, List.not_mem_nil, or_false] at hq
    rcases hq with rfl | rfl | rfl | rfl | rfl | rfl
    · exact ⟨_, hz, fun v q => nomatch q⟩
    · exact ⟨_, hTI, fun v q => nomatch q⟩
    · exact ⟨_, hTO, fun v q => nomatch q⟩
    · exact ⟨o1, e1, fun v q => by rw [d1] at q; cases q⟩
    · exact ⟨o2, e2, fun v q => by rw [d2] at q; cases q⟩
    · exact ⟨o3, e3, fun v q => by rw [d3] at q; cases q⟩
  keep := fun i h h' st kp => by
    obtain ⟨hz, hTI, ⟨x, y, u, hTO⟩, h1, h2, h3⟩ := st
    exact ⟨kp z (by simp) _ hz, kp TI (by simp) _ hTI, ⟨x, y, u, kp TO (by simp) _ hTO⟩, h1.at fun o q => kp i1 (by simp) o q, h2.at fun o q => kp i2 (by simp) o q, h3.at fun o q => kp i3 (by simp) o q⟩
  item := by
    intro X hP hw hK hc i pins s σ H E I hf st hg
    subst hP hw hK
    obtain ⟨hz, hTI, ⟨x0, y0, u0, hTO⟩, h1, h2, h3⟩ := st
    obtain ⟨xs, ys, zs, x, y, u, qx, qy, qz, hx, hy, hu⟩ := hg
    obtain ⟨its, rv, p1, _⟩ := I.tuple qx
    obtain ⟨its2, rv2, p2, _⟩ := I.tuple qy
    obtain ⟨its3, rv3, p3, _⟩ := I.tuple qz
    obtain ⟨v1, f1, r1⟩ := rv.get hx
    obtain ⟨v2, f2, r2⟩ := rv2.get hy
    obtain ⟨v3, f3, r3⟩ := rv3.get hu
    have hh := I.ok.hd hc
    have W := WalksT.zipD3 (A := X.A) D (Draws.tuple (prog := X.prog) (w := X.w) (A := X.A.in1) hh i1 a n1 its.toArray) (Draws.tuple (prog := X.prog) (w := X.w) (A := X.A.in1) hh i2 b n2 its2.toArray) (Draws.tuple (prog := X.prog) (w := X.w) (A := X.A.in1) hh i3 c n3 its3.toArray)
    have m1 := (List.getElem?_eq_some_iff.mp f1).1
    have m2 := (List.getElem?_eq_some_iff.mp f2).1
    have m3 := (List.getElem?_eq_some_iff.mp f3).1
    refine W.item i s _ _ (by simp only [List.size_toArray]; omega) ⟨hz, hTI, ⟨_, _, _, hTO⟩, ⟨h1, p1⟩, ⟨h2, p2⟩, ⟨h3, p3⟩⟩ fun T vals h' tk hP hT hIs hMid hk => ?_
    refine ⟨_, rfl, W.go elts kk tpos i T _ _ _ hMid fun h'' st' hk' => ?_⟩
    obtain ⟨w1, w2, w3, g1, g2, g3, rfl⟩ := hP
    have d1 : w1 = v1 := by simpa [f1] using g1.symm
    have d2 : w2 = v2 := by simpa [f2] using g2.symm
    have d3 : w3 = v3 := by simpa [f3] using g3.symm
    subst d1 d2 d3
    obtain ⟨z', t', o', s1', s2', s3'⟩ := st'
    have hTn : T ∉ [z, TO, i1, i2, i3] := W.apart i T h' hMid
    have new : ObjOk X.prog X.w (upd H T (.tup [x, y, u])) h'' T (.tup [x, y, u]) := ⟨by show 3 ≤ sizeLine; decide, [w1, w2, w3], .cons r1 (.cons r2 (.cons r3 .nil)), hIs.at fun o q => hk' T o hTn q⟩
    have sub : ∀ q, q ∈ [z, TO, i1, i2, i3] → q ∈ [z, TI, TO, i1, i2, i3] := fun q hq => by
      simp only [List.mem_cons, List.not_mem_nil, or_false] at hq ⊢
      rcases hq with h | h | h | h | h <;> simp [h]
    have I1 : Inv X pins σ (upd H T (.tup [x, y, u])) { s with heap := h'', toks := tk } :=
      I.turnedNew (t' := tk) (ch := [z, TI, TO, i1, i2, i3]) (fun q o hb e => hk' q o (fun hq => hb (sub q hq)) (hk q o (fun hq => hb (sub q hq)) e)) hf hT new
    refine ⟨.ref T, _, I1, rfl, ⟨_, x, y, u, rfl, I.hok.fresh hT, rfl, fun l hl => by rw [I.tuple_inj hl qx]; exact hx, fun l hl => by rw [I.tuple_inj hl qy]; exact hy, fun l hl => by rw [I.tuple_inj hl qz]; exact hu⟩, ⟨z', t', o', s1'.1, s2'.1, s3'.1⟩, fun q hq => ?_⟩
    have hlt : q < s.heap.objs.size := by
      simp only [List.mem_cons, List.not_mem_nil, or_false] at hq
      rcases hq with rfl | rfl | rfl | rfl | rfl | rfl
      · exact Heap.lt_size hz
      · exact Heap.lt_size hTI
      · exact Heap.lt_size hTO
      · obtain ⟨_, e1, _⟩ := h1; exact Heap.lt_size e1
      · obtain ⟨_, e1, _⟩ := h2; exact Heap.lt_size e1
      · obtain ⟨_, e1, _⟩ := h3; exact Heap.lt_size e1
    rw [upd_ne (Nat.ne_of_lt (Nat.lt_of_lt_of_le hlt hT))]
    exact (hf q hq).1
  done := by
    intro X hP hw hK hc i pins s σ H E I hf st hg
    subst hP hw hK
    obtain ⟨hz, hTI, ⟨x0, y0, u0, hTO⟩, h1, h2, h3⟩ := st
    obtain ⟨xs, ys, zs, qx, qy, qz, e1, e2, e3⟩ := hg
    obtain ⟨its, rv, p1, _⟩ := I.tuple qx
    obtain ⟨its2, rv2, p2, _⟩ := I.tuple qy
    obtain ⟨its3, rv3, p3, _⟩ := I.tuple qz
    have hh := I.ok.hd hc
    have W := WalksT.zipD3 (A := X.A) D (Draws.tuple (prog := X.prog) (w := X.w) (A := X.A.in1) hh i1 a n1 its.toArray) (Draws.tuple (prog := X.prog) (w := X.w) (A := X.A.in1) hh i2 b n2 its2.toArray) (Draws.tuple (prog := X.prog) (w := X.w) (A := X.A.in1) hh i3 c n3 its3.toArray)
    have l1 := rv.length
    have l2 := rv2.length
    have l3 := rv3.length
    have hn : min (min its.toArray.size its2.toArray.size) its3.toArray.size = i := by simp only [List.size_toArray]; omega
    refine W.done s _ _ (by rw [hn]; exact ⟨hz, hTI, ⟨_, _, _, hTO⟩, ⟨h1, p1⟩, ⟨h2, p2⟩, ⟨h3, p3⟩⟩) fun h' tk hk => ⟨rfl, ?_⟩
    refine I.turnedL (t' := tk) (ch := [z, TI, TO, i1, i2, i3]) (fun q o hb e => hk q o (fun hq => hb ?_) e) hf
    simp only [List.mem_cons, List.not_mem_nil, or_false] at hq ⊢
    rcases hq with h | h | h | h | h <;> simp [h]
  self := fun A i s Q E st h => wpAny_pyIter_zip st.1 h
def iZip3 (K : PySem.W.Frag) (ta : TA) : TI := fun σ H R => ta σ H fun vs H1 => ∃ a b c xs ys zs, vs = [.ref a, .ref b, .ref c] ∧ SqT K H1 a xs ∧ SqT K H1 b ys ∧ SqT K H1 c zs ∧ R (Itz3 K a b c) H1
theorem nin {x p q : Nat} (h1 : x ≠ p) (h2 : x ≠ q) : ¬ (@Membership.mem Addr (List Addr) _ [p, q] x) := fun h => by
  rcases List.mem_cons.mp h with h | h
  · exact h1 h
  · exact h2 (List.mem_singleton.mp h)
theorem sep3 (N x y u : Nat) (a1 : x < N) (a2 : y < N) (a3 : u < N) : ZipSep3 (N + 5) (N + 3) (N + 4) N (N + 1) (N + 2) [N, x] [N + 1, y] [N + 2, u] where
  TIz := fun h => by have h : N + 3 = N + 5 := h; omega
  TOz := fun h => by have h : N + 4 = N + 5 := h; omega
  TITO := fun h => by have h : N + 3 = N + 4 := h; omega
  TIi1 := fun h => by have h : N + 3 = N := h; omega
  mem1 := List.mem_cons_self
  zf1 := nin (by omega) (by omega)
  Tf1 := nin (by omega) (by omega)
  TIi2 := fun h => by have h : N + 3 = N + 1 := h; omega
  mem2 := List.mem_cons_self
  zf2 := nin (by omega) (by omega)
  Tf2 := nin (by omega) (by omega)
  TIi3 := fun h => by have h : N + 3 = N + 2 := h; omega
  mem3 := List.mem_cons_self
  zf3 := nin (by omega) (by omega)
  Tf3 := nin (by omega) (by omega)
  sep1_2 := nin (by omega) (by omega)
  sep1_3 := nin (by omega) (by omega)
  sep2_1 := nin (by omega) (by omega)
  sep2_3 := nin (by omega) (by omega)
  sep3_1 := nin (by omega) (by omega)
  sep3_2 := nin (by omega) (by omega)
theorem vals3 : ∀ {x y z : V} {us : List Value}, Vals [x, y, z] us → ∃ u v w, us = [u, v, w] ∧ RelV x u ∧ RelV y v ∧ RelV z w
  | _, _, _, _, .cons r (.cons q (.cons t .nil)) => ⟨_, _, _, rfl, r, q, t⟩
/-- for x, y, z in zip(e, f, g), of tuples -/
theorem pi_zip3 {X : Cx} {e e2 e3 : Expr} {ta : TA} {p pos tpos : Pos} {elts : List Expr} {kk : Nat} (hg : Gl X "zip") (hm : X.mg "zip" = none) (ha : PA X [e, e2, e3] ta)
    (hs : starEach [e, e2, e3] X.env = (false, eval e X.env) :: starEach [e2, e3] X.env := by rfl) (hpl : (backTo pos (starEach [e2, e3] X.env)).any (·.1) = false := by rfl) :
    PI X (.Tuple elts kk tpos) (.Call (.Name "zip" p) [e, e2, e3] [] pos) (iZip3 X.K ta) := by
  refine ⟨fun pins s σ H R I h => Call_ (ld_blt I hg hm PyProof.Rows.boot_zip (PyProof.Rows.callWith_type1 (thn (ha.run pos pins s σ H _ I h) fun us s1 hh => ?_) hs hpl))⟩
  obtain ⟨vs, H1, I1, r1, a, b, c, xs, ys, zs, ex, qx, qy, qz, q⟩ := hh
  subst ex
  obtain ⟨u, v, w, rfl, r, r', r''⟩ := vals3 r1
  cases r
  cases r'
  cases r''
  obtain ⟨its, rv, p1, _⟩ := I1.tuple qx
  obtain ⟨its2, rv2, p2, _⟩ := I1.tuple qy
  obtain ⟨its3, rv3, p3, _⟩ := I1.tuple qz
  obtain ⟨o1, ho1, _⟩ := id p1
  obtain ⟨o2, ho2, _⟩ := id p2
  obtain ⟨o3, ho3, _⟩ := id p3
  have a1 := Heap.lt_size ho1
  have a2 := Heap.lt_size ho2
  have a3 := Heap.lt_size ho3
  refine zip_begins3 (begins_tuple a its.toArray) (begins_tuple b its2.toArray) (begins_tuple c its3.toArray) p1 p2 p3 fun h' hz hTI hTO g1 g2 g3 hsz hk => wpAny_pyIter_zip hz ?_
  have I2 : Inv X pins σ H1 { s1 with heap := h' } := I1.kept (t' := s1.toks) hk
  refine ⟨s1.heap.objs.size + 5, [s1.heap.objs.size + 5, s1.heap.objs.size + 3, s1.heap.objs.size + 4, s1.heap.objs.size, s1.heap.objs.size + 1, s1.heap.objs.size + 2], _, _, H1, rfl, I2, turn_z3 (sep3 _ _ _ _ a1 a2 a3) (Nat.ne_of_lt a1) (Nat.ne_of_lt (Nat.lt_succ_of_lt a2)) (Nat.ne_of_lt (Nat.lt_succ_of_lt (Nat.lt_succ_of_lt a3))), ⟨hz, hTI, ⟨_, _, _, hTO⟩, ⟨_, g1, rfl, rfl⟩, ⟨_, g2, rfl, rfl⟩, ⟨_, g3, rfl, rfl⟩⟩, fresh_run I1 _ fun q hq => ?_, q⟩
  simp only [List.mem_cons, List.not_mem_nil, or_false] at hq
  rcases hq with rfl | rfl | rfl | rfl | rfl | rfl <;> first | exact Nat.le_add_right _ _ | exact Nat.le_refl _
end VZ

set_option Elab.async false
set_option linter.all false
set_option maxRecDepth 100000
/-! zips over data -/
namespace VL
open PySem PySem.Spec L2 RZ VZ
open Evl (Ex)
def zipD (xs ys : List DV) : List DV := (xs.zip ys).map fun p => .tup [p.1, p.2]
def zip3D (xs ys zs : List DV) : List DV := (xs.zip (ys.zip zs)).map fun p => .tup [p.1, p.2.1, p.2.2]
theorem zipD_len (xs ys : List DV) : (zipD xs ys).length = min xs.length ys.length := by
  unfold zipD
  rw [List.length_map, List.length_zip]
theorem zipD_get {xs ys : List DV} {i : Nat} {x y : DV} (hx : xs[i]? = some x) (hy : ys[i]? = some y) : (zipD xs ys)[i]? = some (.tup [x, y]) := by
  unfold zipD
  have e : (xs.zip ys)[i]? = some (x, y) := (List.getElem?_zip_eq_some (z := (x, y))).mpr ⟨hx, hy⟩
  rw [List.getElem?_map, e]
  rfl
theorem zip3D_get {xs ys zs : List DV} {i : Nat} {x y z : DV} (hx : xs[i]? = some x) (hy : ys[i]? = some y) (hz : zs[i]? = some z) : (zip3D xs ys zs)[i]? = some (.tup [x, y, z]) := by
  unfold zip3D
  have e1 : (ys.zip zs)[i]? = some (y, z) := (List.getElem?_zip_eq_some (z := (y, z))).mpr ⟨hy, hz⟩
  have e : (xs.zip (ys.zip zs))[i]? = some (x, y, z) := (List.getElem?_zip_eq_some (z := (x, y, z))).mpr ⟨hx, e1⟩
  rw [List.getElem?_map, e]
  rfl
section
variable {K : PySem.W.Frag} {c : Cfg} {ρ : List SV} {ta : TA}
theorem walks_zipT {F : Hp} {a b : Addr} {vs us : List V} {xs ys : List DV} (h1 : SqT K F a vs) (r1 : RelA K F vs xs) (h2 : SqT K F b us) (r2 : RelA K F us ys) (hl : xs.length = ys.length) : Walks K c F (ItzT K a b) (zipD xs ys) := by
  have n : (zipD xs ys).length = xs.length := by rw [zipD_len]; omega
  refine ⟨fun i H hi e => ?_, fun H e => ?_, fun i x H H' F1 hi e1 e2 m y => ?_⟩
  · rw [n] at hi
    obtain ⟨v, e3, _⟩ := r1.get (List.getElem?_eq_getElem hi)
    obtain ⟨u, e4, _⟩ := r2.get (List.getElem?_eq_getElem (show i < ys.length by omega))
    exact ⟨vs, us, v, u, Evl.ex_t e h1, Evl.ex_t e h2, e3, e4⟩
  · rw [n]
    exact ⟨vs, us, Evl.ex_t e h1, Evl.ex_t e h2, .inl (by rw [r1.len]; exact Nat.le_refl _)⟩
  · rw [n] at hi
    obtain ⟨T, v, u, rfl, hT, rfl, g1, g2⟩ := y
    obtain ⟨d, hd, rd⟩ := r1.getV (g1 vs (Evl.ex_t (e1.trans e2) h1))
    obtain ⟨d2, hd2, rd2⟩ := r2.getV (g2 us (Evl.ex_t (e1.trans e2) h2))
    have g : Go c F1 H (upd F1 T (.tup [v, u])) (upd H T (.tup [v, u])) := Go.new e2 m hT
    have ee := e1.trans g.ff
    exact ⟨_, _, zipD_get hd hd2, g, .tup (Evl.st_of upd_same) (.cons (rd.mono ee) (.cons (rd2.mono ee) .nil))⟩
/-- for x, y in zip(e, f), of tuples of one length -/
theorem ei_zipT {P : List DV → Prop} (h : EvA K c ta ρ fun ds => ∃ xs ys, ds = [.tup xs, .tup ys] ∧ xs.length = ys.length ∧ P (zipD xs ys)) : EvI K c (iZipA K ta) ρ P := fun B σ F H S ex m R q =>
  h B σ F H S ex m _ fun vs ds F1 H1 g1 r1 h1 => by
    obtain ⟨xs, ys, rfl, hl, p⟩ := h1
    cases r1 with
    | cons ra rb =>
      cases rb with
      | cons rb rc =>
        cases rc
        cases ra with
        | tup h1 s1 =>
          cases rb with
          | tup h2 s2 => exact ⟨_, _, _, _, rfl, .inr ⟨Evl.ex_t g1.fh h1, Evl.ex_t g1.fh h2, q _ _ F1 H1 g1 (walks_zipT h1 s1 h2 s2 hl) p⟩⟩
/-- for x in zip(e, f), of tuples of one length -/
theorem ei_zipN {P : List DV → Prop} (h : EvA K c ta ρ fun ds => ∃ xs ys, ds = [.tup xs, .tup ys] ∧ xs.length = ys.length ∧ P (zipD xs ys)) : EvI K c (iZipN K ta) ρ P := fun B σ F H S ex m R q =>
  h B σ F H S ex m _ fun vs ds F1 H1 g1 r1 h1 => by
    obtain ⟨xs, ys, rfl, hl, p⟩ := h1
    cases r1 with
    | cons ra rb =>
      cases rb with
      | cons rb rc =>
        cases rc
        cases ra with
        | tup h1 s1 =>
          cases rb with
          | tup h2 s2 =>
            refine ⟨_, _, _, _, rfl, Evl.ex_t g1.fh h1, Evl.ex_t g1.fh h2, q _ _ F1 H1 g1 ?_ p⟩
            have W : Walks K c F1 (ItzT K _ _) (zipD xs ys) := walks_zipT h1 s1 h2 s2 hl
            refine ⟨W.go, fun H e => ?_, W.yld⟩
            rw [zipD_len]
            exact ⟨_, _, Evl.ex_t e h1, Evl.ex_t e h2, by rw [s1.len]; omega⟩
theorem ei_zip3 {P : List DV → Prop} (h : EvA K c ta ρ fun ds => ∃ xs ys zs, ds = [.tup xs, .tup ys, .tup zs] ∧ xs.length = ys.length ∧ ys.length = zs.length ∧ P (zip3D xs ys zs)) : EvI K c (iZip3 K ta) ρ P := fun B σ F H S ex m R q =>
  h B σ F H S ex m _ fun vs ds F1 H1 g1 r1 h1 => by
    obtain ⟨xs, ys, zs, rfl, l1, l2, p⟩ := h1
    cases r1 with
    | cons ra rb =>
      cases rb with
      | cons rb rc =>
        cases rc with
        | cons rc rd =>
          cases rd
          cases ra with
          | tup h1 s1 =>
            cases rb with
            | tup h2 s2 =>
              cases rc with
              | tup h3 s3 =>
                have n : (zip3D xs ys zs).length = xs.length := by
                  unfold zip3D
                  rw [List.length_map, List.length_zip, List.length_zip]
                  omega
                refine ⟨_, _, _, _, _, _, rfl, Evl.ex_t g1.fh h1, Evl.ex_t g1.fh h2, Evl.ex_t g1.fh h3, q _ _ F1 H1 g1 ⟨fun i H hi e => ?_, fun H e => ?_, fun i x H H' F2 hi e1 e2 m y => ?_⟩ p⟩
                · rw [n] at hi
                  obtain ⟨v, e3, _⟩ := s1.get (List.getElem?_eq_getElem hi)
                  obtain ⟨u, e4, _⟩ := s2.get (List.getElem?_eq_getElem (show i < ys.length by omega))
                  obtain ⟨w, e5, _⟩ := s3.get (List.getElem?_eq_getElem (show i < zs.length by omega))
                  exact ⟨_, _, _, v, u, w, Evl.ex_t e h1, Evl.ex_t e h2, Evl.ex_t e h3, e3, e4, e5⟩
                · rw [n]
                  exact ⟨_, _, _, Evl.ex_t e h1, Evl.ex_t e h2, Evl.ex_t e h3, s1.len, by rw [s2.len]; omega, by rw [s3.len]; omega⟩
                · rw [n] at hi
                  obtain ⟨T, v, u, w, rfl, hT, rfl, g1, g2, g3⟩ := y
                  obtain ⟨d, hd, rd⟩ := s1.getV (g1 _ (Evl.ex_t (e1.trans e2) h1))
                  obtain ⟨d2, hd2, rd2⟩ := s2.getV (g2 _ (Evl.ex_t (e1.trans e2) h2))
                  obtain ⟨d3, hd3, rd3⟩ := s3.getV (g3 _ (Evl.ex_t (e1.trans e2) h3))
                  have g : Go c F2 H (upd F2 T (.tup [v, u, w])) (upd H T (.tup [v, u, w])) := Go.new e2 m hT
                  have ee := e1.trans g.ff
                  exact ⟨_, _, zip3D_get hd hd2 hd3, g, .tup (Evl.st_of upd_same) (.cons (rd.mono ee) (.cons (rd2.mono ee) (.cons (rd3.mono ee) .nil)))⟩
end
end VL

set_option Elab.async false
set_option linter.all false
set_option maxRecDepth 100000
set_option maxHeartbeats 2000000
/-! tuples whose object is known; how many items are None; the least and the greatest of a pair -/
namespace VL
open PySem PySem.Spec PyProof.Rows L2
open Evl (Ex)
def isNon : V → Bool
  | .non => true
  | _ => false
def pdP : V → PyData
  | .non => .none
  | _ => .tuple [.int 0, .int 0]
section
variable {X : Cx} {pins : List (Addr × Obj)} {σ : L2.St} {H : Hp} {s : Shared}
/-- None, or a pair of ints -/
def NonOrPair (K : PySem.W.Frag) (H : Hp) (v : V) : Prop := v = .non ∨ ∃ b i j, v = .ref b ∧ SqT K H b [.int i, .int j]
theorem reads_pairs (I : Inv X pins σ H s) : ∀ {vs : List V} {us : List Value}, Vals vs us → (∀ v ∈ vs, NonOrPair X.K H v) →
    ∃ xs as, ReadsAll s.heap us xs as ∧ PyData.plainAll xs = true ∧ xs.countP (fun y => PyData.eqv y .none) = vs.countP isNon
  | _, _, .nil, _ => ⟨[], [], .nil, rfl, rfl⟩
  | v :: vs, u :: us, .cons r rs, h => by
    obtain ⟨xs, as, q1, q2, q3⟩ := reads_pairs I rs fun v hv => h v (List.mem_cons_of_mem _ hv)
    rcases h v List.mem_cons_self with rfl | ⟨b, i, j, rfl, hb⟩
    · have e : u = .none := r
      subst e
      refine ⟨.none :: xs, _, .cons .none q1, by show (true && PyData.plainAll xs) = true; rw [q2]; rfl, ?_⟩
      rw [List.countP_cons, List.countP_cons, q3]
      rfl
    · have e : u = .ref b := r
      subst e
      obtain ⟨its, rv, ⟨o, ho, hc, n, hd⟩, _⟩ := I.tuple hb
      cases rv with
      | cons r1 rv =>
        cases rv with
        | cons r2 rv =>
          cases rv
          obtain ⟨t1, rfl⟩ := r1
          obtain ⟨t2, rfl⟩ := r2
          refine ⟨.tuple [.int i, .int j] :: xs, _, .cons (.tuple ho hc hd (.cons (.int i t1) (.cons (.int j t2) .nil))) q1, by show (PyData.plain (.tuple [.int i, .int j]) && PyData.plainAll xs) = true; rw [q2]; rfl, ?_⟩
          rw [List.countP_cons, List.countP_cons, q3]
          rfl
end
/-- t.count(None), t of None and pairs of ints -/
def rCntN (K : PySem.W.Frag) : V → List V → Hp → VK → Prop := fun x xs H Q => ∃ a vs, x = .ref a ∧ xs = [.non] ∧ SqT K H a vs ∧ (∀ v ∈ vs, NonOrPair K H v) ∧ Q (.int ((vs.countP isNon : Nat) : Int)) H
theorem mt_cntN (K : PySem.W.Frag) {X : Cx} (hu : X.A.units + 64 < cLine) (hK : X.K = K := by rfl) : MtR X "tuple.count" (rCntN K) := by
  subst hK
  intro pins s σ H x xs v us Q I rx rxs h
  obtain ⟨a, vs, rfl, rfl, hs, ho, q⟩ := h
  cases rx
  obtain ⟨u, rfl, ru⟩ := rxs.one
  have eu : u = .none := ru
  subst eu
  obtain ⟨its, rv, pt, _⟩ := I.tuple hs
  obtain ⟨xs, as, q1, q2, q3⟩ := reads_pairs I rv ho
  refine SeqAt.count_tuple_data (d := .none) (bs := []) (show s.heap.IsTuple a its.toArray from pt) q1 .none q2 rfl ?_ ?_
  · have e : min (PyData.depthAll xs) (PyData.depth .none) = 0 := Nat.min_eq_zero_iff.mpr (.inr rfl)
    rw [e]
    show X.A.units + 1 + 0 < cLine
    omega
  · rw [q3]
    exact ⟨.int ((vs.countP isNon : Nat) : Int), H, I.tok _, ⟨s.toks, rfl⟩, q⟩
/-- a method of a tuple whose object is known -/
def tBMF (r : V → List V → Hp → VK → Prop) (to : TE) (t : TA) : TE := fun σ H Q => to σ H fun x H1 => (∃ p o xs, x = .ref p ∧ H1 p = some (.frz o (.tup xs)) ∧ o.dict = none ∧ o.cls = .type "tuple") ∧ t σ H1 fun xs H2 => r x xs H2 Q
theorem x_cntN (K : PySem.W.Frag) {X : Cx} {o e : Expr} {to : TE} {t : TA} {apos cpos : Pos} (hu : X.A.units + 64 < cLine) (ho : PE X o to) (ha : PA X [e] t) (hK : X.K = K := by rfl)
    (hbase : attributeBase o "count" X.env (eval o X.env) = eval o X.env := by rfl) (hfew : ((backTo cpos (starEach [e] X.env)).all (fun x => !x.1) && (backToKw cpos (keywordEach [] X.env)).all (fun x => x.1.isSome) && decide ([e].length + ([] : List Keyword).length + (if ([] : List Keyword).isEmpty then 0 else 1) < 30)) = true := by rfl)
    (hline : (apos.endLine == cpos.line) = true := by rfl) (hs : starEach [e] X.env = (false, eval e X.env) :: starEach [] X.env := by rfl) (hplain : (backTo cpos (starEach [] X.env)).any (·.1) = false := by rfl) :
    PE X (.Call (.Attribute o "count" apos) [e] [] cpos) (tBMF (rCntN K) to t) := by
  subst hK
  refine ⟨fun pins s σ H Q I h => ?_⟩
  refine wpAny_Call_method_late hbase hfew hline rfl (thn (ho.run pins s σ H _ I h) fun v s1 ⟨x, H1, I1, r1, ty, q1⟩ => ?_)
  obtain ⟨p, ob, ys, rfl, hp, hd, hc⟩ := ty
  cases r1
  have at1 : s1.heap.get? p = some ob := (show ObjOk X.prog X.w H1 s1.heap p (.frz ob (.tup ys)) from I1.hok p _ hp).1
  refine ⟨"tuple", "tuple.count", PySem.F.plainAttrs_tuple, PySem.F.slot_tuple_count, PySem.F.type_tuple_count, ⟨ob, at1, hc⟩, fun a e => by cases e; exact ⟨ob, at1, hd⟩, ?_⟩
  have hA := ha.run cpos pins s1 σ H1 _ I1 q1
  rw [hs] at hA ⊢
  refine Calls.callWith_builtin (by show (false || (backTo cpos (starEach [] X.env)).any (·.1)) = false; rw [hplain] <;> rfl) (Calls.evalArgs_plain ?_)
  exact thn hA fun us s2 ⟨vs, H2, I2, r2, q2⟩ => mt_cntN X.K hu rfl pins s2 σ H2 (.ref p) vs (.ref p) us Q I2 rfl r2 q2
/-! makers of tuples whose object is known -/
def tTupF (t : TA) : TE := fun σ H Q => t σ H fun xs H1 => xs.length ≤ sizeLine ∧ ∀ p o, H1 p = none → o.dict = none → o.cls = .type "tuple" → Q (.ref p) (upd H1 p (.frz o (.tup xs)))
theorem pe_tupF {X : Cx} {es : List Expr} {t : TA} {x1 : Nat} {pos : Pos} (h : PA X es t) : PE X (.Tuple es x1 pos) (tTupF t) := by
  refine ⟨fun pins s σ H Q I hq => ?_⟩
  refine wpAny_Tuple_spliced (thn (h.run pos pins s σ H _ I hq) fun us s1 ⟨xs, H1, I1, r, z, q⟩ => ⟨by rw [← r.length]; exact z, ?_⟩)
  have hf : H1 s1.heap.objs.size = none := I1.hok.fresh (Nat.le_refl _)
  refine ⟨.ref s1.heap.objs.size, upd H1 s1.heap.objs.size (.frz { cls := .type "tuple", data := .seq us.toArray } (.tup xs)), I1.laid (t' := s1.toks) (fun b u e => Heap.get?_push_of_some _ e) (Nat.le_refl _) ?_, rfl, q _ _ hf rfl rfl⟩
  exact ⟨Heap.get?_push_size _ rfl, z, us, r, ⟨_, Heap.get?_push_size _ rfl, rfl, _, rfl⟩⟩
def rTupF (K : PySem.W.Frag) : List V → Hp → VK → Prop := fun xs H Q => ∃ p ys, xs = [.ref p] ∧ SqL K H p ys ∧ ∀ l o, H l = none → o.dict = none → o.cls = .type "tuple" → Q (.ref l) (upd H l (.frz o (.tup ys)))
theorem x_tupF (K : PySem.W.Frag) {X : Cx} (hK : X.K = K := by rfl) : CallR X (.type "tuple") (rTupF K) := by
  subst hK
  intro pins s σ H xs us Q I r h
  obtain ⟨p, ys, rfl, hq, q⟩ := h
  obtain ⟨u, rfl, rx⟩ := vals1 r
  cases rx
  obtain ⟨its, r', pl, hz⟩ := I.list hq
  have hlen := r'.length
  refine call_tuple_list pl.isList (fun h' kp => ?_) (by simp only [List.size_toArray] <;> omega)
  have I1 : Inv X pins σ H { s with heap := h' } := I.kept (t' := s.toks) kp
  have I2 : Inv X pins σ (upd H h'.objs.size (.frz { cls := .type "tuple", data := .seq its.toArray } (.tup ys))) { s with heap := h'.push { cls := .type "tuple", data := .seq its.toArray } } :=
    I1.laid (t' := s.toks) (fun b o e => Heap.get?_push_of_some _ e) (Nat.le_refl _) (show ObjOk X.prog X.w _ _ _ (.frz _ (.tup ys)) from ⟨Heap.get?_push_size _ rfl, hz, its, r', IsTup.new _ _⟩)
  exact ⟨.ref h'.objs.size, _, I2, rfl, q _ _ (I1.hok.fresh (Nat.le_refl _)) rfl rfl⟩
/-- t + u, the object of what comes out known -/
def rCatF (K : PySem.W.Frag) : R2 := fun x y H Q => ∃ a b xs ys, x = .ref a ∧ y = .ref b ∧ SqT K H a xs ∧ SqT K H b ys ∧ xs.length + ys.length ≤ sizeLine ∧
  (xs = [] → Q (.ref b) H) ∧ (xs ≠ [] → ys = [] → Q (.ref a) H) ∧ (xs ≠ [] → ys ≠ [] → ∀ p o, H p = none → o.dict = none → o.cls = .type "tuple" → Q (.ref p) (upd H p (.frz o (.tup (xs ++ ys)))))
theorem x_catF (K : PySem.W.Frag) {X : Cx} (hK : X.K = K := by rfl) : OpR X (binaryOp .Add) (rCatF K) := by
  subst hK
  intro pins s σ H x y v u Q I rx ry h
  obtain ⟨a, b, xs, ys, rfl, rfl, ha, hb, hz, q0, q1, q2⟩ := h
  cases rx
  cases ry
  obtain ⟨its, r1, p1, _⟩ := I.tuple ha
  obtain ⟨its2, r2, p2, _⟩ := I.tuple hb
  by_cases hx : xs = []
  · subst hx
    cases r1
    exact L2.cat_tup0 p1 p2 ⟨.ref b, H, I, rfl, q0 rfl⟩
  · refine HT.cat_tup p1 p2 (fun z => hx (r1.nil_iff.mp z)) (fun z => ⟨.ref a, H, I, rfl, q1 hx (r2.nil_iff.mp z)⟩) (fun z => ?_) (by rw [← r1.length, ← r2.length]; exact hz)
    refine ⟨.ref s.heap.objs.size, _, I.laid (t' := s.toks) (o := .frz { cls := .type "tuple", data := .seq (its ++ its2).toArray } (.tup (xs ++ ys))) (fun b ob q => Heap.get?_push_of_some _ q) (Nat.le_refl _) ?_, rfl, q2 hx (fun w => z (r2.nil_iff.mpr w)) _ _ (I.hok.fresh (Nat.le_refl _)) rfl rfl⟩
    exact ⟨Heap.get?_push_size _ rfl, by rw [List.length_append]; exact hz, _, r1.append r2, IsTup.new _ _⟩
/-! the least and the greatest of a pair -/
def rMinT (K : PySem.W.Frag) : List V → Hp → VK → Prop := fun vs H Q => ∃ a i j, vs = [V.ref a] ∧ SqT K H a [.int i, .int j] ∧ Q (.int (min i j)) H
def rMaxT (K : PySem.W.Frag) : List V → Hp → VK → Prop := fun vs H Q => ∃ a i j, vs = [V.ref a] ∧ SqT K H a [.int i, .int j] ∧ Q (.int (max i j)) H
theorem alike_ints (i j : Int) : PySem.W.AlikeAll [.int i, .int j] := by
  refine ⟨fun x hx y hy => ?_, fun x hx => ?_⟩
  · simp only [List.mem_cons, List.not_mem_nil, or_false] at hx hy
    rcases hx with rfl | rfl <;> rcases hy with rfl | rfl <;> rfl
  · simp only [List.mem_cons, List.not_mem_nil, or_false] at hx
    rcases hx with rfl | rfl <;> exact fun e => nomatch e
theorem reads_int {h : Heap} {v : Value} {i : Int} {bs : List Addr} (r : Reads h v (.int i) bs) : ∃ t, v = .int i t := by
  cases r
  exact ⟨_, rfl⟩
theorem x_minT (K : PySem.W.Frag) {X : Cx} (hc : X.calm = true) (hu : X.A.units + 64 < cLine) (hK : X.K = K := by rfl) : CallR X (.builtin "min") (rMinT K) := by
  subst hK
  intro pins s σ H vs us Q I r h
  obtain ⟨a, i, j, rfl, hs, q⟩ := h
  rw [Vals.ref1 r]
  obtain ⟨its, rv, pt, _⟩ := I.tuple hs
  obtain ⟨u, v, rfl, ⟨t1, rfl⟩, ⟨t2, rfl⟩⟩ := rv.two
  refine PySem.W.min_tuple_data (x := .int i) (xs := [.int j]) (I.ok.hd hc) (show s.heap.IsTuple a _ from pt) (.cons (.int i t1) (.cons (.int j t2) .nil)) (alike_ints i j) ?_ fun k v h' tk bs hv rd hk => ?_
  · show X.A.units + 1 + 0 < cLine
    omega
  · have e : PySem.W.minD (.int i) [.int j] = .int (min i j) := PySem.W.minD_ints i [j]
    rw [e] at rd
    obtain ⟨t, rfl⟩ := reads_int rd
    exact ⟨.int _, H, I.kept hk, ⟨_, rfl⟩, q⟩
theorem x_maxT (K : PySem.W.Frag) {X : Cx} (hc : X.calm = true) (hu : X.A.units + 64 < cLine) (hK : X.K = K := by rfl) : CallR X (.builtin "max") (rMaxT K) := by
  subst hK
  intro pins s σ H vs us Q I r h
  obtain ⟨a, i, j, rfl, hs, q⟩ := h
  rw [Vals.ref1 r]
  obtain ⟨its, rv, pt, _⟩ := I.tuple hs
  obtain ⟨u, v, rfl, ⟨t1, rfl⟩, ⟨t2, rfl⟩⟩ := rv.two
  refine PySem.W.max_tuple_data (x := .int i) (xs := [.int j]) (I.ok.hd hc) (show s.heap.IsTuple a _ from pt) (.cons (.int i t1) (.cons (.int j t2) .nil)) (alike_ints i j) ?_ fun k v h' tk bs hv rd hk => ?_
  · show X.A.units + 1 + 0 < cLine
    omega
  · have e : PySem.W.maxD (.int i) [.int j] = .int (max i j) := PySem.W.maxD_ints i [j]
    rw [e] at rd
    obtain ⟨t, rfl⟩ := reads_int rd
    exact ⟨.int _, H, I.kept hk, ⟨_, rfl⟩, q⟩
/-! over data -/
section
variable {K : PySem.W.Frag} {c : Cfg} {ρ : List SV} {P : DV → Prop} {to : TE} {t : TA}
/-- a known tuple is a tuple -/
theorem rel_tuf {F : Hp} {v : V} {ds : List DV} (r : Rel K F v (.tuf ds)) : Rel K F v (.tup ds) := by
  cases r with
  | tuf h d cl ra => exact .tup (.inl (.inr ⟨_, h⟩)) ra
theorem ev_varF {i : Nat} {ds : List DV} (e : ρ[i]? = some (.d (.tuf ds))) (h : P (.tup ds)) : Ev K c (tVar i) ρ P := fun B σ F H s ex m Q q => by
  obtain ⟨v, e1, r⟩ := s.dat e
  exact ⟨v, e1, q v _ F H (Go.refl ex m) (rel_tuf r) h⟩
def nonOrPair : DV → Bool
  | .non => true
  | .tup [.int _, .int _] => true
  | _ => false
def isNonDV : DV → Bool
  | .non => true
  | _ => false
theorem cnt_rel {F H : Hp} (ex : Ex F H) : ∀ {vs : List V} {ds : List DV}, RelA K F vs ds → ds.all nonOrPair = true → (∀ v ∈ vs, NonOrPair K H v) ∧ vs.countP isNon = ds.countP isNonDV
  | _, _, .nil, _ => ⟨(fun _ h => nomatch h), rfl⟩
  | _, _, @RelA.cons _ _ v vs d ds r rs, h => by
    rw [List.all_cons, Bool.and_eq_true] at h
    obtain ⟨q1, q2⟩ := cnt_rel ex rs h.2
    have hv : NonOrPair K H v ∧ isNon v = isNonDV d := by
      have h1 := h.1
      unfold nonOrPair at h1
      split at h1
      · cases r
        exact ⟨.inl rfl, rfl⟩
      · cases r with
        | tup hs ra =>
          cases ra with
          | cons r1 ra =>
            cases ra with
            | cons r2 ra =>
              cases ra
              cases r1
              cases r2
              exact ⟨.inr ⟨_, _, _, rfl, Evl.ex_t ex hs⟩, rfl⟩
      · cases h1
    refine ⟨fun w hw => ?_, ?_⟩
    · rcases List.mem_cons.mp hw with rfl | hw
      · exact hv.1
      · exact q1 w hw
    · rw [List.countP_cons, List.countP_cons, q2, hv.2]
/-- t.count(None) -/
theorem ev_cntN (h : Ev K c to ρ fun x => ∃ ds, x = .tuf ds ∧ ds.all nonOrPair = true ∧ EvA K c t ρ fun xs => xs = [.non] ∧ P (.int ((ds.countP isNonDV : Nat) : Int))) : Ev K c (tBMF (rCntN K) to t) ρ P := fun B σ F H S ex m Q q =>
  h B σ F H S ex m _ fun v x F1 H1 g1 r1 h1 => by
    obtain ⟨ds, rfl, hall, h2⟩ := h1
    cases r1 with
    | tuf ha hd hc ra =>
      refine ⟨⟨_, _, _, rfl, g1.fh _ _ ha, hd, hc⟩, h2 B σ F1 H1 (S.go g1) g1.fh g1.m _ fun vs xs F2 H2 g2 r2 h3 => ?_⟩
      obtain ⟨rfl, p⟩ := h3
      cases r2 with
      | cons r2 r3 =>
        cases r3
        cases r2
        obtain ⟨c1, c2⟩ := cnt_rel g2.fh (ra.mono g2.ff) hall
        refine ⟨_, _, rfl, rfl, .inl (.inr ⟨_, g2.fh _ _ (g2.ff _ _ ha)⟩), c1, ?_⟩
        rw [c2]
        exact q _ _ F2 H2 (g1.trans g2) (.int _) p
theorem ev_tupF (h : EvA K c t ρ fun xs => xs.length ≤ 1000000 ∧ P (.tuf xs)) : Ev K c (tTupF t) ρ P := fun B σ F H S ex m Q q =>
  h B σ F H S ex m _ fun vs xs F1 H1 g1 r1 h1 => ⟨by rw [r1.len]; exact Nat.le_trans h1.1 (by decide), fun p o hp hd hc =>
    q _ _ _ _ (g1.trans (Go.new g1.fh g1.m hp)) (.tuf upd_same hd hc (r1.mono (Evl.Ex.new (none_of_ex g1.fh hp)))) h1.2⟩
theorem rva_tupF {ds : List DV} (h : P (.tuf ds)) : RVA K c (rTupF K) [.lst ds] P := fun F H vs r ex m Q q => by
  cases r with
  | cons r1 r2 =>
    cases r2
    cases r1 with
    | lst hs ra => exact ⟨_, _, rfl, Evl.sq_of (ex _ _ hs), fun l o hl hd hc => q _ _ _ _ (Go.new ex m hl) (.tuf upd_same hd hc (ra.mono (Evl.Ex.new (none_of_ex ex hl)))) h⟩
/-- t + u: u known if t is empty, t known if u is empty -/
theorem rv_catF1 {xs ys : List DV} (hy : ys ≠ []) (hz : xs.length + ys.length ≤ 1000000) (h : P (.tuf (xs ++ ys))) : RV2 K c (rCatF K) (.tup xs) (.tuf ys) P := fun F H v w r1 r2 ex m Q q => by
  cases r1 with
  | tup ha ra =>
    cases r2 with
    | tuf hb hd hc rb =>
      refine ⟨_, _, _, _, rfl, rfl, Evl.ex_t ex ha, .inl (.inr ⟨_, ex _ _ hb⟩), by rw [ra.len, rb.len]; exact Nat.le_trans hz (by decide), fun e => ?_, fun e1 e => ?_, fun _ _ p o hp hd hc => ?_⟩
      · subst e
        cases ra
        exact q _ _ F H (Go.refl ex m) (.tuf hb hd hc rb) (by simpa using h)
      · subst e
        cases rb
        exact absurd rfl hy
      · exact q _ _ _ _ (Go.new ex m hp) (.tuf upd_same hd hc ((ra.app rb).mono (Evl.Ex.new (none_of_ex ex hp)))) h
theorem rv_catF2 {xs ys : List DV} (hx : xs ≠ []) (hz : xs.length + ys.length ≤ 1000000) (h : P (.tuf (xs ++ ys))) : RV2 K c (rCatF K) (.tuf xs) (.tup ys) P := fun F H v w r1 r2 ex m Q q => by
  cases r1 with
  | tuf ha hd hc ra =>
    cases r2 with
    | tup hb rb =>
      refine ⟨_, _, _, _, rfl, rfl, .inl (.inr ⟨_, ex _ _ ha⟩), Evl.ex_t ex hb, by rw [ra.len, rb.len]; exact Nat.le_trans hz (by decide), fun e => ?_, fun e1 e => ?_, fun _ _ p o hp hd hc => ?_⟩
      · subst e
        cases ra
        exact absurd rfl hx
      · subst e
        cases rb
        exact q _ _ F H (Go.refl ex m) (.tuf ha hd hc ra) (by simpa using h)
      · exact q _ _ _ _ (Go.new ex m hp) (.tuf upd_same hd hc ((ra.app rb).mono (Evl.Ex.new (none_of_ex ex hp)))) h
theorem rva_minT {i j : Int} (h : P (.int (min i j))) : RVA K c (rMinT K) [.tup [.int i, .int j]] P := fun F H vs r ex m Q q => by
  cases r with
  | cons r1 r2 =>
    cases r2
    cases r1 with
    | tup hs ra =>
      have e := relA_ints (ns := [i, j]) ra
      subst e
      exact ⟨_, i, j, rfl, Evl.ex_t ex hs, q _ _ F H (Go.refl ex m) (.int _) h⟩
theorem rva_maxT {i j : Int} (h : P (.int (max i j))) : RVA K c (rMaxT K) [.tup [.int i, .int j]] P := fun F H vs r ex m Q q => by
  cases r with
  | cons r1 r2 =>
    cases r2
    cases r1 with
    | tup hs ra =>
      have e := relA_ints (ns := [i, j]) ra
      subst e
      exact ⟨_, i, j, rfl, Evl.ex_t ex hs, q _ _ F H (Go.refl ex m) (.int _) h⟩
end
/-! the truth of a list of one's own -/
def tTruth (K : PySem.W.Frag) (ta : TE) : TT := fun σ H Q => ta σ H fun x H' => ∃ k, TruV K x H' k ∧ Q k H'
theorem x_truth (K : PySem.W.Frag) {X : Cx} {a : Expr} {ta : TE} (ha : PE X a ta) (he : ∀ whole, isTrue a X.env whole = (do let v ← whole; standAt a.pos; holding [v] (truthy v))) (hK : X.K = K := by rfl) : PT X a (tTruth K ta) := by
  subst hK
  exact pt_truth ha he
theorem et_truthL {K : PySem.W.Frag} {c : Cfg} {ρ : List SV} {P : Bool → Prop} {i : Nat} {ds : List DV} (e : ρ[i]? = some (.own (.lst ds))) (h : P (!ds.isEmpty)) : EvT K c (tTruth K (tVar i)) ρ P := fun B σ F H s ex m Q q => by
  obtain ⟨v, e1, l, o, rfl, hl, f2, f3, f4, f5⟩ := s.ok i _ e
  cases o with
  | lst vs =>
    have r : RelA K F vs ds := f5
    refine ⟨_, e1, !vs.isEmpty, .inl ⟨vs, .inl (.inl hl), rfl⟩, q _ F H (Go.refl ex m) ?_⟩
    have e2 : vs.isEmpty = ds.isEmpty := by
      cases r with
      | nil => rfl
      | cons _ _ => rfl
    rw [e2]
    exact h
  | _ => exact absurd f5 (fun z => z)
/-! zips, with K said out loud -/
open VZ RZ in
theorem x_zip (K : PySem.W.Frag) {X : Cx} {e e2 : Expr} {ta : TA} {p pos tpos : Pos} {elts : List Expr} {kk : Nat} (hg : Gl X "zip") (hm : X.mg "zip" = none) (ha : PA X [e, e2] ta) (hK : X.K = K := by rfl)
    (hs : starEach [e, e2] X.env = (false, eval e X.env) :: starEach [e2] X.env := by rfl) (hpl : (backTo pos (starEach [e2] X.env)).any (·.1) = false := by rfl) :
    PI X (.Tuple elts kk tpos) (.Call (.Name "zip" p) [e, e2] [] pos) (iZipA K ta) := by
  subst hK
  exact pi_zipA hg hm ha hs hpl
open VZ RZ in
theorem x_zipN (K : PySem.W.Frag) {X : Cx} {e e2 : Expr} {ta : TA} {p pos npos : Pos} {nm : Str} (hg : Gl X "zip") (hm : X.mg "zip" = none) (ha : PA X [e, e2] ta) (hK : X.K = K := by rfl)
    (hs : starEach [e, e2] X.env = (false, eval e X.env) :: starEach [e2] X.env := by rfl) (hpl : (backTo pos (starEach [e2] X.env)).any (·.1) = false := by rfl) :
    PI X (.Name nm npos) (.Call (.Name "zip" p) [e, e2] [] pos) (iZipN K ta) := by
  subst hK
  exact pi_zipN hg hm ha hs hpl
open VZ RZ in
theorem x_zip3 (K : PySem.W.Frag) {X : Cx} {e e2 e3 : Expr} {ta : TA} {p pos tpos : Pos} {elts : List Expr} {kk : Nat} (hg : Gl X "zip") (hm : X.mg "zip" = none) (ha : PA X [e, e2, e3] ta) (hK : X.K = K := by rfl)
    (hs : starEach [e, e2, e3] X.env = (false, eval e X.env) :: starEach [e2, e3] X.env := by rfl) (hpl : (backTo pos (starEach [e2, e3] X.env)).any (·.1) = false := by rfl) :
    PI X (.Tuple elts kk tpos) (.Call (.Name "zip" p) [e, e2, e3] [] pos) (iZip3 K ta) := by
  subst hK
  exact pi_zip3 hg hm ha hs hpl
end VL

set_option Elab.async false
set_option linter.all false
set_option maxRecDepth 100000
set_option maxHeartbeats 2000000
/-! calls without arguments; zip of two lists; strings that are == -/
namespace VL
open PySem PySem.Spec PyProof.Rows L2 RZ
open Evl (Ex)
/-- a module's int constant -/
theorem pe_gint {X : Cx} {x : Str} {i : Int} {pos : Pos} (hg : Gl X x) (hm : ∃ t, X.mg x = some (.int i t)) (hd : (x == ("__debug__" : Str)) = false := by decide) : PE X (.Name x pos) (tC (.int i)) := by
  obtain ⟨t, e⟩ := hm
  exact pe_glob hg e ⟨t, rfl⟩ hd
theorem pe_cal0 {X : Cx} {k j : Nat} {x : Str} {sp : Sp} {p pos : Pos} (c : Cal X.prog X.w X.K X.mg X.base k x sp) (hr : Room j X.A) (hk : k ≤ j) (hg : Gl X x) (hdb : (x == ("__debug__" : Str)) = false := by decide) : PE X (.Call (.Name x p) [] [] pos) (tCall sp [] E0 tNil) := by
  obtain ⟨f, fd, ps, F, hm, kp, b⟩ := c.ex
  exact pe_call0 F (hr.mono hk) hg hm kp b .nil pass0 hdb
section
variable {K : PySem.W.Frag} {c : Cfg} {ρ : List SV} {ta : TA}
theorem rv_eqStr {P : DV → Prop} {a : Str} (h : P (.bl true)) : RV2 K c rEq (.str a) (.str a) P := fun F H v w r1 r2 ex m Q q => by
  cases r1
  cases r2
  refine ⟨rfl, q _ _ F H (Go.refl ex m) (.bl _) ?_⟩
  rw [decide_eq_true (rfl : V.str a = V.str a)]
  exact h
/-- for x, y in zip(e, f), of lists of one length -/
theorem ei_zipL {P : List DV → Prop} (h : EvA K c ta ρ fun ds => ∃ xs ys, ds = [.lst xs, .lst ys] ∧ xs.length = ys.length ∧ P (zipD xs ys)) : EvI K c (iZipA K ta) ρ P := fun B σ F H S ex m R q =>
  h B σ F H S ex m _ fun vs ds F1 H1 g1 r1 h1 => by
    obtain ⟨xs, ys, rfl, hl, p⟩ := h1
    cases r1 with
    | cons ra rb =>
      cases rb with
      | cons rb rc =>
        cases rc
        cases ra with
        | lst h1 s1 =>
          cases rb with
          | lst h2 s2 =>
            have mono : ∀ {H : Hp} {p : Addr} {zs : List V}, F1 p = some (.lst zs) → Ex F1 H → SqL K H p zs := fun hp e => Evl.sq_of (e _ _ hp)
            refine ⟨_, _, _, _, rfl, .inl ⟨Evl.sq_of (g1.fh _ _ h1), Evl.sq_of (g1.fh _ _ h2), q _ _ F1 H1 g1 ?_ p⟩⟩
            have n : (zipD xs ys).length = xs.length := by rw [zipD_len]; omega
            refine ⟨fun i H hi e => ?_, fun H e => ?_, fun i x H H' F2 hi e1 e2 m y => ?_⟩
            · rw [n] at hi
              obtain ⟨v, e3, _⟩ := s1.get (List.getElem?_eq_getElem hi)
              obtain ⟨u, e4, _⟩ := s2.get (List.getElem?_eq_getElem (show i < ys.length by omega))
              exact ⟨_, _, v, u, mono h1 e, mono h2 e, e3, e4⟩
            · rw [n]
              exact ⟨_, _, mono h1 e, mono h2 e, .inl (by rw [s1.len]; exact Nat.le_refl _)⟩
            · rw [n] at hi
              obtain ⟨T, v, u, rfl, hT, rfl, k1, k2⟩ := y
              obtain ⟨d, hd, rd⟩ := s1.getV (k1 _ (mono h1 (e1.trans e2)))
              obtain ⟨d2, hd2, rd2⟩ := s2.getV (k2 _ (mono h2 (e1.trans e2)))
              have g : Go c F2 H (upd F2 T (.tup [v, u])) (upd H T (.tup [v, u])) := Go.new e2 m hT
              have ee := e1.trans g.ff
              exact ⟨_, _, zipD_get hd hd2, g, .tup (Evl.st_of upd_same) (.cons (rd.mono ee) (.cons (rd2.mono ee) .nil))⟩
theorem ev_listRg {te : TE} {P : DV → Prop} (h : Ev K c te ρ fun x => ∃ n : Nat, x = .int (n : Int) ∧ n ≤ 1000000 ∧ P (.lst (rngD 0 n))) : Ev K c (tLstRg (tRg1 te)) ρ P := fun B σ F H s ex m Q q =>
  h B σ F H s ex m _ fun v x F1 H1 g1 r1 h1 => by
    obtain ⟨n, rfl, hn, p⟩ := h1
    cases r1
    refine ⟨(n : Int), rfl, RgOk.of_le (by decide) (by omega) (by decide) (by omega), fun l hl => ?_⟩
    have e : rgV 0 (n : Int) = ((List.range n).map fun i => ((0 : Int) + (i : Nat))).map V.int := by
      unfold rgV
      rw [Int.sub_zero, Int.toNat_natCast, List.map_map]
      rfl
    have e2 : rngD 0 n = intsD ((List.range n).map fun i => ((0 : Int) + (i : Nat))) := by
      unfold rngD intsD
      rw [List.map_map]
      rfl
    rw [e]
    rw [e2] at p
    exact new_lst relA_of_ints g1.fh g1.m hl (fun v d F' H' g r p => q v d F' H' (g1.trans g) r p) p
end
end VL

set_option Elab.async false
set_option linter.all false
set_option maxRecDepth 100000
set_option maxHeartbeats 2000000
/-! methods that change their own object: over an object of the caller's own -/
namespace VL
open PySem PySem.Spec L2
open Evl (Ex)
theorem RelF.lookNone {K : PySem.W.Frag} {F : Hp} {f : Str} : ∀ {vs : List (Str × V)} {ds : List (Str × DV)}, RelF K F vs ds → ds.lookup f = none → vs.lookup f = none
  | _, _, .nil, _ => rfl
  | _, _, @RelF.cons _ _ n v vs d ds _ r, h => by
    rw [List.lookup_cons] at h ⊢
    split at h
    · cases h
    · exact RelF.lookNone r h
section
variable {K : PySem.W.Frag} {c : Cfg} {S : Addr → Prop} {F0 H0 : Hp} {ρ : List SV} {N : Fi}
/-- an object of one's own was changed by somebody who got it -/
theorem At.through {F H F' H' : Hp} {σ : St} (a : At K c S F0 H0 F H σ ρ) {i : Nat} {x y : OV} {l : Addr} {o : HO} (e : ρ[i]? = some (.own x)) (el : σ[i]? = some (some (.ref l))) (h1 : F l = none) (h2 : ¬ c.T l) (h3 : Own S H0 l)
    (g : Gs c (fun z => z = l) F H F' H') (hl : H' l = some o) (hf : F' l = none) (h4 : OvAt l y) (h5 : RelO K F' o y) : At K c S F0 H0 F' H' σ (ρ.set i (.own y)) := by
  have there : ∀ b u, H0 b = some u → ∃ u', H b = some u' := fun b u q => by
    cases z : H b with
    | none => exact absurd z (a.g.dom b u q)
    | some u' => exact ⟨u', rfl⟩
  refine ⟨⟨a.g.ff.trans g.ff, g.fh, fun b u q t1 t2 => ?_, fun b u q => ?_, fun b u q z => ?_, g.m⟩, ⟨by rw [List.length_set]; exact a.s.len, fun j s q => ?_, fun j k xs ys hjk q1 q2 => ?_⟩⟩
  · have hb : b ≠ l := by
      rintro rfl
      rcases h3 with h3 | h3
      · rw [h3] at q; cases q
      · exact t2 h3
    exact g.hh b u (a.g.hh b u q t1 t2) t1 hb
  · obtain ⟨u', e1⟩ := there b u q
    exact g.dom b u' e1
  · obtain ⟨u', e1⟩ := there b u q
    exact g.fr b u' e1 (a.g.fr b u q z)
  · by_cases z : i = j
    · subst z
      have hlt : i < ρ.length := (List.getElem?_eq_some_iff.mp e).1
      rw [List.getElem?_set_self hlt] at q
      cases q
      exact ⟨_, el, l, o, rfl, hl, hf, h2, ⟨h3, h4⟩, h5⟩
    · rw [List.getElem?_set_ne z] at q
      obtain ⟨w, e2, q2⟩ := a.s.ok j s q
      refine ⟨w, e2, ?_⟩
      cases s with
      | non => exact q2
      | any => trivial
      | d x =>
        obtain ⟨v, e3, r⟩ := q2
        exact ⟨v, e3, r.mono g.ff⟩
      | own x =>
        obtain ⟨l2, o2, f1, f2, f3, f4, f5, f6⟩ := q2
        have hne : l2 ≠ l := by
          intro y
          have := a.s.dj i j _ _ z e q
          rw [el, e2, f1, y] at this
          exact this rfl
        exact ⟨l2, o2, f1, g.hh l2 o2 f2 f4 hne, g.fr l2 o2 f2 f3, f4, f5, f6.mono g.ff⟩
  · by_cases z1 : i = j
    · subst z1
      rw [List.getElem?_set_ne hjk] at q2
      exact a.s.dj i k x ys hjk e q2
    · rw [List.getElem?_set_ne z1] at q1
      by_cases z2 : i = k
      · subst z2
        exact a.s.dj j i xs x hjk q1 e
      · rw [List.getElem?_set_ne z2] at q2
        exact a.s.dj j k xs ys hjk q1 q2
/-- a method without an answer: from the object's attributes and the arguments to the attributes -/
def SpO (K : PySem.W.Frag) (C : Addr) (g : Cfg → List (Str × DV) → List DV → (List (Str × DV) → Prop) → Prop) : Sp := fun vs H Q _ => ∃ (c : Cfg) (F : Hp) (fs : List (Str × DV)) (ds : List DV) (Pf : List (Str × DV) → Prop) (x dx : Addr) (ws : List (Str × V)) (us : List V),
  vs = .ref x :: us ∧ H x = some (.ins C dx ws) ∧ RelF K F ws fs ∧ F x = none ∧ ¬ c.T x ∧ Ex F H ∧ c.M F H ∧ RelA K F us ds ∧ g c fs ds Pf ∧
  ∀ fs' dx' ws' F' H', Gs c (fun a => a = x) F H F' H' → H' x = some (.ins C dx' ws') → F' x = none → RelF K F' ws' fs' → Pf fs' → Q .non H'
theorem slots_own {B : Addr → Prop} {F H : Hp} {Ns : List Str} {x C dx : Addr} {ws : List (Str × V)} {fs : List (Str × DV)} {vs : List V} {ds : List DV} (r : RelA K F vs ds) (hx : H x = some (.ins C dx ws)) (rf : RelF K F ws fs) (fx : F x = none) (tx : ¬ c.T x) (bx : B x) :
    Slots K c B F H (L2.start Ns (.ref x :: vs)) (.own (.obj x C fs) :: ds.map .d ++ List.replicate (Ns.length - (ds.length + 1)) .non) := by
  have h0 := slots_start (K := K) (c := c) (B := B) (F := F) (H := H) (N := Ns) (vs := .ref x :: vs) (ds := .adr x :: ds) (.cons (.adr x) r)
  have e : slots0 Ns.length (.adr x :: ds) = .d (.adr x) :: (ds.map .d ++ List.replicate (Ns.length - (ds.length + 1)) .non) := rfl
  rw [e] at h0
  refine ⟨h0.len, fun i s q => ?_, fun i j xs ys hij q1 q2 => ?_⟩
  · cases i with
    | zero =>
      cases q
      exact ⟨_, rfl, x, _, rfl, hx, fx, tx, ⟨bx, rfl⟩, rfl, rf⟩
    | succ i => exact h0.ok (i + 1) s q
  · have nope : ∀ (k : Nat) (z : OV), (ds.map SV.d ++ List.replicate (Ns.length - (ds.length + 1)) SV.non)[k]? ≠ some (.own z) := by
      intro k z q
      rw [List.getElem?_append] at q
      split at q
      · rw [List.getElem?_map] at q
        cases y : ds[k]? with
        | none => rw [y] at q; cases q
        | some y2 => rw [y] at q; cases q
      · rw [List.getElem?_replicate] at q
        split at q <;> cases q
    cases i with
    | zero =>
      cases j with
      | zero => exact absurd rfl hij
      | succ j => exact absurd q2 (nope j ys)
    | succ i => exact absurd q1 (nope i xs)
theorem fn_own {Pg : Program} {w : World} {mg : Str → Option Value} {base : Heap} {x qual : Str} {st : Stmt} {fa C : Addr} {fd : FuncData} {Ns ps : List Str} {k : Nat} {g : Cfg → List (Str × DV) → List DV → (List (Str × DV) → Prop) → Prop} (F : Fun K x qual st fa fd) (S : FnScope Ns ps (defScope st)) (len : ∀ c fs ds P, g c fs ds P → ds.length + 1 = ps.length)
    (hbody : ∀ (cdv : Value) (A : Around) (outer : List Env) (s : Shared) (H : Hp) (E : XK), Room k (A.deeper (PyProof.Rows.envOfC qual (defScope st) s.heap.objs.size fa cdv)) →
      ∃ t, PSs (cxOf CX0 Pg w K mg base Ns qual (defScope st) fa cdv A outer s H E).nox (defBody st) t ∧ ∀ (c : Cfg) (F : Hp) (a : Addr) (fs : List (Str × DV)) (ds : List DV) (P : List (Str × DV) → Prop), g c fs ds P →
        Sx K c (fun b => b = a) F H t (.own (.obj a C fs) :: ds.map .d ++ List.replicate (Ns.length - (ds.length + 1)) .non) { nx := fun ρ' => ∃ fs', P fs' ∧ ρ'[0]? = some (.own (.obj a C fs')) }) :
    FnOk Pg w K mg base CX0 (k + 1) fa fd ps (SpO K C g) := by
  refine F.ok S (fun vs H Q E h => ?_) (fun cdv A outer s H vs Q E hr h => ?_)
  · obtain ⟨c, Fr, fs, ds, P, x, dx, ws, us, rfl, _, _, _, _, _, _, r, h, _⟩ := h
    rw [List.length_cons, r.len]
    exact len c fs ds P h
  · obtain ⟨c, Fr, fs, ds, P, x, dx, ws, us, rfl, hx, rf, fx, tx, ex, m, r, h, q⟩ := h
    obtain ⟨t, ht, hs⟩ := hbody cdv A outer s H E hr
    refine ⟨t, ht, ?_⟩
    refine hs c Fr x fs ds P h (L2.start Ns (.ref x :: us)) Fr H _ ⟨Gs.refl ex m, slots_own r hx rf fx tx (.inr rfl)⟩ (fun σ' ρ' F' H' a _ p => ?_) (fun _ _ _ _ _ _ p => p.elim) (fun _ _ _ _ _ _ p => p.elim) (fun _ _ _ _ _ _ p => p.elim)
    obtain ⟨fs', pf, e⟩ := p
    obtain ⟨l, o, e1, f1, f2, f3, f4, f5, f6⟩ := a.own e
    have hl : l = x := f5
    subst hl
    cases o with
    | ins C' dx' ws' =>
      obtain ⟨e2, rf'⟩ := f6
      subst e2
      exact q fs' dx' ws' F' H' a.g f1 f2 rf' pf
    | _ => exact absurd f6 (fun z => z)
/-- obj.m(..) of an object of one's own, as a statement -/
theorem sx_methOwn {i : Nat} {a C : Addr} {m : Str} {fs : List (Str × DV)} {g : Cfg → List (Str × DV) → List DV → (List (Str × DV) → Prop) → Prop} {E : XK} {t : TA} (e : ρ[i]? = some (.own (.obj a C fs))) (hl : fs.lookup m = none)
    (h : EvA K c t ρ fun ds => g c fs ds fun fs' => N.nx (ρ.set i (.own (.obj a C fs')))) : Sx K c S F0 H0 (tDrop (tMeth C m (SpO K C g) [] E (tVar i) t)) ρ N := fun σ F H D at_ k1 _ _ _ => by
  obtain ⟨l, o, e1, f1, _, _, _, _, f6⟩ := at_.own e
  cases o with
  | ins C' dx ws =>
    obtain ⟨e2, rf⟩ := f6
    subst e2
    refine ⟨_, e1, l, dx, ws, rfl, f1, rf.lookNone hl, ?_⟩
    refine h _ σ F H at_.s at_.g.fh at_.g.m _ fun vs ds F1 H1 g1 r1 h1 => ?_
    obtain ⟨l', o', e1', f1', f2', f3', f4', f5', f6'⟩ := (at_.go g1).own e
    rw [e1] at e1'
    cases e1'
    cases o' with
    | ins C2 dx2 ws2 =>
      obtain ⟨e2, rf2⟩ := f6'
      subst e2
      refine ⟨c, F1, fs, ds, _, l, dx2, ws2, vs, by rw [List.append_nil], f1', rf2, f2', f3', g1.fh, g1.m, r1, h1, fun fs' dx' ws' F' H' g2 hx hf rf' p => ?_⟩
      exact k1 σ _ F' H' ((at_.go g1).through (y := .obj _ _ fs') e e1 f2' f3' f4' g2 hx hf f5' ⟨rfl, rf'⟩) (g1.ff.trans g2.ff) p
    | _ => exact absurd f6' (fun z => z)
  | _ => exact absurd f6 (fun z => z)
/-- a def that is never called: where a def's calls of itself end -/
theorem fn_never {Pg : Program} {w : World} {mg : Str → Option Value} {base : Heap} {x qual : Str} {st : Stmt} {fa : Addr} {fd : FuncData} {Ns ps : List Str} {k : Nat} {f : Cfg → List DV → (DV → Prop) → Prop} (F : Fun K x qual st fa fd) (S : FnScope Ns ps (defScope st)) (hf : ∀ c ds P, ¬ f c ds P) :
    FnOk Pg w K mg base CX0 (k + 1) fa fd ps (SpD K f) := by
  refine F.ok S (fun vs H Q E h => ?_) (fun cdv A outer s H vs Q E hr h => ?_)
  · obtain ⟨_, _, _, _, _, _, _, h, _⟩ := h
    exact absurd h (hf _ _ _)
  · obtain ⟨_, _, _, _, _, _, _, h, _⟩ := h
    exact absurd h (hf _ _ _)
end
end VL
namespace VL
open PySem PySem.Spec L2
/-- the truth of a list held as data -/
theorem et_truthD {K : PySem.W.Frag} {c : Cfg} {ρ : List SV} {ta : TE} {P : Bool → Prop} (h : Ev K c ta ρ fun x => ∃ ds, x = .lst ds ∧ P (!ds.isEmpty)) : EvT K c (tTruth K ta) ρ P := fun B σ F H s ex m Q q =>
  h B σ F H s ex m _ fun v x F1 H1 g1 r1 h1 => by
    obtain ⟨ds, rfl, p⟩ := h1
    cases r1 with
    | @lst a vs _ ha ra =>
      refine ⟨!vs.isEmpty, .inl ⟨vs, Evl.sq_of (g1.fh _ _ ha), rfl⟩, q _ F1 H1 g1 ?_⟩
      have e2 : vs.isEmpty = ds.isEmpty := by
        cases ra with
        | nil => rfl
        | cons _ _ => rfl
      rw [e2]
      exact p
end VL

set_option Elab.async false
set_option linter.all false
set_option maxRecDepth 100000
set_option maxHeartbeats 2000000
namespace K60
open PySem PySem.Spec L2 VL
def topS (i : Nat) : Stmt := PySem.Challenge.pw_finecloud_k60_whole_boxes.main.body.getD i (.Pass ⟨0, 0, 0, 0⟩)






structure SpaceF (K : PySem.W.Frag) (C : Addr) : Prop where
  cl : Cls K C
  dimensions : NoAttr K C "dimensions"
  bits : NoAttr K C "bits"
  depth : NoAttr K C "depth"
  side : NoAttr K C "side"
structure CloudF (K : PySem.W.Frag) (C : Addr) : Prop where
  cl : Cls K C
  space : NoAttr K C "space"
  row : NoAttr K C "row"
structure BoxF (K : PySem.W.Frag) (C : Addr) : Prop where
  cl : Cls K C
  space : NoAttr K C "space"
  lows : NoAttr K C "lows"
  highs : NoAttr K C "highs"
structure Tx (K : PySem.W.Frag) (mg : Str → Option Value) (C Cc Cb Ce fI : Addr) : Prop where
  n_int : mg "int" = none
  n_bool : mg "bool" = none
  n_tuple : mg "tuple" = none
  n_list : mg "list" = none
  n_isinstance : mg "isinstance" = none
  n_len : mg "len" = none
  n_abs : mg "abs" = none
  n_all : mg "all" = none
  n_range : mg "range" = none
  n_reversed : mg "reversed" = none
  n_min : mg "min" = none
  n_max : mg "max" = none
  n_set : mg "set" = none
  n_sorted : mg "sorted" = none
  n_any : mg "any" = none
  n_zip : mg "zip" = none
  n_sum : mg "sum" = none
  c_MOST_DIMENSIONS : ∃ t, mg "MOST_DIMENSIONS" = some (.int 3 t)
  c_MOST_BITS : ∃ t, mg "MOST_BITS" = some (.int 10 t)
  S_Space : SpaceF K C
  g_Space : mg "Space" = some (.ref C)
  S_Cloud : CloudF K Cc
  g_Cloud : mg "Cloud" = some (.ref Cc)
  S_Box : BoxF K Cb
  g_Box : mg "Box" = some (.ref Cb)
  TB_BadPoint : PySem.BadPointX.BadPointTxt K mg Ce fI
theorem exm_own {K : PySem.W.Frag} {S : Addr} (h1 : PySem.W.subIn K (.ref S) (.type "BaseException") = some true) (h2 : PySem.W.isClsIn K S = true) (h3 : PySem.W.typeIn K (.ref S) = some (.type "type")) (h4 : PySem.W.subIn K (.ref S) (.ref S) = some true) :
    PySem.W.exmOne K (.ref S) (.ref S) = some true := by
  have e1 : (PySem.W.subIn K (.ref S) (.type "BaseException") == some true) = true := by rw [h1] <;> rfl
  have e2 : ((PySem.W.clsIn K S).isSome && PySem.W.typeIn K (.ref S) == some (.type "type")) = true := by
    rw [show (PySem.W.clsIn K S).isSome = true from h2, h3] <;> rfl
  show (if (PySem.W.subIn K (.ref S) (.type "BaseException") == some true) = true then (if ((PySem.W.clsIn K S).isSome && PySem.W.typeIn K (.ref S) == some (.type "type")) = true then PySem.W.subIn K (.ref S) (.ref S) else none) else none) = some true
  rw [if_pos e1, if_pos e2]
  exact h4
-- @PRE
local macro_rules | `(tactic| walk_at "vl side") => `(tactic| first
  | decide
  | omega
  | exact .inl ⟨by decide, by decide⟩
  | exact .inr ⟨by decide, by decide⟩
  | exact ⟨by decide, by decide, by decide⟩
  | (show (0 : Int) < _; omega)
  | (show (0 : Int) ≤ _; omega))
local macro_rules | `(tactic| walk_at "ve") => `(tactic| first
  | (with_reducible refine et_test ?_)
  | (with_reducible refine et_B ?_)
  | (with_reducible refine et_and ?_)
  | (with_reducible refine et_or ?_)
  | (with_reducible refine et_not ?_)
  | (with_reducible refine et_yes ?_)
  | (with_reducible refine ev_op ?_)
  | ((with_reducible refine' ev_var ?vla ?_); (case vla => rfl))
  | (with_reducible refine ev_int ?_)
  | (with_reducible refine ev_bl ?_)
  | (with_reducible refine ev_str ?_)
  | (with_reducible refine ev_non ?_)
  | (with_reducible refine ev_cb ?_)
  | ((with_reducible refine ev_tup ?_))
  | ((with_reducible refine ev_lst ?_))
  | (with_reducible refine ev_call ?_)
  | (with_reducible refine ev_andV ?_)
  | (with_reducible refine ev_orV ?_)
  | (with_reducible refine ev_notV ?_)
  | (with_reducible refine ev_if ?_)
  | (with_reducible refine ev_chain ?_)
  | (with_reducible refine ev_un ?_)
  | (with_reducible refine ev_bits ?_)
  | (with_reducible refine ea_cons ?_)
  | (with_reducible refine ea_nil ?_)
  | ((with_reducible refine eg_name ?_); try dsimp only [List.set])
  | (with_reducible refine eg_tup ?_)
  | (with_reducible refine egs_cons ?_)
  | (with_reducible refine egs_nil ?_)
  | (with_reducible refine rv_I0i ?_)
  | (with_reducible refine rv_I0b ?_)
  | (with_reducible refine rv_eqI ?_)
  | (with_reducible refine rv_neI ?_)
  | ((with_reducible refine rv_Ii ?vla ?_); (case vla => walk_at "vl side"))
  | (with_reducible refine rv1_neg ?_)
  | (with_reducible refine rva_int1 ?_)
  | (with_reducible refine rva_abs ?_)
  | (with_reducible refine rva_min2 ?_)
  | (with_reducible refine rva_max2 ?_)
  | ((with_reducible refine' rva_len ?vla ?_); (case vla => first | exact .inl rfl | exact .inr rfl))
  | ((with_reducible refine' rva_tuple ?vla ?_); (case vla => first | exact .inl rfl | exact .inr rfl))
  | ((with_reducible refine' rva_list ?vla ?_); (case vla => first | exact .inl rfl | exact .inr rfl))
  | ((with_reducible refine rv_catA ?vla ?_); (case vla => simp only [List.length_cons, List.length_nil]; decide))
  | (with_reducible refine' Exists.intro _ (And.intro rfl ?_))
  | ((with_reducible refine And.intro ?vla ?_); (case vla => first | exact Nat.zero_le _ | (with_reducible show List.length _ ≤ 1000000; simp only [List.length_cons, List.length_nil]; decide))))
local macro_rules | `(tactic| walk_at "ves") => `(tactic| (repeat walk_at "ve"))
local macro_rules | `(tactic| walk_at "vl") => `(tactic| first
  | (with_reducible refine sx_seq ?_)
  | (with_reducible refine sx_ret ?_)
  | (with_reducible refine sx_next ?_)
  | (with_reducible refine sx_asg ?_)
  | (with_reducible refine sx_if ?_)
  | (with_reducible refine sx_drop ?_)
  | ((with_reducible refine sx_aug ?_); refine ⟨_, rfl, ?_⟩)
  | walk_at "ve")
local macro_rules | `(tactic| walk_at "vls") => `(tactic| (repeat walk_at "vl"))
local macro_rules | `(tactic| walk_at "len") => `(tactic| (intros; rename_i h; repeat (first | (obtain ⟨e, _⟩ := h; subst e; rfl) | obtain ⟨_, h⟩ := h)))

-- @ENDPRE
theorem hu64 {k : Nat} {A : Around} (hr : Room k A) : A.units + 64 < cLine := by
  have := hr.un
  omega
theorem hu65 {k : Nat} {A : Around} (hr : Room k A) : A.units + 65 < cLine := by
  have := hr.un
  omega
theorem hu2 {k : Nat} {A : Around} (hr : Room k A) : A.units + 1 < cLine := by
  have := hr.un
  omega

/-! ## the module space: spaces and their points -/






abbrev s_is_between : Stmt := topS 6
abbrev N_is_between : List Str := ["thing", "least", "most"]
theorem sc_is_between : FnScope N_is_between ["thing", "least", "most"] (defScope s_is_between) := ⟨rfl, rfl, rfl, by decide +kernel, rfl, by decide +kernel, by decide +kernel⟩
abbrev s_shifted : Stmt := topS 8
abbrev N_shifted : List Str := ["number", "times"]
theorem sc_shifted : FnScope N_shifted ["number", "times"] (defScope s_shifted) := ⟨rfl, rfl, rfl, by decide +kernel, rfl, by decide +kernel, by decide +kernel⟩
abbrev s_power : Stmt := topS 7
abbrev N_power : List Str := ["times"]
theorem sc_power : FnScope N_power ["times"] (defScope s_power) := ⟨rfl, rfl, rfl, by decide +kernel, rfl, by decide +kernel, by decide +kernel⟩
abbrev s_Space___init__ : Stmt := inClass (topS 13) 0
abbrev N_Space___init__ : List Str := ["self", "dimensions", "bits"]
theorem sc_Space___init__ : FnScope N_Space___init__ ["self", "dimensions", "bits"] (defScope s_Space___init__) := ⟨rfl, rfl, rfl, by decide +kernel, rfl, by decide +kernel, by decide +kernel⟩
abbrev s_Space_is_point : Stmt := inClass (topS 13) 2
abbrev N_Space_is_point : List Str := ["self", "thing", "part"]
theorem sc_Space_is_point : FnScope N_Space_is_point ["self", "thing"] (defScope s_Space_is_point) := ⟨rfl, rfl, rfl, by decide +kernel, rfl, by decide +kernel, by decide +kernel⟩
abbrev s_Space_woven : Stmt := inClass (topS 13) 3
abbrev N_Space_woven : List Str := ["self", "point", "number", "place", "part"]
theorem sc_Space_woven : FnScope N_Space_woven ["self", "point"] (defScope s_Space_woven) := ⟨rfl, rfl, rfl, by decide +kernel, rfl, by decide +kernel, by decide +kernel⟩
abbrev s_Space_point_of : Stmt := inClass (topS 13) 4
abbrev N_Space_point_of : List Str := ["self", "number", "parts", "left", "_", "axis"]
theorem sc_Space_point_of : FnScope N_Space_point_of ["self", "number"] (defScope s_Space_point_of) := ⟨rfl, rfl, rfl, by decide +kernel, rfl, by decide +kernel, by decide +kernel⟩
abbrev s_Space_size : Stmt := inClass (topS 13) 6
abbrev N_Space_size : List Str := ["self", "prefix"]
theorem sc_Space_size : FnScope N_Space_size ["self", "prefix"] (defScope s_Space_size) := ⟨rfl, rfl, rfl, by decide +kernel, rfl, by decide +kernel, by decide +kernel⟩
abbrev natD (n : Nat) : DV := .int (n : Int)
abbrev pointD (p : List Nat) : DV := .tup (p.map natD)
def spD (C : Addr) (d b : Nat) : DV := .ins C [("dimensions", natD d), ("bits", natD b), ("depth", natD (d * b)), ("side", natD (2 ^ b))]
/-- a space -/
def OkS (d b : Nat) : Prop := (1 ≤ d ∧ d ≤ 3) ∧ 1 ≤ b ∧ b ≤ 10
def OkP (d b : Nat) (p : List Nat) : Prop := p.length = d ∧ ∀ x ∈ p, x < 2 ^ b
def fIsBetween : Cfg → List DV → (DV → Prop) → Prop := fun _ ds P => ∃ i lo hi : Int, ds = [.int i, .int lo, .int hi] ∧ P (.bl (decide (lo ≤ i) && decide (i ≤ hi)))
def fShifted : Cfg → List DV → (DV → Prop) → Prop := fun _ ds P => ∃ a n m : Nat, ds = [natD a, natD n] ∧ a < 2 ^ m ∧ m + n ≤ 1000001 ∧ P (natD (a * 2 ^ n))
def fPower : Cfg → List DV → (DV → Prop) → Prop := fun _ ds P => ∃ n : Nat, ds = [natD n] ∧ n ≤ 1000000 ∧ P (natD (2 ^ n))
def fIsPoint (C : Addr) : Cfg → List DV → (DV → Prop) → Prop := fun _ ds P => ∃ (d b : Nat) (x : DV), ds = [spD C d b, x] ∧ OkS d b ∧
  ((∃ zs : List Int, x = .tup (intsD zs) ∧ zs.length ≤ 1000000 ∧ P (.bl (decide (zs.length = d) && zs.all fun z => decide (0 ≤ z) && decide (z ≤ (2 ^ b : Nat) - 1)))) ∨ ((x = .non ∨ ∃ ys, x = .lst ys) ∧ P (.bl false)))
def fPointOf (C : Addr) : Cfg → List DV → (DV → Prop) → Prop := fun _ ds P => ∃ d b n : Nat, ds = [spD C d b, natD n] ∧ OkS d b ∧ P (pointD (GM.pointOf d b n))
def fSize (C : Addr) : Cfg → List DV → (DV → Prop) → Prop := fun _ ds P => ∃ d b l k : Nat, ds = [spD C d b, .tup [natD l, natD k]] ∧ OkS d b ∧ l ≤ d * b ∧ P (natD (2 ^ (d * b - l)))
section
variable {P : Program} {w : World} {K : PySem.W.Frag} {mg : Str → Option Value} {base : Heap} {C : Addr}
theorem ok_is_between {P : Program} {w : World} {K : PySem.W.Frag} {mg : Str → Option Value} {base : Heap} {C Cc Cb Ce fI f : Addr} {fd : FuncData} (F : Fun K "is_between" "is_between" s_is_between f fd) (T : Tx K mg C Cc Cb Ce fI) : FnOk P w K mg base CX0 1 f fd ["thing", "least", "most"] (SpD K (fIsBetween)) := by
  refine fn_pure F sc_is_between (by walk_at "len") (fun cdv A outer s H E hr => ⟨_, (pss_one (ps_ret (pe_and (pe_callB (x_isi K) (by rfl) T.n_isinstance (by decide +kernel) (pa_cons (pv 0) (pa_cons (pe_bltn (v := .ty "int") (by rfl) T.n_int (by decide +kernel) rfl) pa_nil))) (pe_and (pe_not (pe_callB (x_isi K) (by rfl) T.n_isinstance (by decide +kernel) (pa_cons (pv 0) (pa_cons (pe_bltn (v := .ty "bool") (by rfl) T.n_bool (by decide +kernel) rfl) pa_nil)))) (pe_one (pe_chain op_le op_le (pv 1) (pv 0) (pv 2))))))), fun c Fr ds P h => ?_⟩)
  try dsimp only [cxOf]
  obtain ⟨i, lo, hi, rfl, p⟩ := h
  refine (show Sx K _ (fun _ => False) _ _ _ [_, _, _] _ from ?_)
  refine sx_ret (ev_andV (ev_cb (ea_cons (ev_var rfl (ea_cons (ev_ty (ea_nil (rva_isi (b := true) (T := "int") (.inl ⟨_, rfl, rfl⟩) (kit_ty (by decide +kernel)) ⟨_, rfl, ?_⟩))))))))
  rw [if_pos rfl]
  refine ev_andV (ev_notV (ev_cb (ea_cons (ev_var rfl (ea_cons (ev_ty (ea_nil (rva_isi (b := false) (T := "int") (.inl ⟨_, rfl, rfl⟩) (kit_ty (by decide +kernel)) ⟨_, rfl, ⟨_, rfl, ?_⟩⟩))))))))
  rw [if_pos (by decide)]
  refine ev_chain (ev_var rfl (ev_var rfl (rv_I0b ⟨_, rfl, ?_⟩)))
  refine if_d (fun h1 => ev_var rfl (rv_I0b ?_)) (fun h1 => ?_)
  · rw [decide_eq_true h1] at p
    exact p
  · rw [decide_eq_false h1] at p
    exact p
theorem ok_shifted {P : Program} {w : World} {K : PySem.W.Frag} {mg : Str → Option Value} {base : Heap} {C Cc Cb Ce fI f : Addr} {fd : FuncData} (F : Fun K "shifted" "shifted" s_shifted f fd) (T : Tx K mg C Cc Cb Ce fI) : FnOk P w K mg base CX0 1 f fd ["number", "times"] (SpD K (fShifted)) := by
  refine fn_pure F sc_shifted (by walk_at "len") (fun cdv A outer s H E hr => ⟨_, (pss_cons (ps_if (pt_cmpR op_lt (pv 1) pe_int (nomark _)) (pss_one (ps_ret (pe_op op_shr (pv 0) (pe_un un_neg (pv 1))))) pss_nil)
    (pss_one (ps_ret (pe_op op_shlW (pv 0) (pv 1))))), fun c Fr ds P h => ?_⟩)
  try dsimp only [cxOf]
  obtain ⟨a, n, m, rfl, ha, hz, p⟩ := h
  refine (show Sx K _ (fun _ => False) _ _ _ [_, _] _ from ?_)
  refine sx_guardq (et_test (ev_op (ev_var rfl (ev_int (rv_I0b ⟨_, rfl, decide_eq_false (by omega)⟩))))) ?_
  exact sx_ret (ev_op (ev_var rfl (ev_var rfl (rv_shl (n := m) ha (by omega) p))))
theorem ok_power {P : Program} {w : World} {K : PySem.W.Frag} {mg : Str → Option Value} {base : Heap} {C Cc Cb Ce fI f : Addr} {fd : FuncData} (F : Fun K "power" "power" s_power f fd) (T : Tx K mg C Cc Cb Ce fI) (C_shifted : Cal P w K mg base 1 "shifted" (SpD K (fShifted))) : FnOk P w K mg base CX0 2 f fd ["times"] (SpD K (fPower)) := by
  refine fn_pure F sc_power (by walk_at "len") (fun cdv A outer s H E hr => ⟨_, (pss_one (ps_ret (pe_cal C_shifted hr (by decide) (by rfl) (pa_cons pe_int (pa_cons (pv 0) pa_nil))))), fun c Fr ds P h => ?_⟩)
  try dsimp only [cxOf]
  obtain ⟨n, rfl, hn, p⟩ := h
  refine sx_ret (ev_call (ea_cons (ev_int (ea_cons (ev_var rfl (ea_nil ⟨1, n, 1, rfl, by decide, by omega, ?_⟩))))))
  rw [Nat.one_mul]
  exact p
variable {c : Cfg} {ρ : List SV} {Q : DV → Prop} {ta : TE}
theorem ev_sdims (S : SpaceF K C) (h : Ev K c ta ρ fun x => ∃ d b, x = spD C d b ∧ Q (natD d)) : Ev K c (tFld K ta "dimensions") ρ Q :=
  ev_fld S.cl S.dimensions (h.imp fun x ⟨d, b, e, q⟩ => ⟨_, _, e, rfl, q⟩)
theorem ev_sbits (S : SpaceF K C) (h : Ev K c ta ρ fun x => ∃ d b, x = spD C d b ∧ Q (natD b)) : Ev K c (tFld K ta "bits") ρ Q :=
  ev_fld S.cl S.bits (h.imp fun x ⟨d, b, e, q⟩ => ⟨_, _, e, rfl, q⟩)
theorem ev_sdepth (S : SpaceF K C) (h : Ev K c ta ρ fun x => ∃ d b, x = spD C d b ∧ Q (natD (d * b))) : Ev K c (tFld K ta "depth") ρ Q :=
  ev_fld S.cl S.depth (h.imp fun x ⟨d, b, e, q⟩ => ⟨_, _, e, rfl, q⟩)
theorem ev_sside (S : SpaceF K C) (h : Ev K c ta ρ fun x => ∃ d b, x = spD C d b ∧ Q (natD (2 ^ b))) : Ev K c (tFld K ta "side") ρ Q :=
  ev_fld S.cl S.side (h.imp fun x ⟨d, b, e, q⟩ => ⟨_, _, e, rfl, q⟩)
-- @MAC
local macro_rules | `(tactic| walk_at "ve") => `(tactic| first
  | (with_reducible refine ev_sdims (by assumption) ?_)
  | (with_reducible refine ev_sbits (by assumption) ?_)
  | (with_reducible refine ev_sdepth (by assumption) ?_)
  | (with_reducible refine ev_sside (by assumption) ?_)
  | (with_reducible refine' Exists.intro _ (Exists.intro _ (And.intro rfl ?_))))
-- @ENDMAC
theorem putD_ne {f g : Str} {x y : DV} {r : List (Str × DV)} (h : ¬ g = f) : putD f y ((g, x) :: r) = (g, x) :: putD f y r := by
  show (if g = f then _ else _) = _
  rw [if_neg h]
theorem put_bits {x y : DV} : putD "bits" y [("dimensions", x)] = ([("dimensions", x), ("bits", y)] : List (Str × DV)) := by
  rw [putD_ne (by decide +kernel)]
  rfl
theorem put_depth {x y z : DV} : putD "depth" z [("dimensions", x), ("bits", y)] = ([("dimensions", x), ("bits", y), ("depth", z)] : List (Str × DV)) := by
  rw [putD_ne (by decide +kernel), putD_ne (by decide +kernel)]
  rfl
theorem put_side {x y z u : DV} : putD "side" u [("dimensions", x), ("bits", y), ("depth", z)] = ([("dimensions", x), ("bits", y), ("depth", z), ("side", u)] : List (Str × DV)) := by
  rw [putD_ne (by decide +kernel), putD_ne (by decide +kernel), putD_ne (by decide +kernel)]
  rfl
def gSpace : Cfg → List DV → (List (Str × DV) → Prop) → Prop := fun _ ds P => ∃ d b : Nat, ds = [natD d, natD b] ∧ OkS d b ∧ P [("dimensions", natD d), ("bits", natD b), ("depth", natD (d * b)), ("side", natD (2 ^ b))]
theorem ok_Space___init__ {P : Program} {w : World} {K : PySem.W.Frag} {mg : Str → Option Value} {base : Heap} {C Cc Cb Ce fI f : Addr} {fd : FuncData} (F : Fun K "__init__" "Space.__init__" s_Space___init__ f fd) (T : Tx K mg C Cc Cb Ce fI) (C_is_between : Cal P w K mg base 1 "is_between" (SpD K (fIsBetween))) (C_power : Cal P w K mg base 2 "power" (SpD K (fPower))) : FnOk P w K mg base CX0 3 f fd ["self", "dimensions", "bits"] (SpI K C (gSpace)) := by
  refine fn_init F sc_Space___init__ (by walk_at "len") (fun cdv A outer s H E hr => ⟨_, (pss_cons (ps_if (pt_not (pt_val (pe_cal C_is_between hr (by decide) (by rfl) (pa_cons (pv 1) (pa_cons pe_int (pa_cons (pe_gint (by rfl) T.c_MOST_DIMENSIONS) pa_nil)))))) (pss_one ps_never) pss_nil)
    (pss_cons (ps_if (pt_not (pt_val (pe_cal C_is_between hr (by decide) (by rfl) (pa_cons (pv 2) (pa_cons pe_int (pa_cons (pe_gint (by rfl) T.c_MOST_BITS) pa_nil)))))) (pss_one ps_never) pss_nil)
    (pss_cons (ps_fld (pv 0) (pv 1) rfl)
    (pss_cons (ps_fld (pv 0) (pv 2) rfl)
    (pss_cons (ps_fld (pv 0) (pe_op op_mul (pv 1) (pv 2)) rfl)
    (pss_one (ps_fld (pv 0) (pe_cal C_power hr (by decide) (by rfl) (pa_cons (pv 2) pa_nil)) rfl))))))), fun c Fr a ds P h => ?_⟩)
  try dsimp only [cxOf]
  have S := T.S_Space
  obtain ⟨d, b, rfl, ⟨⟨d1, d2⟩, b1, b2⟩, p⟩ := h
  try dsimp only [cxOf]
  refine (show Sx K _ (fun z => z = a) _ _ _ [.own (.obj a C []), .d (natD d), .d (natD b)] _ from ?_)
  refine sx_guardq ?_ (sx_guardq ?_ ?_)
  · refine et_not (et_test (ev_call (ea_cons (ev_var rfl (ea_cons (ev_int (ea_cons (ev_int (ea_nil ⟨_, _, _, rfl, _, rfl, ?_⟩)))))))))
    rw [decide_eq_true (show (1 : Int) ≤ d by omega), decide_eq_true (show (d : Int) ≤ 3 by omega)]
    rfl
  · refine et_not (et_test (ev_call (ea_cons (ev_var rfl (ea_cons (ev_int (ea_cons (ev_int (ea_nil ⟨_, _, _, rfl, _, rfl, ?_⟩)))))))))
    rw [decide_eq_true (show (1 : Int) ≤ b by omega), decide_eq_true (show (b : Int) ≤ 10 by omega)]
    rfl
  refine sx_seq (sx_fld (C := C) (a := a) (fs := []) rfl S.cl S.dimensions (by decide) (ev_var rfl ?_))
  show Sx K _ (fun z => z = a) _ _ _ [.own (.obj a C [("dimensions", natD d)]), .d (natD d), .d (natD b)] _
  refine sx_seq (sx_fld (C := C) (a := a) (fs := [("dimensions", natD d)]) rfl S.cl S.bits (by simp) (ev_var rfl ?_))
  rw [put_bits]
  show Sx K _ (fun z => z = a) _ _ _ [.own (.obj a C [("dimensions", natD d), ("bits", natD b)]), .d (natD d), .d (natD b)] _
  refine sx_seq (sx_fld (C := C) (a := a) (fs := [("dimensions", natD d), ("bits", natD b)]) rfl S.cl S.depth (by simp) (ev_op (ev_var rfl (ev_var rfl (rv_Ii (.inl (by omega)) ?_)))))
  rw [put_depth, ← Int.natCast_mul]
  show Sx K _ (fun z => z = a) _ _ _ [.own (.obj a C [("dimensions", natD d), ("bits", natD b), ("depth", natD (d * b))]), .d (natD d), .d (natD b)] _
  refine sx_fld (C := C) (a := a) (fs := [("dimensions", natD d), ("bits", natD b), ("depth", natD (d * b))]) rfl S.cl S.side (by simp) (ev_call (ea_cons (ev_var rfl (ea_nil ⟨b, rfl, by omega, ?_⟩))))
  dsimp only [List.set]
  rw [put_side]
  exact ⟨_, p, rfl⟩
theorem ok_Space_is_point {P : Program} {w : World} {K : PySem.W.Frag} {mg : Str → Option Value} {base : Heap} {C Cc Cb Ce fI f : Addr} {fd : FuncData} (F : Fun K "is_point" "Space.is_point" s_Space_is_point f fd) (T : Tx K mg C Cc Cb Ce fI) (C_is_between : Cal P w K mg base 1 "is_between" (SpD K (fIsBetween))) : FnOk P w K mg base CX0 2 f fd ["self", "thing"] (SpD K (fIsPoint C)) := by
  refine fn_pure F sc_Space_is_point (by walk_at "len") (fun cdv A outer s H E hr => ⟨_, (pss_cons (ps_if (PW.pt (pw_or (pt_not (pt_val (pe_callB (x_isi K) (by rfl) T.n_isinstance (by decide +kernel) (pa_cons (pv 1) (pa_cons (pe_bltn (v := .ty "tuple") (by rfl) T.n_tuple (by decide +kernel) rfl) pa_nil))))) (pw_or1 (pt_cmpR op_ne (pe_callB (x_len K) (by rfl) T.n_len PySem.boot_len (pa_cons (pv 1) pa_nil)) (x_fld K (pv 0) rfl) (nomark _))))) (pss_one (ps_ret pe_bl)) pss_nil)
    (pss_one (ps_ret (pe_callB (x_all K rfl) (by rfl) T.n_all (by decide +kernel) (pa_cons (pe_lc (own := [("part", 2)]) (tt := tYes) rfl sc_Space_is_point.nd (x_tup K (pv 1)) (blkOk_by (N := N_Space_is_point) (sc := defScope s_Space_is_point) (by decide +kernel)) (fun _ _ _ _ _ => (pg_name (i := 2) sc_Space_is_point.nd rfl (.inl rfl))) (fun _ _ _ _ _ => pts_nil) (fun _ _ _ _ _ => (pe_cal C_is_between hr (by decide) (by rfl) (pa_cons (pv 2) (pa_cons pe_int (pa_cons (pe_op op_sub (x_fld K (pv 0) rfl) pe_int) pa_nil)))))) pa_nil))))), fun c Fr ds P h => ?_⟩)
  try dsimp only [cxOf]
  have S := T.S_Space
  obtain ⟨d, b, x, rfl, hs, ⟨zs, rfl, hz, p⟩ | ⟨hx, p⟩⟩ := h
  rotate_left
  · try dsimp only [cxOf]
    refine (show Sx K _ (fun _ => False) _ _ _ [_, _, .non] _ from ?_)
    have no : ∀ {Q : DV → Prop}, Q (.bl false) → RVA K c (rIsi K) [x, .ty "tuple"] Q := fun q => by
      rcases hx with rfl | ⟨ys, rfl⟩
      · exact rva_isi' (b := false) (T := "NoneType") (.inl ⟨rfl, rfl⟩) (kit_ty (by decide +kernel)) q
      · exact rva_isi' (b := false) (T := "list") (.inr ⟨_, rfl, rfl⟩) (kit_ty (by decide +kernel)) q
    refine sx_seq (sx_if (et_or (et_not (et_test (ev_cb (ea_cons (ev_var rfl (ea_cons (ev_ty (ea_nil (no ⟨_, rfl, ?_⟩)))))))))))
    rw [if_pos (by decide), if_pos rfl]
    exact sx_ret (ev_bl p)
  refine (show Sx K _ (fun _ => False) _ _ _ [_, _, .non] _ from ?_)
  refine sx_seq (sx_if (et_or (et_not (et_test (ev_cb (ea_cons (ev_var rfl (ea_cons (ev_ty (ea_nil (rva_isi (b := true) (T := "tuple") (.inr (.inl ⟨_, rfl, rfl⟩)) (kit_ty (by decide +kernel)) ⟨_, rfl, ?_⟩)))))))))))
  rw [if_neg (by decide)]
  walk_at "ves"
  refine if_nd (fun h => ?_) (fun h => ?_)
  · refine sx_ret (ev_bl ?_)
    have e : decide (zs.length = d) = false := decide_eq_false fun y => h (by rw [List.length_map, y])
    rw [e] at p
    exact p
  · have e : zs.length = d := by
      rw [List.length_map] at h
      omega
    rw [decide_eq_true e, Bool.true_and] at p
    refine sx_next (sx_ret (ev_cb (ea_cons (ev_en (en_lcMap (own_name (by decide)) (ei_tup (ev_var rfl ⟨_, rfl, by rw [List.length_map]; exact hz, ?_⟩)))))))
    refine ⟨fun x => match x with | .int z => .bl (decide (0 ≤ z) && decide (z ≤ (2 ^ b : Nat) - 1)) | _ => .non, fun x hx => ?_, ?_⟩
    · obtain ⟨z, _, rfl⟩ := List.mem_map.mp hx
      refine eg_name ?_
      dsimp only [List.set, wipeR]
      walk_at "ves"
      exact ⟨_, _, _, rfl, rfl⟩
    · refine ⟨_, rfl, ea_nil ?_⟩
      have e2 : (intsD zs).map (fun x => match x with | .int z => DV.bl (decide (0 ≤ z) && decide (z ≤ (2 ^ b : Nat) - 1)) | _ => .non) = (zs.map fun z => decide (0 ≤ z) && decide (z ≤ ((2 ^ b : Nat) : Int) - 1)).map .bl := by
        rw [List.map_map, List.map_map]
        rfl
      rw [e2]
      refine rva_all ?_
      rw [List.all_map]
      exact p
/- slots of Space.point_of: [(0, 'self'), (1, 'number'), (2, 'parts'), (3, 'left'), (4, '_'), (5, 'axis')] -/
theorem set_range {α : Type} (d j : Nat) (g : Nat → α) (y : α) : ((List.range d).map g).set j y = (List.range d).map fun a => if a = j then y else g a := by
  refine List.ext_getElem? fun i => ?_
  by_cases h : i < d
  · rw [List.getElem?_map, List.getElem?_range h]
    by_cases e : j = i
    · subst e
      rw [List.getElem?_set_self (by simpa using h)]
      simp
    · rw [List.getElem?_set_ne e, List.getElem?_map, List.getElem?_range h]
      simp [Ne.symm e]
  · rw [List.getElem?_eq_none (by simp; omega), List.getElem?_eq_none (by simp; omega)]
def part (d D n i a : Nat) : Nat := NM.bv ((List.range i).map fun j => GM.nb D n (j * d + a))
theorem part_succ (d D n i a : Nat) : part d D n (i + 1) a = 2 * part d D n i a + GM.nb D n (i * d + a) := by
  unfold part
  rw [List.range_succ, List.map_append, List.map_singleton, NM.bv_snoc]
  omega
theorem part_lt (d D n i a : Nat) : part d D n i a < 2 ^ i := GM.bv_range_lt fun _ _ => GM.nb_lt _ _ _
def partsD (d D n i j : Nat) : List DV := (List.range d).map fun a => natD (part d D n (if a < j then i + 1 else i) a)
theorem partsD_set {d D n i j : Nat} : (partsD d D n i j).set j (natD (part d D n (i + 1) j)) = partsD d D n i (j + 1) := by
  unfold partsD
  rw [set_range]
  refine List.map_congr_left fun a _ => ?_
  by_cases e : a = j
  · subst e
    rw [if_pos rfl, if_pos (Nat.lt_succ_self a)]
  · rw [if_neg e]
    by_cases l : a < j
    · rw [if_pos l, if_pos (by omega)]
    · rw [if_neg l, if_neg (by omega)]
theorem partsD_next {d D n i : Nat} : partsD d D n i d = partsD d D n (i + 1) 0 := by
  unfold partsD
  refine List.map_congr_left fun a h => ?_
  rw [if_pos (List.mem_range.mp h), if_neg (Nat.not_lt_zero _)]
theorem ok_Space_point_of {P : Program} {w : World} {K : PySem.W.Frag} {mg : Str → Option Value} {base : Heap} {C Cc Cb Ce fI f : Addr} {fd : FuncData} (F : Fun K "point_of" "Space.point_of" s_Space_point_of f fd) (T : Tx K mg C Cc Cb Ce fI) : FnOk P w K mg base CX0 1 f fd ["self", "number"] (SpD K (fPointOf C)) := by
  refine fn_pure F sc_Space_point_of (by walk_at "len") (fun cdv A outer s H E hr => ⟨_, (pss_cons (ps_set (i := 2) sc_Space_point_of.nd rfl (.inl rfl) (pe_op op_rep (pe_lst (pa_cons pe_int pa_nil)) (x_fld K (pv 0) rfl)))
    (pss_cons (ps_set (i := 3) sc_Space_point_of.nd rfl (.inl rfl) (x_fld K (pv 0) rfl))
    (pss_cons (ps_for PassesOwn.never rfl (pi_range1 (by rfl) T.n_range (pa_cons (x_fld K (pv 0) rfl) pa_nil)) (pg_name (i := 4) sc_Space_point_of.nd rfl (.inl rfl)) (pss_one (ps_for PassesOwn.never rfl (pi_range1 (by rfl) T.n_range (pa_cons (x_fld K (pv 0) rfl) pa_nil)) (pg_name (i := 5) sc_Space_point_of.nd rfl (.inl rfl)) (pss_cons (ps_aug (i := 3) sc_Space_point_of.nd rfl (.inl rfl) pe_int ip_sub)
    (pss_one (ps_asg (pe_op op_or (pe_op op_shlW (pe_ix (x_ixA K) (pv 2) (pv 5) (fun _ _ => rfl)) pe_int) (pe_op op_and (pe_op op_shr (pv 1) (pv 3)) pe_int)) (pg_sub (pv 2) (pv 5) set_list)))))))
    (pss_one (ps_ret (pe_callTy (x_tupOf K) (by rfl) T.n_tuple (by decide +kernel) (pa_cons (pv 2) pa_nil))))))), fun c Fr ds P h => ?_⟩)
  try dsimp only [cxOf]
  have S := T.S_Space
  obtain ⟨d, b, n, rfl, ⟨⟨d1, d2⟩, b1, b2⟩, k⟩ := h
  refine (show Sx K _ (fun _ => False) _ _ _ [_, _, .non, .non, .non, .non] _ from ?_)
  refine sx_seq (sx_new (en_rep (ev_lst (ea_cons (ev_int (ea_nil ⟨by decide, ?_⟩))))))
  refine ev_sdims S (ev_var rfl ⟨d, b, rfl, [.int 0], (d : Int), rfl, rfl, by omega, by omega, by rw [Int.toNat_natCast, List.length_singleton]; omega, fun a C fs h => (nomatch h), fun w a S n h => (nomatch h), ?_⟩)
  rw [Int.toNat_natCast, show (List.replicate d [DV.int 0]).flatten = partsD d (d * b) n 0 0 by
    show _ = (List.range d).map fun _ => DV.int 0
    rw [List.map_const', List.length_range]
    clear d1 d2 k
    induction d with
    | zero => rfl
    | succ d ih => rw [List.replicate_succ, List.replicate_succ, List.flatten_cons, ih]; rfl]
  dsimp only [List.set]
  refine sx_seq (sx_asg (ev_sdepth S (ev_var rfl ⟨d, b, rfl, eg_name ?_⟩)))
  dsimp only [List.set]
  refine sx_seq (sx_for (ei_rng1 (ea_cons (ev_sbits S (ev_var rfl ⟨d, b, rfl, ea_nil ⟨_, rfl, by omega, by omega, ?_⟩⟩)))))
  refine ⟨fun i ρ' => ∃ x y : SV, ρ' = [.d (spD C d b), .d (natD n), .own (.lst (partsD d (d * b) n i 0)), .d (natD (d * b - i * d)), x, y], ⟨.non, .non, ?_⟩, ?_, ?_⟩
  · rw [Nat.zero_mul]
    rfl
  · rintro i x ρ' hx ⟨a4, a5, rfl⟩
    obtain ⟨hi, rfl⟩ := rngD_of hx
    rw [Int.toNat_natCast] at hi
    refine eg_name ?_
    dsimp only [List.set]
    refine sx_for (ei_rng1 (ea_cons (ev_sdims S (ev_var rfl ⟨d, b, rfl, ea_nil ⟨_, rfl, by omega, by omega, ?_⟩⟩))))
    have hid : i * d + d ≤ d * b := by
      have h1 : (i + 1) * d ≤ b * d := Nat.mul_le_mul_right d hi
      rw [Nat.mul_comm d b]
      rw [Nat.add_mul, Nat.one_mul] at h1
      exact h1
    have hD : d * b ≤ 3 * 10 := Nat.mul_le_mul d2 b2
    refine ⟨fun j ρ' => ∃ x y : SV, ρ' = [.d (spD C d b), .d (natD n), .own (.lst (partsD d (d * b) n i j)), .d (natD (d * b - (i * d + j))), x, y], ⟨_, _, rfl⟩, ?_, ?_⟩
    · rintro j x ρ' hx ⟨b4, b5, rfl⟩
      obtain ⟨hj, rfl⟩ := rngD_of hx
      rw [Int.toNat_natCast] at hj
      rw [show (0 : Int) + (j : Int) = (j : Int) by omega]
      refine eg_name ?_
      dsimp only [List.set]
      refine sx_seq (sx_aug ⟨_, rfl, ev_int (rv_I0i ?_)⟩)
      dsimp only [List.set]
      rw [show ((d * b - (i * d + j) : Nat) : Int) - 1 = ((d * b - 1 - (i * d + j) : Nat) : Int) by omega]
      refine sx_setIx (i := 2) (j := j) (ds := partsD d (d * b) n i j) rfl (ev_borrow 2 rfl ?_)
      dsimp only [List.set]
      have hg : (partsD d (d * b) n i j)[j]? = some (natD (part d (d * b) n i j)) := by
        unfold partsD
        rw [List.getElem?_map, List.getElem?_range hj]
        show some (natD (part d (d * b) n (if j < j then i + 1 else i) j)) = _
        rw [if_neg (Nat.lt_irrefl j)]
      refine ev_op (ev_op (ev_op (ev_var rfl (ev_var rfl (rv_ixA (.inl rfl) hg (ev_int ?_))))))
      refine rv_shl (b := 1) (part_lt d (d * b) n i j) (by omega) ?_
      refine ev_op (ev_op (ev_var rfl (ev_var rfl (rv_shr (b := d * b - 1 - (i * d + j)) (ev_int (rv_and (b := 1) (rv_or ⟨trivial, ev_var rfl ⟨rfl, ?_, ?_⟩⟩)))))))
      · unfold partsD
        rw [List.length_map, List.length_range]
        exact hj
      · have e3 : part d (d * b) n i j * 2 ^ 1 ||| n / 2 ^ (d * b - 1 - (i * d + j)) &&& 1 = part d (d * b) n (i + 1) j := by
          rw [Nat.and_one_is_mod, Nat.pow_one, or_bit _ _ (by omega), part_succ]
          rfl
        rw [e3, partsD_set, Nat.sub_sub, Nat.add_comm 1, ← Nat.add_assoc]
        exact ⟨_, _, rfl⟩
    · rintro ρ' ⟨b4, b5, rfl⟩
      rw [rngD_len, Int.toNat_natCast, partsD_next, show i * d + d = (i + 1) * d by rw [Nat.add_mul, Nat.one_mul]]
      exact ⟨_, _, rfl⟩
  · rintro ρ' ⟨a4, a5, rfl⟩
    refine sx_freeze (i := 2) rfl (sx_ret (ev_cb (ea_cons (ev_var rfl (ea_nil (rva_tuple (.inl rfl) ?_))))))
    rw [rngD_len, Int.toNat_natCast]
    have e : partsD d (d * b) n b 0 = (GM.pointOf d b n).map natD := by
      unfold partsD GM.pointOf
      rw [List.map_map]
      rfl
    rw [e]
    exact k
theorem ok_Space_size {P : Program} {w : World} {K : PySem.W.Frag} {mg : Str → Option Value} {base : Heap} {C Cc Cb Ce fI f : Addr} {fd : FuncData} (F : Fun K "size" "Space.size" s_Space_size f fd) (T : Tx K mg C Cc Cb Ce fI) (C_power : Cal P w K mg base 2 "power" (SpD K (fPower))) : FnOk P w K mg base CX0 3 f fd ["self", "prefix"] (SpD K (fSize C)) := by
  refine fn_pure F sc_Space_size (by walk_at "len") (fun cdv A outer s H E hr => ⟨_, (pss_one (ps_ret (pe_cal C_power hr (by decide) (by rfl) (pa_cons (pe_op op_sub (x_fld K (pv 0) rfl) (pe_ix (x_ixT K) (pv 1) pe_int (fun _ _ => rfl))) pa_nil)))), fun c Fr ds P h => ?_⟩)
  try dsimp only [cxOf]
  have S := T.S_Space
  obtain ⟨d, b, l, x, rfl, ⟨⟨d1, d2⟩, b1, b2⟩, hl, k⟩ := h
  refine (show Sx K _ (fun _ => False) _ _ _ [_, _] _ from ?_)
  have hD : d * b ≤ 3 * 10 := Nat.mul_le_mul d2 b2
  refine sx_ret (ev_call (ea_cons (ev_op (ev_sdepth S (ev_var rfl ⟨d, b, rfl, ev_op (ev_var rfl (ev_int (rv_ixT (j := 0) rfl (rv_I0i (ea_nil ⟨d * b - l, ?_, by omega, k⟩)))))⟩)))))
  show [DV.int ((d * b : Nat) - (l : Int))] = [natD (d * b - l)]
  rw [← Int.ofNat_sub hl]
end

-- @FILE K60b
/-! ## woven with its error -/
/-- x is no point -/
def NoP (d b : Nat) (x : DV) : Prop := (∃ zs : List Int, x = .tup (intsD zs) ∧ zs.length ≤ 1000000 ∧ ¬ (zs.length = d ∧ ∀ z ∈ zs, 0 ≤ z ∧ z < (2 ^ b : Nat))) ∨ x = .non ∨ ∃ ys, x = .lst ys
def fWovenE (C : Addr) : Cfg → List DV → (DV → Prop) → (DV → Prop) → Prop := fun _ ds P X => ∃ (d b : Nat) (x : DV), ds = [spD C d b, x] ∧ OkS d b ∧ ((∃ p, x = pointD p ∧ OkP d b p ∧ P (natD (GM.weave d b p))) ∨ (NoP d b x ∧ X x))
section
variable {P : Program} {w : World} {K : PySem.W.Frag} {mg : Str → Option Value} {base : Heap} {C Ce fI : Addr}
theorem ok_Space_woven {P : Program} {w : World} {K : PySem.W.Frag} {mg : Str → Option Value} {base : Heap} {C Cc Cb Ce fI f : Addr} {fd : FuncData} (F : Fun K "woven" "Space.woven" s_Space_woven f fd) (T : Tx K mg C Cc Cb Ce fI) (C_Space_is_point : Met P w K mg base 2 C "is_point" (SpD K (fIsPoint C))) : FnOk P w K mg base (L2.CX P w) 3 f fd ["self", "point"] (SpE K Ce "point" (fWovenE C)) := by
  refine fn_exc F sc_Space_woven (by walk_at "len") (fun cdv A outer s H E hr => ⟨_, (pss_cons (ps_if (pt_not (pt_val (pe_met C_Space_is_point hr (by decide) (pv 0) (pa_cons (pv 1) pa_nil)))) (pss_one (ps_raiseBadPoint rfl T.TB_BadPoint hr (takes_of rfl rfl rfl rfl) (pa_cons (pv 1) pa_nil))) pss_nil)
    (PSs.nox (pss_cons (ps_set (i := 2) sc_Space_woven.nd rfl (.inl rfl) pe_int)
    (pss_cons (ps_for PassesOwn.never rfl (pi_revR (by rfl) T.n_reversed (prg_1 (by rfl) T.n_range (x_fld K (pv 0) rfl))) (pg_name (i := 3) sc_Space_woven.nd rfl (.inl rfl)) (pss_one (ps_for PassesOwn.never rfl (x_tup K (pv 1)) (pg_name (i := 4) sc_Space_woven.nd rfl (.inl rfl)) (pss_one (ps_set (i := 2) sc_Space_woven.nd rfl (.inl rfl) (pe_op op_or (pe_op op_shlW (pv 2) pe_int) (pe_op op_and (pe_op op_shr (pv 4) (pv 3)) pe_int)))))))
    (pss_one (ps_ret (pv 2))))))), fun c Fr ds P X h hw => ?_⟩)
  try dsimp only [cxOf]
  have S := T.S_Space
  obtain ⟨d, b, x, rfl, hs, h⟩ := h
  have hs' := hs
  obtain ⟨⟨d1, d2⟩, b1, b2⟩ := hs'
  refine (show Sx K _ (fun _ => False) _ _ _ [_, _, .non, .non, .non] _ from ?_)
  have ask : ∀ t : Bool, ((∃ zs : List Int, x = .tup (intsD zs) ∧ zs.length ≤ 1000000 ∧ t = (decide (zs.length = d) && zs.all fun z => decide (0 ≤ z) && decide (z ≤ (2 ^ b : Nat) - 1))) ∨ ((x = .non ∨ ∃ ys, x = .lst ys) ∧ t = false)) →
      ∀ {Q : DV → Prop}, Q (.bl t) → fIsPoint C c [spD C d b, x] Q := fun t ht Q q => by
    rcases ht with ⟨zs, e, hz, rfl⟩ | ⟨e, rfl⟩
    · exact ⟨d, b, x, rfl, hs, .inl ⟨zs, e, hz, q⟩⟩
    · exact ⟨d, b, x, rfl, hs, .inr ⟨e, q⟩⟩
  refine sx_seq (sx_if (et_not (et_test (ev_meth (ev_var rfl ⟨_, rfl, rfl, ea_cons (ev_var rfl (ea_nil ?_))⟩)))))
  rcases h with ⟨p, rfl, ⟨hl, hp⟩, k⟩ | ⟨hno, hX⟩
  · refine ask true (.inl ⟨p.map Int.ofNat, ?_, by rw [List.length_map]; omega, ?_⟩) ⟨_, rfl, ?_⟩
    · show DV.tup (p.map natD) = DV.tup ((p.map Int.ofNat).map DV.int)
      rw [List.map_map]
      rfl
    · rw [decide_eq_true (by rw [List.length_map]; exact hl), Bool.true_and]
      have : (p.map Int.ofNat).all (fun z => decide (0 ≤ z) && decide (z ≤ (2 ^ b : Nat) - 1)) = true := by
        rw [List.all_map, List.all_eq_true]
        intro x hx
        have := hp x hx
        show (decide ((0 : Int) ≤ (x : Int)) && decide ((x : Int) ≤ (2 ^ b : Nat) - 1)) = true
        rw [decide_eq_true (Int.natCast_nonneg x), decide_eq_true (by omega)]
        rfl
      rw [this]
    rw [if_neg (by decide)]
    refine sx_next ?_
    have hF : ∀ i, GM.nb b (p.getD (i % d) 0) (i / d) < 2 := fun i => GM.nb_lt _ _ _
    refine sx_seq (sx_asg (ev_int (eg_name ?_)))
    dsimp only [List.set]
    refine sx_seq (sx_for (ei_rev1 ?_))
    refine ev_sbits S (ev_var rfl ⟨d, b, rfl, _, rfl, ?_⟩)
    refine ⟨by omega, by omega, fun i ρ' => ∃ x y : SV, ρ' = [.d (spD C d b), .d (pointD p), .d (natD (NM.bv ((List.range (i * d)).map fun i => GM.nb b (p.getD (i % d) 0) (i / d)))), x, y], ⟨.non, .non, ?_⟩, ?_, ?_⟩
    · rw [Nat.zero_mul]
      rfl
    · rintro i x ρ' hx ⟨a3, a4, rfl⟩
      obtain ⟨hi, rfl⟩ := rngR_of hx
      rw [Int.toNat_natCast] at hi
      rw [show (0 : Int) + ((b : Int).toNat : Int) - 1 - (i : Int) = ((b - 1 - i : Nat) : Int) by omega]
      refine eg_name ?_
      dsimp only [List.set]
      refine sx_for (ei_tup (ev_var rfl ⟨_, rfl, ?_⟩))
      refine ⟨fun j ρ' => ∃ y : SV, ρ' = [.d (spD C d b), .d (pointD p), .d (natD (NM.bv ((List.range (i * d + j)).map fun i => GM.nb b (p.getD (i % d) 0) (i / d)))), .d (natD (b - 1 - i)), y], ⟨_, rfl⟩, ?_, ?_⟩
      · rintro j y ρ' hy ⟨a5, rfl⟩
        rw [List.getElem?_map] at hy
        cases e : p[j]? with
        | none => rw [e] at hy; cases hy
        | some x =>
          rw [e] at hy
          cases hy
          have hj : j < d := by
            have := (List.getElem?_eq_some_iff.mp e).1
            omega
          refine eg_name ?_
          dsimp only [List.set]
          refine sx_asg (ev_op (ev_op (ev_var rfl (ev_int ?_))))
          have hb : NM.bv ((List.range (i * d + j)).map fun i => GM.nb b (p.getD (i % d) 0) (i / d)) < 2 ^ (i * d + j) := GM.bv_range_lt fun i _ => hF i
          have hm : i * d ≤ 10 * 3 := Nat.mul_le_mul (by omega) d2
          refine rv_shl (b := 1) hb (by omega) ?_
          refine ev_op (ev_op (ev_var rfl (ev_var rfl (rv_shr (b := b - 1 - i) (ev_int (rv_and (b := 1) (rv_or (eg_name ?_))))))))
          dsimp only [List.set]
          have e3 : NM.bv ((List.range (i * d + j)).map fun i => GM.nb b (p.getD (i % d) 0) (i / d)) * 2 ^ 1 ||| x / 2 ^ (b - 1 - i) &&& 1 = NM.bv ((List.range (i * d + (j + 1))).map fun i => GM.nb b (p.getD (i % d) 0) (i / d)) := by
            rw [Nat.and_one_is_mod, Nat.pow_one, or_bit _ _ (by omega), ← Nat.add_assoc, List.range_succ, List.map_append, List.map_singleton, NM.bv_snoc, GM.ix_mod hj, GM.ix_div hj]
            show _ = _ + GM.nb b (p.getD j 0) i
            rw [show p.getD j 0 = x by rw [List.getD_eq_getElem?_getD, e]; rfl]
            unfold GM.nb
            omega
          rw [e3]
          exact ⟨_, rfl⟩
      · rintro ρ' ⟨a5, rfl⟩
        rw [List.length_map, hl, show i * d + d = (i + 1) * d by rw [Nat.add_mul, Nat.one_mul]]
        exact ⟨_, _, rfl⟩
    · rintro ρ' ⟨a3, a4, rfl⟩
      refine sx_ret (ev_var rfl ?_)
      rw [rngR_len, Int.toNat_natCast, Nat.mul_comm b d]
      exact k
  · refine ask false ?_ ⟨_, rfl, ?_⟩
    · rcases hno with ⟨zs, rfl, hz, hn⟩ | hn
      · refine .inl ⟨zs, rfl, hz, ?_⟩
        symm
        rw [Bool.and_eq_false_iff]
        by_cases hl : zs.length = d
        · refine .inr ?_
          rw [Bool.eq_false_iff]
          intro y
          refine hn ⟨hl, fun z hz => ?_⟩
          have q := List.all_eq_true.mp y z hz
          rw [Bool.and_eq_true, decide_eq_true_iff, decide_eq_true_iff] at q
          omega
        · exact .inl (decide_eq_false hl)
      · exact .inr ⟨hn, rfl⟩
    rw [if_pos (by decide)]
    exact sx_raise (hw _) (ev_var rfl hX)
end

-- @FILE K60c
/-! ## the module clouds -/








abbrev s__row_of : Stmt := topS 21
abbrev N__row_of : List Str := ["space", "points", "seen", "point", "number"]
theorem sc__row_of : FnScope N__row_of ["space", "points"] (defScope s__row_of) := ⟨rfl, rfl, rfl, by decide +kernel, rfl, by decide +kernel, by decide +kernel⟩
abbrev s_place_in : Stmt := topS 9
abbrev N_place_in : List Str := ["row", "number", "low", "high", "middle"]
theorem sc_place_in : FnScope N_place_in ["row", "number"] (defScope s_place_in) := ⟨rfl, rfl, rfl, by decide +kernel, rfl, by decide +kernel, by decide +kernel⟩
abbrev s_Cloud___init__ : Stmt := inClass (topS 20) 0
abbrev N_Cloud___init__ : List Str := ["self", "space", "points"]
theorem sc_Cloud___init__ : FnScope N_Cloud___init__ ["self", "space", "points"] (defScope s_Cloud___init__) := ⟨rfl, rfl, rfl, by decide +kernel, rfl, by decide +kernel, by decide +kernel⟩
abbrev s_Cloud_points : Stmt := inClass (topS 20) 2
abbrev N_Cloud_points : List Str := ["self", "number"]
theorem sc_Cloud_points : FnScope N_Cloud_points ["self"] (defScope s_Cloud_points) := ⟨rfl, rfl, rfl, by decide +kernel, rfl, by decide +kernel, by decide +kernel⟩
abbrev s_Cloud_many : Stmt := inClass (topS 20) 3
abbrev N_Cloud_many : List Str := ["self"]
theorem sc_Cloud_many : FnScope N_Cloud_many ["self"] (defScope s_Cloud_many) := ⟨rfl, rfl, rfl, by decide +kernel, rfl, by decide +kernel, by decide +kernel⟩
abbrev s_Cloud_count : Stmt := inClass (topS 20) 5
abbrev N_Cloud_count : List Str := ["self", "prefix", "size", "first"]
theorem sc_Cloud_count : FnScope N_Cloud_count ["self", "prefix"] (defScope s_Cloud_count) := ⟨rfl, rfl, rfl, by decide +kernel, rfl, by decide +kernel, by decide +kernel⟩
def clD (Cc C : Addr) (d b : Nat) (row : List Nat) : DV := .ins Cc [("space", spD C d b), ("row", .tup (row.map natD))]
/-- the row of some points -/
def RowOf (d b : Nat) (ps : List (List Nat)) (row : List Nat) : Prop := row.Pairwise (· < ·) ∧ (∀ n, n ∈ row ↔ ∃ p ∈ ps, GM.weave d b p = n) ∧ row.length = ps.length
/-- some unlike points, in a list or a tuple -/
def PtsD (d b : Nat) (x : DV) (ps : List (List Nat)) : Prop := (x = .lst (ps.map pointD) ∨ x = .tup (ps.map pointD)) ∧ (∀ p ∈ ps, OkP d b p) ∧ ps.Nodup ∧ ps.length < 64
def below (row : List Nat) (x : Nat) : Nat := row.countP (· < x)
def fPlace : Cfg → List DV → (DV → Prop) → Prop := fun _ ds P => ∃ (row : List Nat) (x : Nat), ds = [.tup (row.map natD), natD x] ∧ row.Pairwise (· < ·) ∧ row.length ≤ 1000000 ∧ P (natD (below row x))
section
variable {P : Program} {w : World} {K : PySem.W.Frag} {mg : Str → Option Value} {base : Heap} {C Cc : Addr}
theorem below_at {row : List Nat} {x k : Nat} (h : k ≤ row.length) (h1 : ∀ i y, i < k → row[i]? = some y → y < x) (h2 : ∀ i y, k ≤ i → row[i]? = some y → x ≤ y) : below row x = k := by
  unfold below
  have e : row = row.take k ++ row.drop k := (List.take_append_drop k row).symm
  rw [e, List.countP_append]
  have a : (row.take k).countP (· < x) = (row.take k).length := List.countP_eq_length.mpr fun y hy => by
    obtain ⟨i, hi⟩ := List.mem_iff_getElem?.mp hy
    have hik : i < k := by
      have := (List.getElem?_eq_some_iff.mp hi).1
      rw [List.length_take] at this
      omega
    rw [List.getElem?_take_of_lt hik] at hi
    exact decide_eq_true (h1 i y hik hi)
  have b : (row.drop k).countP (· < x) = 0 := List.countP_eq_zero.mpr fun y hy => by
    obtain ⟨i, hi⟩ := List.mem_iff_getElem?.mp hy
    rw [List.getElem?_drop] at hi
    have := h2 (k + i) y (by omega) hi
    simpa using this
  rw [a, b, List.length_take]
  omega
theorem asc_at {row : List Nat} (h : row.Pairwise (· < ·)) {i j x y : Nat} (hij : i ≤ j) (hi : row[i]? = some x) (hj : row[j]? = some y) : x ≤ y := by
  obtain ⟨l1, e1⟩ := List.getElem?_eq_some_iff.mp hi
  obtain ⟨l2, e2⟩ := List.getElem?_eq_some_iff.mp hj
  by_cases e : i = j
  · subst e
    omega
  · have := List.pairwise_iff_getElem.mp h i j l1 l2 (by omega)
    omega

theorem ok_place_in {P : Program} {w : World} {K : PySem.W.Frag} {mg : Str → Option Value} {base : Heap} {C Cc Cb Ce fI f : Addr} {fd : FuncData} (F : Fun K "place_in" "place_in" s_place_in f fd) (T : Tx K mg C Cc Cb Ce fI) : FnOk P w K mg base CX0 1 f fd ["row", "number"] (SpD K (fPlace)) := by
  refine fn_pure F sc_place_in (by walk_at "len") (fun cdv A outer s H E hr => ⟨_, (pss_cons (ps_set (i := 2) sc_place_in.nd rfl (.inl rfl) pe_int)
    (pss_cons (ps_set (i := 3) sc_place_in.nd rfl (.inl rfl) (pe_callB (x_len K) (by rfl) T.n_len PySem.boot_len (pa_cons (pv 0) pa_nil)))
    (pss_cons (ps_while PassesOwn.never (pt_cmpR op_lt (pv 2) (pv 3) (nomark _)) (pss_cons (ps_set (i := 4) sc_place_in.nd rfl (.inl rfl) (pe_op op_fdiv (pe_op op_add (pv 2) (pv 3)) pe_int))
    (pss_one (ps_if (pt_cmpR op_lt (pe_ix (x_ixT K) (pv 0) (pv 4) (fun _ _ => rfl)) (pv 1) (nomark _)) (pss_one (ps_set (i := 2) sc_place_in.nd rfl (.inl rfl) (pe_op op_add (pv 4) pe_int))) (pss_one (ps_set (i := 3) sc_place_in.nd rfl (.inl rfl) (pv 4)))))))
    (pss_one (ps_ret (pv 2)))))), fun c Fr ds P h => ?_⟩)
  try dsimp only [cxOf]
  obtain ⟨row, x, rfl, asc, hz, k⟩ := h
  refine (show Sx K _ (fun _ => False) _ _ _ [_, _, .non, .non, .non] _ from ?_)
  refine sx_seq (sx_asg (ev_int (eg_name ?_)))
  refine sx_seq (sx_asg (ev_cb (ea_cons (ev_var rfl (ea_nil (rva_len (.inr rfl) (eg_name ?_)))))))
  dsimp only [List.set]
  rw [List.length_map]
  refine sx_seq (sx_while (fun m ρ' => ∃ (lo hi : Nat) (z : SV), ρ' = [.d (.tup (row.map natD)), .d (natD x), .d (natD lo), .d (natD hi), z] ∧ m = hi - lo ∧ lo ≤ hi ∧ hi ≤ row.length ∧ (∀ i y, i < lo → row[i]? = some y → y < x) ∧ ∀ i y, hi ≤ i → row[i]? = some y → x ≤ y)
    ⟨_, 0, row.length, .non, rfl, rfl, Nat.zero_le _, Nat.le_refl _, fun i y h => absurd h (Nat.not_lt_zero _), fun i y h e => absurd (List.getElem?_eq_some_iff.mp e).1 (Nat.not_lt.mpr h)⟩ ?_)
  rintro m ρ' ⟨lo, hi, z, rfl, rfl, h1, h2, h3, h4⟩
  refine et_test (ev_op (ev_var rfl (ev_var rfl (rv_I0b ⟨_, rfl, ?_⟩))))
  refine if_d (fun h => ?_) (fun h => ?_)
  · refine sx_seq (sx_asg (ev_op (ev_op (ev_var rfl (ev_var rfl (rv_I0i (ev_int (rv_Ii ⟨by decide, by decide⟩ (eg_name ?_)))))))))
    dsimp only [List.set]
    rw [show ((lo : Int) + (hi : Int)) / 2 = (((lo + hi) / 2 : Nat) : Int) by omega]
    have hm : (lo + hi) / 2 < row.length := by omega
    have e : row[(lo + hi) / 2]? = some row[(lo + hi) / 2] := List.getElem?_eq_getElem hm
    refine sx_if (et_test (ev_op (ev_op (ev_var rfl (ev_var rfl (rv_ixT (j := (lo + hi) / 2) (by rw [List.getElem?_map, e]; rfl) (ev_var rfl (rv_I0b ⟨_, rfl, ?_⟩))))))))
    refine if_d (fun hl => ?_) (fun hl => ?_)
    · refine sx_asg (ev_op (ev_var rfl (ev_int (rv_I0i (eg_name ?_)))))
      dsimp only [List.set]
      refine ⟨hi - ((lo + hi) / 2 + 1), by omega, (lo + hi) / 2 + 1, hi, _, rfl, rfl, by omega, h2, fun i y hi' ey => ?_, h4⟩
      have := asc_at asc (show i ≤ (lo + hi) / 2 by omega) ey e
      omega
    · refine sx_asg (ev_var rfl (eg_name ?_))
      dsimp only [List.set]
      refine ⟨(lo + hi) / 2 - lo, by omega, lo, (lo + hi) / 2, _, rfl, rfl, by omega, by omega, h3, fun i y hi' ey => ?_⟩
      have := asc_at asc hi' e ey
      omega
  · refine sx_ret (ev_var rfl ?_)
    have e : lo = hi := by omega
    rw [below_at (show lo ≤ row.length by omega) h3 (by rw [e]; exact h4)] at k
    exact k

theorem weave_inj {d b : Nat} {p q : List Nat} (hp : OkP d b p) (hq : OkP d b q) (h : GM.weave d b p = GM.weave d b q) : p = q := by
  rw [← GM.point_weave hp.1 hp.2, h, GM.point_weave hq.1 hq.2]
/-- ascending naturals of ascending ints -/
theorem nats_of : ∀ {ns : List Int}, (∀ k ∈ ns, 0 ≤ k) → ns.Pairwise (· < ·) → ∃ row : List Nat, intsD ns = row.map natD ∧ row.Pairwise (· < ·) ∧ (∀ n : Nat, n ∈ row ↔ (n : Int) ∈ ns) ∧ row.length = ns.length := by
  intro ns h asc
  have e : (ns.map Int.toNat).map (fun n : Nat => (n : Int)) = ns := by
    rw [List.map_map]
    conv => rhs; rw [← List.map_id ns]
    exact List.map_congr_left fun k hk => Int.toNat_of_nonneg (h k hk)
  refine ⟨ns.map Int.toNat, ?_, ?_, fun n => ?_, List.length_map _⟩
  · have : intsD ns = intsD ((ns.map Int.toNat).map (fun n : Nat => (n : Int))) := by rw [e]
    rw [this]
    exact List.map_map
  · rw [← e, List.pairwise_map] at asc
    exact asc.imp fun h => by omega
  · constructor
    · intro hn
      obtain ⟨k, hk, rfl⟩ := List.mem_map.mp hn
      rw [Int.toNat_of_nonneg (h k hk)]
      exact hk
    · intro hn
      exact List.mem_map.mpr ⟨_, hn, Int.toNat_natCast n⟩
variable {c : Cfg} {ρ : List SV} {Q : DV → Prop} {ta : TE}
theorem ev_cspace (S : CloudF K Cc) (h : Ev K c ta ρ fun x => ∃ d b row, x = clD Cc C d b row ∧ Q (spD C d b)) : Ev K c (tFld K ta "space") ρ Q :=
  ev_fld S.cl S.space (h.imp fun x ⟨d, b, row, e, q⟩ => ⟨_, _, e, rfl, q⟩)
theorem ev_crow (S : CloudF K Cc) (h : Ev K c ta ρ fun x => ∃ d b row, x = clD Cc C d b row ∧ Q (.tup (row.map natD))) : Ev K c (tFld K ta "row") ρ Q :=
  ev_fld S.cl S.row (h.imp fun x ⟨d, b, row, e, q⟩ => ⟨_, _, e, rfl, q⟩)
theorem put_row {x y : DV} : putD "row" y [("space", x)] = ([("space", x), ("row", y)] : List (Str × DV)) := by
  rw [putD_ne (by decide +kernel)]
  rfl
/-- the numbers of a space's points, ascending -/
def OkR (d b : Nat) (row : List Nat) : Prop := row.Pairwise (· < ·) ∧ (∀ n ∈ row, n < 2 ^ (d * b)) ∧ row.length < 64
def fPoints (C Cc : Addr) : Cfg → List DV → (DV → Prop) → Prop := fun _ ds P => ∃ (d b : Nat) (row : List Nat), ds = [clD Cc C d b row] ∧ OkS d b ∧ OkR d b row ∧ P (.tup ((row.map (GM.pointOf d b)).map pointD))
def fMany (C Cc : Addr) : Cfg → List DV → (DV → Prop) → Prop := fun _ ds P => ∃ (d b : Nat) (row : List Nat), ds = [clD Cc C d b row] ∧ P (natD row.length)
def fCount (C Cc : Addr) : Cfg → List DV → (DV → Prop) → Prop := fun _ ds P => ∃ (d b : Nat) (row : List Nat) (l k : Nat), ds = [clD Cc C d b row, .tup [natD l, natD k]] ∧ OkS d b ∧ OkR d b row ∧ l ≤ d * b ∧ k < 2 ^ l ∧ P (natD (row.countP fun n => n / 2 ^ (d * b - l) = k))
theorem ok_Cloud_many {P : Program} {w : World} {K : PySem.W.Frag} {mg : Str → Option Value} {base : Heap} {C Cc Cb Ce fI f : Addr} {fd : FuncData} (F : Fun K "many" "Cloud.many" s_Cloud_many f fd) (T : Tx K mg C Cc Cb Ce fI) : FnOk P w K mg base CX0 1 f fd ["self"] (SpD K (fMany C Cc)) := by
  refine fn_pure F sc_Cloud_many (by walk_at "len") (fun cdv A outer s H E hr => ⟨_, (pss_one (ps_ret (pe_callB (x_len K) (by rfl) T.n_len PySem.boot_len (pa_cons (x_fld K (pv 0) rfl) pa_nil)))), fun c Fr ds P h => ?_⟩)
  try dsimp only [cxOf]
  have S := T.S_Cloud
  obtain ⟨d, b, row, rfl, k⟩ := h
  refine (show Sx K _ (fun _ => False) _ _ _ [_] _ from ?_)
  refine sx_ret (ev_cb (ea_cons (ev_crow (C := C) S (ev_var rfl ⟨d, b, row, rfl, ea_nil (rva_len (.inr rfl) ?_)⟩))))
  rw [List.length_map]
  exact k
theorem ok_Cloud_points {P : Program} {w : World} {K : PySem.W.Frag} {mg : Str → Option Value} {base : Heap} {C Cc Cb Ce fI f : Addr} {fd : FuncData} (F : Fun K "points" "Cloud.points" s_Cloud_points f fd) (T : Tx K mg C Cc Cb Ce fI) (C_Space_point_of : Met P w K mg base 1 C "point_of" (SpD K (fPointOf C))) : FnOk P w K mg base CX0 2 f fd ["self"] (SpD K (fPoints C Cc)) := by
  refine fn_pure F sc_Cloud_points (by walk_at "len") (fun cdv A outer s H E hr => ⟨_, (pss_one (ps_ret (pe_callTy (x_tupOf K) (by rfl) T.n_tuple (by decide +kernel) (pa_cons (pe_lc (own := [("number", 1)]) (tt := tYes) rfl sc_Cloud_points.nd (x_tup K (x_fld K (pv 0) rfl)) (blkOk_by (N := N_Cloud_points) (sc := defScope s_Cloud_points) (by decide +kernel)) (fun _ _ _ _ _ => (pg_name (i := 1) sc_Cloud_points.nd rfl (.inl rfl))) (fun _ _ _ _ _ => pts_nil) (fun _ _ _ _ _ => (pe_met C_Space_point_of hr (by decide) (x_fld K (pv 0) rfl) (pa_cons (pv 1) pa_nil)))) pa_nil)))), fun c Fr ds P h => ?_⟩)
  try dsimp only [cxOf]
  have S := T.S_Cloud
  obtain ⟨d, b, row, rfl, hs, ⟨_, _, hl⟩, k⟩ := h
  refine (show Sx K _ (fun _ => False) _ _ _ [_, .non] _ from ?_)
  refine sx_ret (ev_cb (ea_cons (ev_en (en_lcMap (own_name (by decide)) (ei_tup (ev_crow (C := C) S (ev_var rfl ⟨d, b, row, rfl, _, rfl, ?_⟩)))))))
  refine ⟨by rw [List.length_map]; omega, fun x => match x with | .int z => pointD (GM.pointOf d b z.toNat) | _ => .non, fun x hx => ?_, ?_⟩
  · obtain ⟨n, _, rfl⟩ := List.mem_map.mp hx
    refine eg_name ?_
    dsimp only [List.set, wipeR]
    refine ev_meth (ev_cspace (C := C) S (ev_var rfl ⟨d, b, row, rfl, _, rfl, rfl, ea_cons (ev_var rfl (ea_nil ⟨d, b, n, rfl, hs, rfl⟩))⟩))
  · refine ⟨_, rfl, ea_nil (rva_tuple (.inl rfl) ?_)⟩
    rw [List.map_map] at k ⊢
    exact k
theorem below_le {row : List Nat} {x y : Nat} (h : x ≤ y) : below row y - below row x = row.countP fun n => decide (x ≤ n) && decide (n < y) := by
  unfold below
  induction row with
  | nil => rfl
  | cons n row ih =>
    have hle : row.countP (· < x) ≤ row.countP (· < y) := List.countP_mono_left fun n _ hn => by
      have := of_decide_eq_true hn
      exact decide_eq_true (by omega)
    simp only [List.countP_cons]
    by_cases h1 : n < x
    · have h2 : n < y := by omega
      simp [h1, h2, show ¬ x ≤ n by omega]
      omega
    · by_cases h2 : n < y
      · simp [h1, h2, show x ≤ n by omega]
        omega
      · simp [h1, h2]
        omega
theorem nat64 {n : Nat} (h : n < 2 ^ 64) : -(2 ^ 64 : Int) < (n : Int) ∧ (n : Int) < 2 ^ 64 := by omega
theorem below_mono {row : List Nat} {x y : Nat} (h : x ≤ y) : below row x ≤ below row y := List.countP_mono_left fun n _ hn => by
  have := of_decide_eq_true hn
  exact decide_eq_true (by omega)
theorem ok_Cloud_count {P : Program} {w : World} {K : PySem.W.Frag} {mg : Str → Option Value} {base : Heap} {C Cc Cb Ce fI f : Addr} {fd : FuncData} (F : Fun K "count" "Cloud.count" s_Cloud_count f fd) (T : Tx K mg C Cc Cb Ce fI) (C_Space_size : Met P w K mg base 3 C "size" (SpD K (fSize C))) (C_place_in : Cal P w K mg base 1 "place_in" (SpD K (fPlace))) : FnOk P w K mg base CX0 4 f fd ["self", "prefix"] (SpD K (fCount C Cc)) := by
  refine fn_pure F sc_Cloud_count (by walk_at "len") (fun cdv A outer s H E hr => ⟨_, (pss_cons (ps_set (i := 2) sc_Cloud_count.nd rfl (.inl rfl) (pe_met C_Space_size hr (by decide) (x_fld K (pv 0) rfl) (pa_cons (pv 1) pa_nil)))
    (pss_cons (ps_set (i := 3) sc_Cloud_count.nd rfl (.inl rfl) (pe_op op_mul (pe_ix (x_ixT K) (pv 1) pe_int (fun _ _ => rfl)) (pv 2)))
    (pss_one (ps_ret (pe_op op_sub (pe_cal C_place_in hr (by decide) (by rfl) (pa_cons (x_fld K (pv 0) rfl) (pa_cons (pe_op op_add (pv 3) (pv 2)) pa_nil))) (pe_cal C_place_in hr (by decide) (by rfl) (pa_cons (x_fld K (pv 0) rfl) (pa_cons (pv 3) pa_nil)))))))), fun c Fr ds P h => ?_⟩)
  try dsimp only [cxOf]
  have S := T.S_Cloud
  obtain ⟨d, b, row, l, x, rfl, hs, ⟨asc, hr, hz⟩, hl, hx, k⟩ := h
  have hs' := hs
  obtain ⟨⟨d1, d2⟩, b1, b2⟩ := hs'
  have hD : d * b ≤ 3 * 10 := Nat.mul_le_mul d2 b2
  refine (show Sx K _ (fun _ => False) _ _ _ [_, _, .non, .non] _ from ?_)
  refine sx_seq (sx_asg (ev_meth (ev_cspace (C := C) S (ev_var rfl ⟨d, b, row, rfl, _, rfl, rfl, ea_cons (ev_var rfl (ea_nil ⟨d, b, l, x, rfl, hs, hl, eg_name ?_⟩))⟩))))
  dsimp only [List.set]
  have h64 : (2 ^ (d * b - l) : Nat) < 2 ^ 64 := Nat.pow_lt_pow_right (by decide) (by omega)
  refine sx_seq (sx_asg (ev_op (ev_op (ev_var rfl (ev_int (rv_ixT (j := 1) rfl (ev_var rfl (rv_Ii (.inr (nat64 h64)) (eg_name ?_)))))))))
  dsimp only [List.set]
  rw [← Int.natCast_mul]
  refine sx_ret (ev_op (ev_call (ea_cons (ev_crow (C := C) S (ev_var rfl ⟨d, b, row, rfl, ea_cons (ev_op (ev_var rfl (ev_var rfl (rv_I0i (ea_nil ⟨row, x * 2 ^ (d * b - l) + 2 ^ (d * b - l), by push_cast; rfl, asc, by omega, ?_⟩)))))⟩)))))
  refine ev_call (ea_cons (ev_crow (C := C) S (ev_var rfl ⟨d, b, row, rfl, ea_cons (ev_var rfl (ea_nil ⟨row, x * 2 ^ (d * b - l), rfl, asc, by omega, rv_I0i ?_⟩))⟩)))
  rw [← Int.ofNat_sub (below_mono (Nat.le_add_right _ _)), below_le (Nat.le_add_right _ _)]
  have e : (fun n => decide (n / 2 ^ (d * b - l) = x)) = fun n => decide (x * 2 ^ (d * b - l) ≤ n) && decide (n < x * 2 ^ (d * b - l) + 2 ^ (d * b - l)) := by
    funext n
    have hp : 0 < 2 ^ (d * b - l) := Nat.pow_pos (by decide)
    rw [Bool.eq_iff_iff, decide_eq_true_iff, Bool.and_eq_true, decide_eq_true_iff, decide_eq_true_iff]
    rw [← Nat.le_div_iff_mul_le hp, show x * 2 ^ (d * b - l) + 2 ^ (d * b - l) = (x + 1) * 2 ^ (d * b - l) by rw [Nat.add_mul, Nat.one_mul], ← Nat.div_lt_iff_lt_mul hp]
    omega
  rw [e] at k
  exact k
end

-- @FILE K60d
/-! ## clouds with their errors -/
section
variable {P : Program} {w : World} {K : PySem.W.Frag} {mg : Str → Option Value} {base : Heap} {C Ce fI : Addr}
/-- the first one of some things that is no point or stands there twice -/
def FirstBad (d b : Nat) (xs : List DV) (y : DV) : Prop := ∃ (ps : List (List Nat)) (r : List DV), xs = ps.map pointD ++ y :: r ∧ (∀ p ∈ ps, OkP d b p) ∧ ps.Nodup ∧ (NoP d b y ∨ ∃ p ∈ ps, y = pointD p)
def fRowOfE (C : Addr) : Cfg → List DV → (DV → Prop) → (DV → Prop) → Prop := fun _ ds P X => ∃ (d b : Nat) (x : DV) (xs : List DV), ds = [spD C d b, x] ∧ OkS d b ∧ (x = .lst xs ∨ x = .tup xs) ∧ xs.length < 64 ∧
  ((∃ ps, xs = ps.map pointD ∧ (∀ p ∈ ps, OkP d b p) ∧ ps.Nodup ∧ ∀ row, RowOf d b ps row → P (.tup (row.map natD))) ∨ ∃ y, FirstBad d b xs y ∧ X y)
theorem ok__row_of {P : Program} {w : World} {K : PySem.W.Frag} {mg : Str → Option Value} {base : Heap} {C Cc Cb Ce fI f : Addr} {fd : FuncData} (F : Fun K "_row_of" "_row_of" s__row_of f fd) (T : Tx K mg C Cc Cb Ce fI) (C_Space_woven : MetE P w K mg base 3 C "woven" (SpE K Ce "point" (fWovenE C))) : FnOk P w K mg base (L2.CX P w) 4 f fd ["space", "points"] (SpE K Ce "point" (fRowOfE C)) := by
  refine fn_exc F sc__row_of (by walk_at "len") (fun cdv A outer s H E hr => ⟨_, (pss_cons (ps_set (i := 2) sc__row_of.nd rfl (.inl rfl) (pe_callTy0 (x_set0 w) (by rfl) T.n_set (by decide +kernel)))
    (pss_cons (ps_for (passes_of rfl) rfl (x_row K (pv 1)) (pg_name (i := 3) sc__row_of.nd rfl (.inl rfl)) (pss_cons (ps_set (i := 4) sc__row_of.nd rfl (.inl rfl) (pe_metE C_Space_woven hr (by decide) (fun _ _ _ _ e s' I cx => takes_of rfl rfl rfl rfl e s' (XE.of_call I (fun _ _ _ h => h) cx)) (pv 0) (pa_cons (pv 3) pa_nil)))
    (pss_cons (ps_if (pt_cmpR (x_sin w) (pv 4) (pv 2) rfl) (pss_one (ps_raiseBadPoint rfl T.TB_BadPoint hr (takes_of rfl rfl rfl rfl) (pa_cons (pv 3) pa_nil))) pss_nil)
    (pss_one (ps_expr (pe_sadd (pv 2) (pa_cons (pv 4) pa_nil)))))))
    (PSs.nox (pss_one (ps_ret (pe_callTy (x_tupOf K) (by rfl) T.n_tuple (by decide +kernel) (pa_cons (pe_callB (x_sortedSet w rfl) (by rfl) T.n_sorted (by decide +kernel) (pa_cons (pv 2) pa_nil)) pa_nil))))))), fun c Fr ds P X h hw => ?_⟩)
  try dsimp only [cxOf]
  have S := T.S_Space
  obtain ⟨d, b, x, xs, rfl, hs, hx, hz, h⟩ := h
  refine (show Sx K _ (fun _ => False) _ _ _ [_, _, .non, .non, .non] _ from ?_)
  obtain ⟨ps, rest, exs, hp, nd, hend⟩ : ∃ (ps : List (List Nat)) (rest : List DV), xs = ps.map pointD ++ rest ∧ (∀ p ∈ ps, OkP d b p) ∧ ps.Nodup ∧ ((rest = [] ∧ ∀ row, RowOf d b ps row → P (.tup (row.map natD))) ∨ ∃ y r, rest = y :: r ∧ X y ∧ (NoP d b y ∨ ∃ p ∈ ps, y = pointD p)) := by
    rcases h with ⟨ps, e, h1, h2, h3⟩ | ⟨y, ⟨ps, r, e, h1, h2, h3⟩, hX⟩
    · exact ⟨ps, [], by rw [e, List.append_nil], h1, h2, .inl ⟨rfl, h3⟩⟩
    · exact ⟨ps, y :: r, e, h1, h2, .inr ⟨y, r, rfl, hX, h3⟩⟩
  have hl : ps.length < 64 := by
    rw [exs, List.length_append, List.length_map] at hz
    omega
  refine sx_seq (sx_set0 fun a0 => ?_)
  dsimp only [List.set]
  refine sx_seq (sx_for (ei_row (ev_var rfl ⟨_, hx, ?_⟩)))
  refine ⟨fun i ρ' => i ≤ ps.length ∧ ∃ (a : Addr) (m : Int → Bool) (y z : SV), ρ' = [.d (spD C d b), .d x, .own (.st w a m i), y, z] ∧ ∀ k : Int, m k = true ↔ ∃ p ∈ ps.take i, ((GM.weave d b p : Nat) : Int) = k, ⟨Nat.zero_le _, a0, _, .non, .non, rfl, fun k => by simp⟩, ?_, ?_⟩
  · rintro i y ρ' hy ⟨hi, a, m, z1, z2, rfl, hm⟩
    refine eg_name ?_
    dsimp only [List.set]
    by_cases hlt : i < ps.length
    · have e : ps[i]? = some ps[i] := List.getElem?_eq_getElem hlt
      generalize ps[i] = p at e
      have ey : y = pointD p := by
        rw [exs, List.getElem?_append_left (by rw [List.length_map]; exact hlt), List.getElem?_map, e] at hy
        exact (Option.some.inj hy).symm
      subst ey
      have hpo := hp p (List.mem_of_getElem? e)
      refine sx_seq (sxs_asg (es_meth (hw _) (ev_var rfl ⟨_, rfl, rfl, ea_cons (ev_var rfl (ea_nil ⟨d, b, _, rfl, hs, .inl ⟨p, rfl, hpo, eg_name ?_⟩⟩))⟩)))
      dsimp only [List.set]
      have hnew : m ((GM.weave d b p : Nat) : Int) = false := by
        cases q : m ((GM.weave d b p : Nat) : Int) with
        | false => rfl
        | true =>
          obtain ⟨p2, h2, e2⟩ := (hm _).mp q
          have e3 : p2 = p := weave_inj (hp p2 (List.mem_of_mem_take h2)) hpo (by omega)
          subst e3
          obtain ⟨j, hj⟩ := List.mem_iff_getElem?.mp h2
          have hji : j < i := by
            have := (List.getElem?_eq_some_iff.mp hj).1
            rw [List.length_take] at this
            omega
          rw [List.getElem?_take_of_lt hji] at hj
          obtain ⟨l5, e5⟩ := List.getElem?_eq_some_iff.mp hj
          obtain ⟨l6, e6⟩ := List.getElem?_eq_some_iff.mp e
          exact absurd (e5.trans e6.symm) (List.pairwise_iff_getElem.mp nd j i l5 l6 hji)
      refine sx_guardq (et_test (ev_inSet (w := w) (i := 2) rfl (ev_var rfl ⟨_, rfl, _, rfl, hnew⟩))) ?_
      refine sx_sadd (w := w) (i := 2) rfl (ev_var rfl ⟨_, rfl, Nat.lt_of_le_of_lt (show i + 1 ≤ 64 by omega) (by decide), ?_⟩)
      dsimp only [List.set]
      rw [hnew, if_neg Bool.false_ne_true]
      refine ⟨hlt, a, _, _, _, rfl, fun k => ?_⟩
      rw [Bool.or_eq_true, hm, decide_eq_true_iff, List.take_add_one, e]
      constructor
      · rintro (⟨p2, h2, e2⟩ | rfl)
        · exact ⟨p2, List.mem_append_left _ h2, e2⟩
        · exact ⟨p, List.mem_append_right _ (List.mem_singleton_self p), rfl⟩
      · rintro ⟨p2, h2, e2⟩
        rcases List.mem_append.mp h2 with h2 | h2
        · exact .inl ⟨p2, h2, e2⟩
        · cases List.mem_singleton.mp h2
          exact .inr e2.symm
    · have ei : i = ps.length := by omega
      subst ei
      rw [exs, List.getElem?_append_right (by rw [List.length_map]; exact Nat.le_refl _), List.length_map, Nat.sub_self] at hy
      rcases hend with ⟨rfl, _⟩ | ⟨y', r, rfl, hX, hbad⟩
      · cases hy
      · cases hy
        rcases hbad with hno | ⟨p, hpm, rfl⟩
        · exact sx_seq (sxs_asg (es_meth (hw _) (ev_var rfl ⟨_, rfl, rfl, ea_cons (ev_var rfl (ea_nil ⟨d, b, _, rfl, hs, .inr ⟨hno, hX⟩⟩))⟩)))
        · refine sx_seq (sxs_asg (es_meth (hw _) (ev_var rfl ⟨_, rfl, rfl, ea_cons (ev_var rfl (ea_nil ⟨d, b, _, rfl, hs, .inl ⟨p, rfl, hp p hpm, eg_name ?_⟩⟩))⟩)))
          dsimp only [List.set]
          have hold : m ((GM.weave d b p : Nat) : Int) = true := (hm _).mpr ⟨p, by rw [List.take_length]; exact hpm, rfl⟩
          refine sx_seq (sx_if (et_test (ev_inSet (w := w) (i := 2) rfl (ev_var rfl ⟨_, rfl, _, rfl, ?_⟩))))
          rw [hold, if_pos rfl]
          exact sx_raise (hw _) (ev_var rfl hX)
  · rintro ρ' ⟨hi, a, m, z1, z2, rfl, hm⟩
    rcases hend with ⟨rfl, k⟩ | ⟨y', r, rfl, _, _⟩
    · rw [List.append_nil] at exs
      have exl : xs.length = ps.length := by rw [exs, List.length_map]
      have all : ps.take xs.length = ps := by rw [exl, List.take_length]
      rw [all] at hm
      refine sx_ret (ev_cb (ea_cons (ev_sortedSet (w := w) (i := 2) rfl hz fun ns h1 h2 h3 => ea_nil (rva_tuple (.inl rfl) ?_))))
      obtain ⟨row, e1, e2, e3, e4⟩ := nats_of (ns := ns) (fun k hk => by
        obtain ⟨p, _, e⟩ := (hm k).mp ((h2 k).mp hk)
        omega) h1
      rw [e1]
      refine k row ⟨e2, fun n => ?_, by rw [e4, h3, exl]⟩
      rw [e3, h2, hm]
      constructor
      · rintro ⟨p, h, e⟩
        exact ⟨p, h, by omega⟩
      · rintro ⟨p, h, e⟩
        exact ⟨p, h, by omega⟩
    · rw [exs, List.length_append, List.length_map, List.length_cons] at hi
      omega
def gCloudE (C : Addr) : Cfg → List DV → (List (Str × DV) → Prop) → (DV → Prop) → Prop := fun _ ds P X => ∃ (d b : Nat) (x : DV) (xs : List DV), ds = [spD C d b, x] ∧ OkS d b ∧ (x = .lst xs ∨ x = .tup xs) ∧ xs.length < 64 ∧
  ((∃ ps, xs = ps.map pointD ∧ (∀ p ∈ ps, OkP d b p) ∧ ps.Nodup ∧ ∀ row, RowOf d b ps row → P [("space", spD C d b), ("row", .tup (row.map natD))]) ∨ ∃ y, FirstBad d b xs y ∧ X y)
theorem ok_Cloud___init__ {P : Program} {w : World} {K : PySem.W.Frag} {mg : Str → Option Value} {base : Heap} {C Cc Cb Ce fI f : Addr} {fd : FuncData} (F : Fun K "__init__" "Cloud.__init__" s_Cloud___init__ f fd) (T : Tx K mg C Cc Cb Ce fI) (C__row_of : CalE P w K mg base 4 "_row_of" (SpE K Ce "point" (fRowOfE C))) : FnOk P w K mg base (L2.CX P w) 5 f fd ["self", "space", "points"] (SpIE K Cc Ce "point" (gCloudE C)) := by
  refine fn_initE F sc_Cloud___init__ (by walk_at "len") (fun cdv A outer s H E hr => ⟨_, (pss_cons (ps_fld (pv 0) (pv 1) rfl)
    (pss_cons (ps_fld (pv 0) (pe_calE C__row_of hr (by decide) (by rfl) (fun _ _ _ _ e s' I cx => takes_of rfl rfl rfl rfl e s' (XE.of_call I (fun _ _ _ h => h) cx)) (pa_cons (pv 1) (pa_cons (pv 2) pa_nil))) rfl)
    pss_nil)), fun c Fr a ds P X h hw => ?_⟩)
  try dsimp only [cxOf]
  have S := T.S_Cloud
  obtain ⟨d, b, x, xs, rfl, hs, hx, hz, h⟩ := h
  try dsimp only [cxOf]
  refine (show Sx K _ (fun z => z = a) _ _ _ [.own (.obj a Cc []), .d (spD C d b), .d x] _ from ?_)
  refine sx_seq (sx_fld (C := Cc) (a := a) (fs := []) rfl S.cl S.space (by decide) (ev_var rfl ?_))
  show Sx K _ (fun z => z = a) _ _ _ [.own (.obj a Cc [("space", spD C d b)]), .d (spD C d b), .d x] _
  refine sxs_fld (D := Cc) (a := a) (fs := [("space", spD C d b)]) rfl S.cl S.row (by simp) (es_call (hw _) (ea_cons (ev_var rfl (ea_cons (ev_var rfl (ea_nil ⟨d, b, x, xs, rfl, hs, hx, hz, ?_⟩))))))
  rcases h with ⟨ps, e, h1, h2, k⟩ | h
  · refine .inl ⟨ps, e, h1, h2, fun row hr => ?_⟩
    dsimp only [List.set]
    rw [put_row]
    exact ⟨_, k row hr, rfl⟩
  · exact .inr h
end

-- @FILE K60e
theorem natD_inj : ∀ {p q : List Nat}, p.map natD = q.map natD → p = q
  | [], [], _ => rfl
  | [], _ :: _, h => nomatch h
  | _ :: _, [], h => nomatch h
  | x :: p, y :: q, h => by
    obtain ⟨h1, h2⟩ := List.cons.inj h
    rw [natD_inj h2, Int.ofNat.inj (DV.int.inj h1)]
theorem okD_nats (n : Nat) (p : List Nat) : (p.map natD).all (okD n) = true := by
  rw [List.all_eq_true]
  intro x hx
  obtain ⟨i, _, rfl⟩ := List.mem_map.mp hx
  cases n <;> rfl
theorem okD_row (n : Nat) (p : List Nat) : okD (n + 1) (.tup (p.map natD)) = true := okD_nats n p

/-! ## the law's draws -/

abbrev s__law_number : Stmt := topS 23
abbrev N__law_number : List Str := ["script", "index", "cell", "blend"]
theorem sc__law_number : FnScope N__law_number ["script", "index"] (defScope s__law_number) := ⟨rfl, rfl, rfl, by decide +kernel, rfl, by decide +kernel, by decide +kernel⟩
abbrev s__law_take : Stmt := topS 24
abbrev N__law_take : List Str := ["draw", "many"]
theorem sc__law_take : FnScope N__law_take ["draw", "many"] (defScope s__law_take) := ⟨rfl, rfl, rfl, by decide +kernel, rfl, by decide +kernel, by decide +kernel⟩
def fNumber (K : PySem.W.Frag) : Cfg → List DV → (DV → Prop) → Prop := fun c ds P => ∃ (d s : Addr) (ns : List Int) (tr : Bool) (i : Int), c = drawC K d s ns tr ∧ ds = [.adr s, .int i] ∧ ∀ r : Nat, P (natD r)
def fTake (K : PySem.W.Frag) : Cfg → List DV → (DV → Prop) → Prop := fun c ds P => ∃ (d s : Addr) (ns : List Int) (tr : Bool) (m : Int), c = drawC K d s ns tr ∧ ds = [.adr d, .int m] ∧ 0 < m ∧ ∀ r : Nat, (r : Int) < m → P (natD r)
section
variable {P : Program} {w : World} {K : PySem.W.Frag} {mg : Str → Option Value} {base : Heap}
theorem nat_mod (x m : Int) (h : 0 < m) : ∃ r : Nat, x % m = (r : Int) ∧ (r : Int) < m := by
  have h1 := Int.emod_nonneg x (show m ≠ 0 by omega)
  have h2 := Int.emod_lt_of_pos x h
  exact ⟨(x % m).toNat, by omega, by omega⟩
theorem ok__law_number {P : Program} {w : World} {K : PySem.W.Frag} {mg : Str → Option Value} {base : Heap} {C Cc Cb Ce fI f : Addr} {fd : FuncData} (F : Fun K "_law_number" "_law_number" s__law_number f fd) (T : Tx K mg C Cc Cb Ce fI) : FnOk P w K mg base CX0 1 f fd ["script", "index"] (SpD K (fNumber K)) := by
  refine fn_pure F sc__law_number (by walk_at "len") (fun cdv A outer s H E hr => ⟨_, (pss_cons (ps_if (pt_cmpR (x_eqD K (hu64 hr)) (pv 0) (pe_lst pa_nil) (nomark _)) (pss_one (ps_ret (pe_callTy x_int1 (by rfl) T.n_int (by decide +kernel) (pa_cons (pe_op op_mod (pe_op op_add (pe_op op_mul (pv 1) pe_int) pe_int) pe_int) pa_nil)))) pss_nil)
    (pss_cons (ps_set (i := 2) sc__law_number.nd rfl (.inl rfl) (pe_ix (x_ixA K) (pv 0) (pe_op op_mod (pv 1) (pe_callB (x_len K) (by rfl) T.n_len PySem.boot_len (pa_cons (pv 0) pa_nil))) (fun _ _ => rfl)))
    (pss_cons (ps_if (pt_cmpR op_ge (pe_callB x_abs (by rfl) T.n_abs (by decide +kernel) (pa_cons (pv 2) pa_nil)) (pe_op op_pow pe_int pe_int) (nomark _)) (pss_one (ps_set (i := 2) sc__law_number.nd rfl (.inl rfl) (pe_op op_mod (pv 2) (pe_op op_pow pe_int pe_int)))) pss_nil)
    (pss_cons (ps_set (i := 3) sc__law_number.nd rfl (.inl rfl) (pe_op op_mod (pe_op op_add (pe_op op_mul (pe_op op_add (pv 2) (pe_op op_mul pe_int (pv 1))) pe_int) (pe_op op_mul pe_int (pe_callB (x_len K) (by rfl) T.n_len PySem.boot_len (pa_cons (pv 0) pa_nil)))) pe_int))
    (pss_one (ps_ret (pe_callTy x_int1 (by rfl) T.n_int (by decide +kernel) (pa_cons (pe_op op_mod (pe_op op_add (pe_op op_mul (pe_op op_mod (pe_op op_mul (pv 3) pe_int) pe_int) pe_int) (pv 1)) pe_int) pa_nil)))))))), fun c Fr ds P h => ?_⟩)
  try dsimp only [cxOf]
  obtain ⟨d, s, ns, tr, i, rfl, rfl, p⟩ := h
  refine (show Sx K _ (fun _ => False) _ _ _ [_, _, .non, .non] _ from ?_)
  walk_at "vls"
  refine rv_eqS ?_
  walk_at "vls"
  by_cases h0 : ns = []
  · rw [if_pos (decide_eq_true h0)]
    walk_at "vls"
    obtain ⟨r, hr1, hr2⟩ := nat_mod (i * 48271 + 12345) 2147483647 (by decide)
    rw [hr1]
    exact p r
  · rw [if_neg (by rw [decide_eq_false h0]; exact Bool.false_ne_true)]
    have hl : 0 < ns.length := (by cases ns with | nil => exact absurd rfl h0 | cons _ _ => exact Nat.succ_pos _)
    walk_at "vls"
    refine rva_lenS ?_
    walk_at "vls"
    obtain ⟨j, hj1, hj2⟩ := nat_mod i (ns.length : Int) (by omega)
    rw [hj1]
    refine rv_ixA_L (rv_script (by omega) hj2 fun cell => eg_name ?_)
    dsimp only [List.set]
    refine sx_mid (fun ρ' => ∃ z : Int, ρ' = [.d (.adr s), .d (.int i), .d (.int z), .non]) ?_ ?_
    · walk_at "vls"
      refine if_b (fun _ => ?_) (fun _ => ?_)
      · walk_at "vls"
        exact ⟨_, rfl⟩
      · walk_at "vls"
        exact ⟨_, rfl⟩
    · rintro ρ' ⟨z, rfl⟩
      walk_at "vls"
      refine rva_lenS ?_
      walk_at "vls"
      obtain ⟨g, hg1, hg2⟩ := nat_mod (((z + 977 * i) * 48271 + 31 * (ns.length : Int)) % 2147483647 * 69621 % 2147483629 * 16807 + i) 2147483587 (by decide)
      rw [hg1]
      exact p g
theorem ok__law_take {P : Program} {w : World} {K : PySem.W.Frag} {mg : Str → Option Value} {base : Heap} {C Cc Cb Ce fI f : Addr} {fd : FuncData} (F : Fun K "_law_take" "_law_take" s__law_take f fd) (T : Tx K mg C Cc Cb Ce fI) (C__law_number : Cal P w K mg base 1 "_law_number" (SpD K (fNumber K))) : FnOk P w K mg base CX0 2 f fd ["draw", "many"] (SpD K (fTake K)) := by
  refine fn_pure F sc__law_take (by walk_at "len") (fun cdv A outer s H E hr => ⟨_, (pss_cons (ps_augS (pv 0) pe_int get_list pe_int ip_add set_list)
    (pss_one (ps_ret (pe_op op_mod (pe_callTy x_int1 (by rfl) T.n_int (by decide +kernel) (pa_cons (pe_cal C__law_number hr (by decide) (by rfl) (pa_cons (pe_ix (x_ixA K) (pv 0) pe_int (fun _ _ => rfl)) (pa_cons (pe_callTy x_int1 (by rfl) T.n_int (by decide +kernel) (pa_cons (pe_ix (x_ixA K) (pv 0) pe_int (fun _ _ => rfl)) pa_nil)) pa_nil))) pa_nil)) (pv 1))))), fun c Fr ds P h => ?_⟩)
  try dsimp only [cxOf]
  obtain ⟨d, s, ns, tr, m, rfl, rfl, hm, p⟩ := h
  refine (show Sx K _ (fun _ => False) _ _ _ [_, _] _ from ?_)
  refine sx_seq (sx_draw rfl ?_)
  walk_at "vls"
  refine rv_ixA_L (rv_draw0 ?_)
  walk_at "vls"
  refine rv_ixA_L (rv_draw1 fun n => ?_)
  walk_at "vls"
  refine ⟨d, s, ns, tr, n, rfl, rfl, fun r => ?_⟩
  walk_at "vls"
  obtain ⟨g, hg1, hg2⟩ := nat_mod (r : Int) m hm
  rw [hg1]
  exact p g hg2
end

/-! ## the law's further draws -/




abbrev s__law_power : Stmt := topS 27
abbrev N__law_power : List Str := ["times", "found", "turn"]
theorem sc__law_power : FnScope N__law_power ["times"] (defScope s__law_power) := ⟨rfl, rfl, rfl, by decide +kernel, rfl, by decide +kernel, by decide +kernel⟩
abbrev s__law_pick : Stmt := topS 25
abbrev N__law_pick : List Str := ["draw", "items"]
theorem sc__law_pick : FnScope N__law_pick ["draw", "items"] (defScope s__law_pick) := ⟨rfl, rfl, rfl, by decide +kernel, rfl, by decide +kernel, by decide +kernel⟩
abbrev s__law_space : Stmt := topS 28
abbrev N__law_space : List Str := ["draw", "most", "bits", "found", "dimensions"]
theorem sc__law_space : FnScope N__law_space ["draw", "most"] (defScope s__law_space) := ⟨rfl, rfl, rfl, by decide +kernel, rfl, by decide +kernel, by decide +kernel⟩
abbrev s__law_point : Stmt := topS 29
abbrev N__law_point : List Str := ["draw", "space", "axis"]
theorem sc__law_point : FnScope N__law_point ["draw", "space"] (defScope s__law_point) := ⟨rfl, rfl, rfl, by decide +kernel, rfl, by decide +kernel, by decide +kernel⟩
abbrev s__law_points : Stmt := topS 30
abbrev N__law_points : List Str := ["draw", "space", "most", "found", "turn", "point"]
theorem sc__law_points : FnScope N__law_points ["draw", "space", "most"] (defScope s__law_points) := ⟨rfl, rfl, rfl, by decide +kernel, rfl, by decide +kernel, by decide +kernel⟩
abbrev s__law_cloud : Stmt := topS 31
abbrev N__law_cloud : List Str := ["draw", "space", "most"]
theorem sc__law_cloud : FnScope N__law_cloud ["draw", "space", "most"] (defScope s__law_cloud) := ⟨rfl, rfl, rfl, by decide +kernel, rfl, by decide +kernel, by decide +kernel⟩
def fLawPower : Cfg → List DV → (DV → Prop) → Prop := fun _ ds P => ∃ n : Nat, ds = [natD n] ∧ n ≤ 60 ∧ P (natD (2 ^ n))
def fPick (K : PySem.W.Frag) : Cfg → List DV → (DV → Prop) → Prop := fun c ds P => ∃ (d s : Addr) (ns : List Int) (tr : Bool) (xs : List DV), c = drawC K d s ns tr ∧ ds = [.adr d, .lst xs] ∧ xs ≠ [] ∧ ∀ x ∈ xs, P x
/-- a space of at most so many bits a point -/
def fSpace (K : PySem.W.Frag) (C : Addr) : Cfg → List DV → (DV → Prop) → Prop := fun c ds P => ∃ (dr s : Addr) (ns : List Int) (tr : Bool) (most : Nat), c = drawC K dr s ns tr ∧ ds = [.adr dr, natD most] ∧ 1 ≤ most ∧ most ≤ 20 ∧ ∀ d b, OkS d b → d * b ≤ most → P (spD C d b)
def fPoint (K : PySem.W.Frag) (C : Addr) : Cfg → List DV → (DV → Prop) → Prop := fun c ds P => ∃ (dr s : Addr) (ns : List Int) (tr : Bool) (d b : Nat), c = drawC K dr s ns tr ∧ ds = [.adr dr, spD C d b] ∧ OkS d b ∧ ∀ p, OkP d b p → P (pointD p)
def fPts (K : PySem.W.Frag) (C : Addr) : Cfg → List DV → (DV → Prop) → Prop := fun c ds P => ∃ (dr s : Addr) (ns : List Int) (tr : Bool) (d b most : Nat), c = drawC K dr s ns tr ∧ ds = [.adr dr, spD C d b, natD most] ∧ OkS d b ∧ most < 60 ∧
  ∀ ps : List (List Nat), (∀ p ∈ ps, OkP d b p) → ps.Nodup → ps.length ≤ most → P (.lst (ps.map pointD))
def fLawCloud (K : PySem.W.Frag) (C Cc : Addr) : Cfg → List DV → (DV → Prop) → Prop := fun c ds P => ∃ (dr s : Addr) (ns : List Int) (tr : Bool) (d b most : Nat), c = drawC K dr s ns tr ∧ ds = [.adr dr, spD C d b, natD most] ∧ OkS d b ∧ most < 60 ∧
  ∀ (ps : List (List Nat)) (row : List Nat), (∀ p ∈ ps, OkP d b p) → ps.Nodup → ps.length ≤ most → RowOf d b ps row → P (clD Cc C d b row)
section
variable {P : Program} {w : World} {K : PySem.W.Frag} {mg : Str → Option Value} {base : Heap} {C Cc : Addr}
/- slots of _law_power: [(0, 'times'), (1, 'found'), (2, 'turn')] -/
theorem ok__law_power {P : Program} {w : World} {K : PySem.W.Frag} {mg : Str → Option Value} {base : Heap} {C Cc Cb Ce fI f : Addr} {fd : FuncData} (F : Fun K "_law_power" "_law_power" s__law_power f fd) (T : Tx K mg C Cc Cb Ce fI) : FnOk P w K mg base CX0 1 f fd ["times"] (SpD K (fLawPower)) := by
  refine fn_pure F sc__law_power (by walk_at "len") (fun cdv A outer s H E hr => ⟨_, (pss_cons (ps_set (i := 1) sc__law_power.nd rfl (.inl rfl) pe_int)
    (pss_cons (ps_for PassesOwn.never rfl (pi_range1 (by rfl) T.n_range (pa_cons (pv 0) pa_nil)) (pg_name (i := 2) sc__law_power.nd rfl (.inl rfl)) (pss_one (ps_set (i := 1) sc__law_power.nd rfl (.inl rfl) (pe_op op_mul (pv 1) pe_int))))
    (pss_one (ps_ret (pv 1))))), fun c Fr ds P h => ?_⟩)
  try dsimp only [cxOf]
  obtain ⟨n, rfl, hn, k⟩ := h
  refine (show Sx K _ (fun _ => False) _ _ _ [_, .non, .non] _ from ?_)
  refine sx_seq (sx_asg (ev_int (eg_name ?_)))
  dsimp only [List.set]
  refine sx_seq (sx_for (ei_rng1 (ea_cons (ev_var rfl (ea_nil ⟨_, rfl, by omega, by omega, ?_⟩)))))
  refine ⟨fun i ρ' => ∃ y : SV, ρ' = [.d (natD n), .d (natD (2 ^ i)), y], ⟨.non, rfl⟩, ?_, ?_⟩
  · rintro i x ρ' hx ⟨y, rfl⟩
    obtain ⟨hi, rfl⟩ := rngD_of hx
    refine eg_name ?_
    dsimp only [List.set]
    refine sx_asg (ev_op (ev_var rfl (ev_int (rv_Ii (.inr ⟨by decide, by decide⟩) (eg_name ?_)))))
    dsimp only [List.set]
    rw [show ((2 ^ i : Nat) : Int) * 2 = ((2 ^ (i + 1) : Nat) : Int) by rw [Nat.pow_succ]; push_cast; rfl]
    exact ⟨_, rfl⟩
  · rintro ρ' ⟨y, rfl⟩
    refine sx_ret (ev_var rfl ?_)
    rw [rngD_len, Int.toNat_natCast]
    exact k
theorem ok__law_pick {P : Program} {w : World} {K : PySem.W.Frag} {mg : Str → Option Value} {base : Heap} {C Cc Cb Ce fI f : Addr} {fd : FuncData} (F : Fun K "_law_pick" "_law_pick" s__law_pick f fd) (T : Tx K mg C Cc Cb Ce fI) (C__law_take : Cal P w K mg base 2 "_law_take" (SpD K (fTake K))) : FnOk P w K mg base CX0 3 f fd ["draw", "items"] (SpD K (fPick K)) := by
  refine fn_pure F sc__law_pick (by walk_at "len") (fun cdv A outer s H E hr => ⟨_, (pss_one (ps_ret (pe_ix (x_ixA K) (pv 1) (pe_cal C__law_take hr (by decide) (by rfl) (pa_cons (pv 0) (pa_cons (pe_callB (x_len K) (by rfl) T.n_len PySem.boot_len (pa_cons (pv 1) pa_nil)) pa_nil))) (fun _ _ => rfl)))), fun c Fr ds P h => ?_⟩)
  try dsimp only [cxOf]
  obtain ⟨d, s, ns, tr, xs, rfl, rfl, hx, k⟩ := h
  refine (show Sx K _ (fun _ => False) _ _ _ [_, _] _ from ?_)
  have hl : 0 < xs.length := List.length_pos_iff.mpr hx
  refine sx_ret (ev_op (ev_var rfl (ev_call (ea_cons (ev_var rfl (ea_cons (ev_cb (ea_cons (ev_var rfl (ea_nil (rva_len (.inl rfl) (ea_nil ⟨d, s, ns, tr, _, rfl, rfl, by omega, fun r hr => ?_⟩))))))))))))
  have hr : r < xs.length := by omega
  exact rv_ixA (.inl rfl) (List.getElem?_eq_getElem hr) (k _ (List.getElem_mem hr))
/- slots of _law_space: [(0, 'draw'), (1, 'most'), (2, 'bits'), (3, 'found'), (4, 'dimensions')] -/
theorem ok__law_space {P : Program} {w : World} {K : PySem.W.Frag} {mg : Str → Option Value} {base : Heap} {C Cc Cb Ce fI f : Addr} {fd : FuncData} (F : Fun K "_law_space" "_law_space" s__law_space f fd) (T : Tx K mg C Cc Cb Ce fI) (C__law_pick : Cal P w K mg base 3 "_law_pick" (SpD K (fPick K))) (C_Space___init__ : Mak P w K mg base 3 "Space" C (SpI K C (gSpace))) : FnOk P w K mg base CX0 5 f fd ["draw", "most"] (SpD K (fSpace K C)) := by
  refine fn_pure F sc__law_space (by walk_at "len") (fun cdv A outer s H E hr => ⟨_, (pss_cons (ps_set (i := 3) sc__law_space.nd rfl (.inl rfl) (pe_op op_cat (pe_lc (own := [("bits", 2)]) (tt := tYes) rfl sc__law_space.nd (pi_range2 (by rfl) T.n_range (pa_cons pe_int (pa_cons (pe_op op_add (pe_callB (x_min2 rfl) (by rfl) T.n_min (by decide +kernel) (pa_cons pe_int (pa_cons (pv 1) pa_nil))) pe_int) pa_nil))) (blkOk_by (N := N__law_space) (sc := defScope s__law_space) (by decide +kernel)) (fun _ _ _ _ _ => (pg_name (i := 2) sc__law_space.nd rfl (.inl rfl))) (fun _ _ _ _ _ => pts_nil) (fun _ _ _ _ _ => (pe_tup (pa_cons pe_int (pa_cons (pv 2) pa_nil))))) (pe_lc (own := [("bits", 2)]) (tt := tYes) rfl sc__law_space.nd (pi_range2 (by rfl) T.n_range (pa_cons pe_int (pa_cons (pe_op op_add (pe_op op_fdiv (pv 1) pe_int) pe_int) pa_nil))) (blkOk_by (N := N__law_space) (sc := defScope s__law_space) (by decide +kernel)) (fun _ _ _ _ _ => (pg_name (i := 2) sc__law_space.nd rfl (.inl rfl))) (fun _ _ _ _ _ => pts_nil) (fun _ _ _ _ _ => (pe_tup (pa_cons pe_int (pa_cons (pv 2) pa_nil)))))))
    (pss_cons (ps_aug (i := 3) sc__law_space.nd rfl (.inl rfl) (pe_lc (own := [("bits", 2)]) (tt := tYes) rfl sc__law_space.nd (pi_range2 (by rfl) T.n_range (pa_cons pe_int (pa_cons (pe_op op_add (pe_op op_fdiv (pv 1) pe_int) pe_int) pa_nil))) (blkOk_by (N := N__law_space) (sc := defScope s__law_space) (by decide +kernel)) (fun _ _ _ _ _ => (pg_name (i := 2) sc__law_space.nd rfl (.inl rfl))) (fun _ _ _ _ _ => pts_nil) (fun _ _ _ _ _ => (pe_tup (pa_cons pe_int (pa_cons (pv 2) pa_nil))))) iop_ext)
    (pss_cons (ps_asg (pe_cal C__law_pick hr (by decide) (by rfl) (pa_cons (pv 0) (pa_cons (pv 3) pa_nil))) (x_gtup K (n := 2) rfl (pgs_cons (pg_name (i := 4) sc__law_space.nd rfl (.inl rfl)) (pgs_cons (pg_name (i := 2) sc__law_space.nd rfl (.inl rfl)) pgs_nil))))
    (pss_one (ps_ret (pe_mak C_Space___init__ hr (by decide) (by rfl) (pa_cons (pv 4) (pa_cons (pv 2) pa_nil)))))))), fun c Fr ds P h => ?_⟩)
  try dsimp only [cxOf]
  obtain ⟨dr, s, ns, tr, m, rfl, rfl, m1, m2, k⟩ := h
  refine (show Sx K _ (fun _ => False) _ _ _ [_, _, .non, .non, .non] _ from ?_)
  refine sx_seq (sx_new (en_cat (ev_en (en_lcMap (own_name (by decide)) (ei_rng2 (ea_cons (ev_int (ea_cons (ev_op (ev_cb (ea_cons (ev_int (ea_cons (ev_var rfl (ea_nil (rva_min2 (ev_int (rv_I0i (ea_nil ⟨_, _, rfl, ?_, ?_⟩)))))))))))))))))))
  · have : (if (m : Int) < 8 then (m : Int) else 8) ≤ 8 := by split <;> omega
    have : 0 ≤ (if (m : Int) < 8 then (m : Int) else 8) := by split <;> omega
    omega
  refine ⟨by rw [rngD_len]; split <;> omega, fun x => .tup [.int 1, x], fun x hx => eg_name ?_, _, rfl, ?_⟩
  · obtain ⟨i, hi⟩ := List.mem_iff_getElem?.mp hx
    obtain ⟨_, rfl⟩ := rngD_of hi
    exact ev_tup (ea_cons (ev_int (ea_cons (ev_var rfl (ea_nil ⟨show (2 : Nat) ≤ 1000000 by decide, rfl⟩)))))
  refine ev_en (en_lcMap (own_name (by decide)) (ei_rng2 (ea_cons (ev_int (ea_cons (ev_op (ev_op (ev_var rfl (ev_int (rv_Ii ⟨by decide, by decide⟩ (ev_int (rv_I0i (ea_nil ⟨_, _, rfl, by omega, ?_⟩)))))))))))))
  refine ⟨by rw [rngD_len]; omega, fun x => .tup [.int 2, x], fun x hx => eg_name ?_, _, rfl, ?_⟩
  · obtain ⟨i, hi⟩ := List.mem_iff_getElem?.mp hx
    obtain ⟨_, rfl⟩ := rngD_of hi
    exact ev_tup (ea_cons (ev_int (ea_cons (ev_var rfl (ea_nil ⟨show (2 : Nat) ≤ 1000000 by decide, rfl⟩)))))
  refine ⟨_, _, rfl, rfl, by rw [List.length_map, List.length_map, rngD_len, rngD_len]; split <;> omega, fun a C fs h => (nomatch h), fun w a S n h => (nomatch h), ?_⟩
  dsimp only [List.set]
  refine sx_seq (sx_augExt (i := 3) rfl ?_)
  refine ev_en (en_lcMap (own_name (by decide)) (ei_rng2 (ea_cons (ev_int (ea_cons (ev_op (ev_op (ev_var rfl (ev_int (rv_Ii ⟨by decide, by decide⟩ (ev_int (rv_I0i (ea_nil ⟨_, _, rfl, by omega, ?_⟩)))))))))))))
  refine ⟨by rw [rngD_len]; omega, fun x => .tup [.int 3, x], fun x hx => eg_name ?_, _, rfl, _, rfl, ?_, ?_⟩
  · obtain ⟨i, hi⟩ := List.mem_iff_getElem?.mp hx
    obtain ⟨_, rfl⟩ := rngD_of hi
    exact ev_tup (ea_cons (ev_int (ea_cons (ev_var rfl (ea_nil ⟨show (2 : Nat) ≤ 1000000 by decide, rfl⟩)))))
  · rw [List.length_append, List.length_map, List.length_map, List.length_map, rngD_len, rngD_len, rngD_len]
    split <;> omega
  dsimp only [List.set]
  refine sx_freeze (i := 3) rfl (sx_seq (sx_asg (ev_call (ea_cons (ev_var rfl (ea_cons (ev_var rfl (ea_nil ⟨dr, s, ns, tr, _, rfl, rfl, ?_, fun x hx => ?_⟩))))))))
  · intro e
    have := congrArg List.length e
    rw [List.length_append, List.length_append, List.length_map, List.length_map, List.length_map, rngD_len, rngD_len, rngD_len] at this
    simp only [List.length_nil] at this
    split at this <;> omega
  have key : ∃ d b : Nat, x = .tup [natD d, natD b] ∧ OkS d b ∧ d * b ≤ m := by
    have get : ∀ (a : Int) (n : Nat), x ∈ (rngD 1 n).map (fun x => DV.tup [.int a, x]) → ∃ b : Nat, x = .tup [.int a, natD b] ∧ 1 ≤ b ∧ b ≤ n := by
      intro a n h
      obtain ⟨y, hy, rfl⟩ := List.mem_map.mp h
      obtain ⟨i, hi⟩ := List.mem_iff_getElem?.mp hy
      obtain ⟨h1, rfl⟩ := rngD_of hi
      exact ⟨1 + i, by push_cast; rfl, by omega, by omega⟩
    rcases List.mem_append.mp hx with h | h
    · rcases List.mem_append.mp h with h | h
      · obtain ⟨b, e, b1, b2⟩ := get 1 _ h
        refine ⟨1, b, e, ⟨⟨by omega, by omega⟩, b1, ?_⟩, ?_⟩ <;> (split at b2 <;> omega)
      · obtain ⟨b, e, b1, b2⟩ := get 2 _ h
        exact ⟨2, b, e, ⟨⟨by omega, by omega⟩, b1, by omega⟩, by omega⟩
    · obtain ⟨b, e, b1, b2⟩ := get 3 _ h
      exact ⟨3, b, e, ⟨⟨by omega, by omega⟩, b1, by omega⟩, by omega⟩
  obtain ⟨d, b, rfl, hs, hm⟩ := key
  refine eg_tup ⟨_, rfl, rfl, egs_cons (eg_name (egs_cons (eg_name (egs_nil ?_))))⟩
  dsimp only [List.set]
  exact sx_ret (ev_make (ea_cons (ev_var rfl (ea_cons (ev_var rfl (ea_nil ⟨d, b, rfl, hs, k d b hs hm⟩))))))
/- slots of _law_point: [(0, 'draw'), (1, 'space'), (2, 'axis')] -/
theorem ok__law_point {P : Program} {w : World} {K : PySem.W.Frag} {mg : Str → Option Value} {base : Heap} {C Cc Cb Ce fI f : Addr} {fd : FuncData} (F : Fun K "_law_point" "_law_point" s__law_point f fd) (T : Tx K mg C Cc Cb Ce fI) (C__law_take : Cal P w K mg base 2 "_law_take" (SpD K (fTake K))) : FnOk P w K mg base CX0 3 f fd ["draw", "space"] (SpD K (fPoint K C)) := by
  refine fn_pure F sc__law_point (by walk_at "len") (fun cdv A outer s H E hr => ⟨_, (pss_one (ps_ret (pe_callTy (x_tupOf K) (by rfl) T.n_tuple (by decide +kernel) (pa_cons (pe_lc (own := [("axis", 2)]) (tt := tYes) rfl sc__law_point.nd (pi_range1 (by rfl) T.n_range (pa_cons (x_fld K (pv 1) rfl) pa_nil)) (blkOk_by (N := N__law_point) (sc := defScope s__law_point) (by decide +kernel)) (fun _ _ _ _ _ => (pg_name (i := 2) sc__law_point.nd rfl (.inl rfl))) (fun _ _ _ _ _ => pts_nil) (fun _ _ _ _ _ => (pe_cal C__law_take hr (by decide) (by rfl) (pa_cons (pv 0) (pa_cons (x_fld K (pv 1) rfl) pa_nil))))) pa_nil)))), fun c Fr ds P h => ?_⟩)
  try dsimp only [cxOf]
  have S := T.S_Space
  obtain ⟨dr, s, ns, tr, d, b, rfl, rfl, hs, k⟩ := h
  have hs' := hs
  obtain ⟨⟨d1, d2⟩, b1, b2⟩ := hs'
  refine (show Sx K _ (fun _ => False) _ _ _ [_, _, .non] _ from ?_)
  refine sx_ret (ev_cb (ea_cons (ev_en (en_lc (own_name (by decide)) (ei_rng1 (ea_cons (ev_sdims S (ev_var rfl ⟨d, b, rfl, ea_nil ⟨_, rfl, by omega, by omega, ?_⟩⟩))))))))
  refine ⟨by rw [rngD_len]; omega, fun i acc => ∃ q : List Nat, acc = q.map natD ∧ q.length = i ∧ ∀ x ∈ q, x < 2 ^ b, ⟨[], rfl, rfl, fun x h => nomatch h⟩, ?_, ?_⟩
  · rintro i x acc hx ⟨q, rfl, hq, hb⟩ _
    refine eg_name (et_yes ?_)
    dsimp only [List.set, wipeR]
    have hp : 0 < 2 ^ b := Nat.pow_pos (by decide)
    refine ev_call (ea_cons (ev_var rfl (ea_cons (ev_sside S (ev_var rfl ⟨d, b, rfl, ea_nil ⟨dr, s, ns, tr, _, rfl, rfl, Int.natCast_pos.mpr hp, fun r hr => ?_⟩⟩)))))
    refine ⟨q ++ [r], by rw [List.map_append]; rfl, by rw [List.length_append, hq]; rfl, fun x hx => ?_⟩
    rcases List.mem_append.mp hx with h | h
    · exact hb x h
    · cases List.mem_singleton.mp h
      exact Int.ofNat_lt.mp hr
  · rintro acc ⟨q, rfl, hq, hb⟩ _
    rw [rngD_len, Int.toNat_natCast] at hq
    exact ⟨_, rfl, ea_nil (rva_tuple (.inl rfl) (k q ⟨hq, hb⟩))⟩
theorem pointD_mem {p : List Nat} {ps : List (List Nat)} : pointD p ∈ ps.map pointD ↔ p ∈ ps := by
  constructor
  · intro h
    obtain ⟨q, hq, e⟩ := List.mem_map.mp h
    rw [← natD_inj (DV.tup.inj e)]
    exact hq
  · exact fun h => List.mem_map.mpr ⟨p, h, rfl⟩
theorem okD_pts (n : Nat) (ps : List (List Nat)) : (ps.map pointD).all (okD (n + 1)) = true := by
  rw [List.all_eq_true]
  intro x hx
  obtain ⟨p, _, rfl⟩ := List.mem_map.mp hx
  unfold okD
  exact okD_nats n p
/- slots of _law_points: [(0, 'draw'), (1, 'space'), (2, 'most'), (3, 'found'), (4, 'turn'), (5, 'point')] -/
theorem ok__law_points {P : Program} {w : World} {K : PySem.W.Frag} {mg : Str → Option Value} {base : Heap} {C Cc Cb Ce fI f : Addr} {fd : FuncData} (F : Fun K "_law_points" "_law_points" s__law_points f fd) (T : Tx K mg C Cc Cb Ce fI) (C__law_take : Cal P w K mg base 2 "_law_take" (SpD K (fTake K))) (C__law_point : Cal P w K mg base 3 "_law_point" (SpD K (fPoint K C))) : FnOk P w K mg base CX0 4 f fd ["draw", "space", "most"] (SpD K (fPts K C)) := by
  refine fn_pure F sc__law_points (by walk_at "len") (fun cdv A outer s H E hr => ⟨_, (pss_cons (ps_set (i := 3) sc__law_points.nd rfl (.inl rfl) (pe_lst pa_nil))
    (pss_cons (ps_for PassesOwn.never rfl (pi_range1 (by rfl) T.n_range (pa_cons (pe_cal C__law_take hr (by decide) (by rfl) (pa_cons (pv 0) (pa_cons (pe_op op_add (pv 2) pe_int) pa_nil))) pa_nil)) (pg_name (i := 4) sc__law_points.nd rfl (.inl rfl)) (pss_cons (ps_set (i := 5) sc__law_points.nd rfl (.inl rfl) (pe_cal C__law_point hr (by decide) (by rfl) (pa_cons (pv 0) (pa_cons (pv 1) pa_nil))))
    (pss_one (ps_if (pt_cmpR (x_ninD K (hu65 hr)) (pv 5) (pv 3) rfl) (pss_one (ps_expr (pe_bm PySem.F.plainAttrs_list PySem.F.slot_list_append PySem.F.type_list_append mt_append (pv 3) (pa_cons (pv 5) pa_nil)))) pss_nil))))
    (pss_one (ps_ret (pv 3))))), fun c Fr ds P h => ?_⟩)
  try dsimp only [cxOf]
  obtain ⟨dr, s, ns, tr, d, b, m, rfl, rfl, hs, hm, k⟩ := h
  refine (show Sx K _ (fun _ => False) _ _ _ [_, _, _, .non, .non, .non] _ from ?_)
  refine sx_seq (sx_new (en_lst (ea_nil ⟨by decide, fun a C fs h => (nomatch h), fun w a S n h => (nomatch h), ?_⟩)))
  dsimp only [List.set]
  refine sx_seq (sx_for (ei_rng1 (ea_cons (ev_call (ea_cons (ev_var rfl (ea_cons (ev_op (ev_var rfl (ev_int (rv_I0i (ea_nil ⟨dr, s, ns, tr, _, rfl, rfl, by omega, fun r hr => ea_nil ⟨_, rfl, by omega, by omega, ?_⟩⟩))))))))))))
  refine ⟨fun i ρ' => ∃ (ps : List (List Nat)) (y z : SV), ρ' = [.d (.adr dr), .d (spD C d b), .d (natD m), .own (.lst (ps.map pointD)), y, z] ∧ (∀ p ∈ ps, OkP d b p) ∧ ps.Nodup ∧ ps.length ≤ i, ⟨[], .non, .non, rfl, fun p h => (nomatch h), List.nodup_nil, Nat.zero_le _⟩, ?_, ?_⟩
  · rintro i x ρ' hx ⟨ps, y, z, rfl, hp, nd, hl⟩
    obtain ⟨hi, rfl⟩ := rngD_of hx
    rw [Int.toNat_natCast] at hi
    refine eg_name ?_
    dsimp only [List.set]
    refine sx_seq (sx_asg (ev_call (ea_cons (ev_var rfl (ea_cons (ev_var rfl (ea_nil ⟨dr, s, ns, tr, d, b, rfl, rfl, hs, fun p ho => eg_name ?_⟩)))))))
    dsimp only [List.set]
    refine sx_if (et_borrow 3 rfl (et_test (ev_op (ev_var rfl (ev_var rfl (rv_ninD (by unfold okD; exact okD_nats _ _) (okD_pts _ _) fun t ht => ⟨_, rfl, ?_⟩))))))
    rw [pointD_mem] at ht
    cases t with
    | true =>
      rw [if_pos rfl]
      refine sx_append (i := 3) rfl (ev_var rfl ⟨by rw [List.length_map]; omega, ?_⟩)
      dsimp only [List.set]
      refine ⟨ps ++ [p], _, _, by rw [List.map_append]; rfl, fun q hq => ?_, ?_, by rw [List.length_append, List.length_singleton]; omega⟩
      · rcases List.mem_append.mp hq with h | h
        · exact hp q h
        · cases List.mem_singleton.mp h
          exact ho
      · refine List.nodup_append.mpr ⟨nd, by simp, fun q hq q2 hq2 e => ?_⟩
        cases List.mem_singleton.mp hq2
        exact (ht.mp rfl) (e ▸ hq)
    | false =>
      rw [if_neg Bool.false_ne_true]
      exact sx_next ⟨ps, _, _, rfl, hp, nd, by omega⟩
  · rintro ρ' ⟨ps, y, z, rfl, hp, nd, hl⟩
    rw [rngD_len, Int.toNat_natCast] at hl
    exact sx_freeze (i := 3) rfl (sx_ret (ev_var rfl (k ps hp nd (by omega))))
theorem ok__law_cloud {P : Program} {w : World} {K : PySem.W.Frag} {mg : Str → Option Value} {base : Heap} {C Cc Cb Ce fI f : Addr} {fd : FuncData} (F : Fun K "_law_cloud" "_law_cloud" s__law_cloud f fd) (T : Tx K mg C Cc Cb Ce fI) (C_Cloud___init__ : MakE P w K mg base 5 "Cloud" Cc (SpIE K Cc Ce "point" (gCloudE C))) (C__law_points : Cal P w K mg base 4 "_law_points" (SpD K (fPts K C))) : FnOk P w K mg base CX0 7 f fd ["draw", "space", "most"] (SpD K (fLawCloud K C Cc)) := by
  refine fn_pure F sc__law_cloud (by walk_at "len") (fun cdv A outer s H E hr => ⟨_, (pss_one (ps_ret (pe_makE C_Cloud___init__ hr (by decide) (by rfl) passE0 (pa_cons (pv 1) (pa_cons (pe_cal C__law_points hr (by decide) (by rfl) (pa_cons (pv 0) (pa_cons (pv 1) (pa_cons (pv 2) pa_nil)))) pa_nil))))), fun c Fr ds P h => ?_⟩)
  try dsimp only [cxOf]
  obtain ⟨dr, s, ns, tr, d, b, m, rfl, rfl, hs, hm, k⟩ := h
  refine (show Sx K _ (fun _ => False) _ _ _ [_, _, _] _ from ?_)
  refine sx_ret (ev_makeE (ea_cons (ev_var rfl (ea_cons (ev_call (ea_cons (ev_var rfl (ea_cons (ev_var rfl (ea_cons (ev_var rfl (ea_nil ⟨dr, s, ns, tr, d, b, m, rfl, rfl, hs, hm, fun ps hp nd hl => ?_⟩))))))))))))
  exact ea_nil ⟨d, b, _, _, rfl, hs, .inl rfl, by rw [List.length_map]; omega, .inl ⟨ps, rfl, hp, nd, fun row hr => k ps row hp nd hl hr⟩⟩
end


-- @FILE K60f
/-! ## boxes -/











abbrev s_Space_cell : Stmt := inClass (topS 13) 7
abbrev N_Space_cell : List Str := ["self", "prefix", "size", "first"]
theorem sc_Space_cell : FnScope N_Space_cell ["self", "prefix"] (defScope s_Space_cell) := ⟨rfl, rfl, rfl, by decide +kernel, rfl, by decide +kernel, by decide +kernel⟩
abbrev s_is_inside : Stmt := topS 15
abbrev N_is_inside : List Str := ["prefix", "other", "longer"]
theorem sc_is_inside : FnScope N_is_inside ["prefix", "other"] (defScope s_is_inside) := ⟨rfl, rfl, rfl, by decide +kernel, rfl, by decide +kernel, by decide +kernel⟩
abbrev s_Box___init__ : Stmt := inClass (topS 14) 0
abbrev N_Box___init__ : List Str := ["self", "space", "lows", "highs", "corner", "low", "high"]
theorem sc_Box___init__ : FnScope N_Box___init__ ["self", "space", "lows", "highs"] (defScope s_Box___init__) := ⟨rfl, rfl, rfl, by decide +kernel, rfl, by decide +kernel, by decide +kernel⟩
abbrev s_Box_holds : Stmt := inClass (topS 14) 1
abbrev N_Box_holds : List Str := ["self", "point", "low", "part", "high"]
theorem sc_Box_holds : FnScope N_Box_holds ["self", "point"] (defScope s_Box_holds) := ⟨rfl, rfl, rfl, by decide +kernel, rfl, by decide +kernel, by decide +kernel⟩
abbrev s_Box_room : Stmt := inClass (topS 14) 2
abbrev N_Box_room : List Str := ["self", "prefix", "lows", "highs", "room", "axis", "first", "last"]
theorem sc_Box_room : FnScope N_Box_room ["self", "prefix"] (defScope s_Box_room) := ⟨rfl, rfl, rfl, by decide +kernel, rfl, by decide +kernel, by decide +kernel⟩
abbrev s__side_left : Stmt := topS 17
abbrev N__side_left : List Str := ["box", "axis", "low", "high"]
theorem sc__side_left : FnScope N__side_left ["box", "axis", "low", "high"] (defScope s__side_left) := ⟨rfl, rfl, rfl, by decide +kernel, rfl, by decide +kernel, by decide +kernel⟩
def bxD (Cb C : Addr) (d b : Nat) (lo hi : List Nat) : DV := .ins Cb [("space", spD C d b), ("lows", pointD lo), ("highs", pointD hi)]
/-- the corners of a box -/
def OkB (d b : Nat) (lo hi : List Nat) : Prop := OkP d b lo ∧ OkP d b hi ∧ ∀ a, a < d → lo.getD a 0 ≤ hi.getD a 0
def preD (l k : Nat) : DV := .tup [natD l, natD k]
abbrev fnc (l : List Nat) : Nat → Nat := fun a => l.getD a 0
def fIsInside : Cfg → List DV → (DV → Prop) → Prop := fun _ ds P => ∃ l k m j : Nat, ds = [preD l k, preD m j] ∧ P (.bl (decide (m ≤ l) && decide (k / 2 ^ (l - m) = j)))
def fCell (C : Addr) : Cfg → List DV → (DV → Prop) → Prop := fun _ ds P => ∃ d b l k : Nat, ds = [spD C d b, preD l k] ∧ OkS d b ∧ l ≤ d * b ∧ k < 2 ^ l ∧
  P (.tup [pointD ((List.range d).map (GM.lowC d b l k)), pointD ((List.range d).map (GM.highC d b l k))])
def fRoom (Cb C : Addr) : Cfg → List DV → (DV → Prop) → Prop := fun _ ds P => ∃ (d b : Nat) (lo hi : List Nat) (l k : Nat), ds = [bxD Cb C d b lo hi, preD l k] ∧ OkS d b ∧ OkB d b lo hi ∧ l ≤ d * b ∧ k < 2 ^ l ∧ P (natD (GM.roomN d b (fnc lo) (fnc hi) l k))
def gBox (C : Addr) : Cfg → List DV → (List (Str × DV) → Prop) → Prop := fun _ ds P => ∃ (d b : Nat) (lo hi : List Nat), ds = [spD C d b, pointD lo, pointD hi] ∧ OkS d b ∧ OkB d b lo hi ∧ P [("space", spD C d b), ("lows", pointD lo), ("highs", pointD hi)]
/-- whether a point is between two corners -/
def heldB (lo p hi : List Nat) : Bool := (lo.zip (p.zip hi)).all fun x => decide (x.1 ≤ x.2.1) && decide (x.2.1 ≤ x.2.2)
def fHolds (Cb C : Addr) : Cfg → List DV → (DV → Prop) → Prop := fun _ ds P => ∃ (d b : Nat) (lo hi p : List Nat), ds = [bxD Cb C d b lo hi, pointD p] ∧ OkS d b ∧ OkB d b lo hi ∧ OkP d b p ∧ P (.bl (heldB lo p hi))
/-- a side of a cell that is not within the box's -/
def sdD (lo hi x y : Nat) : DV := if lo ≤ x ∧ y ≤ hi then .non else .tup [natD x, natD y]
def fSideLeft (Cb C : Addr) : Cfg → List DV → (DV → Prop) → Prop := fun _ ds P => ∃ (d b : Nat) (lo hi : List Nat) (a x y : Nat), ds = [bxD Cb C d b lo hi, natD a, natD x, natD y] ∧ OkB d b lo hi ∧ a < d ∧ P (sdD (lo.getD a 0) (hi.getD a 0) x y)
theorem zipD_nat (p q : List Nat) : zipD (p.map natD) (q.map natD) = (p.zip q).map fun x => .tup [natD x.1, natD x.2] := by
  unfold zipD
  rw [List.zip_map, List.map_map]
  rfl
theorem zip3D_nat (p q r : List Nat) : zip3D (p.map natD) (q.map natD) (r.map natD) = (p.zip (q.zip r)).map fun x => .tup [natD x.1, natD x.2.1, natD x.2.2] := by
  unfold zip3D
  rw [List.zip_map, List.zip_map, List.map_map]
  rfl
theorem own_two {K : PySem.W.Frag} {n i j : Nat} {vs : List Nat} (h1 : i ∈ vs) (h2 : j ∈ vs) : OwnG (gTup K n (gCons (gName i) (gCons (gName j) gNil))) vs :=
  own_tup (own_cons (own_name h1) (own_cons (own_name h2) own_nil mono_name mono_nil) mono_name (mono_cons mono_name mono_nil))
theorem own_three {K : PySem.W.Frag} {n i j k : Nat} {vs : List Nat} (h1 : i ∈ vs) (h2 : j ∈ vs) (h3 : k ∈ vs) : OwnG (gTup K n (gCons (gName i) (gCons (gName j) (gCons (gName k) gNil)))) vs :=
  own_tup (own_cons (own_name h1) (own_cons (own_name h2) (own_cons (own_name h3) own_nil mono_name mono_nil) mono_name (mono_cons mono_name mono_nil)) mono_name (mono_cons mono_name (mono_cons mono_name mono_nil)))
section
variable {P : Program} {w : World} {K : PySem.W.Frag} {mg : Str → Option Value} {base : Heap} {C Cb : Addr} {c : Cfg} {ρ : List SV} {Q : DV → Prop} {ta : TE}
theorem ev_bspace (S : BoxF K Cb) (h : Ev K c ta ρ fun x => ∃ d b lo hi, x = bxD Cb C d b lo hi ∧ Q (spD C d b)) : Ev K c (tFld K ta "space") ρ Q :=
  ev_fld S.cl S.space (h.imp fun x ⟨d, b, lo, hi, e, q⟩ => ⟨_, _, e, rfl, q⟩)
theorem ev_blows (S : BoxF K Cb) (h : Ev K c ta ρ fun x => ∃ d b lo hi, x = bxD Cb C d b lo hi ∧ Q (pointD lo)) : Ev K c (tFld K ta "lows") ρ Q :=
  ev_fld S.cl S.lows (h.imp fun x ⟨d, b, lo, hi, e, q⟩ => ⟨_, _, e, rfl, q⟩)
theorem ev_bhighs (S : BoxF K Cb) (h : Ev K c ta ρ fun x => ∃ d b lo hi, x = bxD Cb C d b lo hi ∧ Q (pointD hi)) : Ev K c (tFld K ta "highs") ρ Q :=
  ev_fld S.cl S.highs (h.imp fun x ⟨d, b, lo, hi, e, q⟩ => ⟨_, _, e, rfl, q⟩)
theorem isPoint_ok {d b : Nat} {p : List Nat} (hs : OkS d b) (hp : OkP d b p) {Q : DV → Prop} (q : Q (.bl true)) : fIsPoint C c [spD C d b, pointD p] Q := by
  obtain ⟨hl, hp⟩ := hp
  have hs' := hs
  obtain ⟨⟨d1, d2⟩, b1, b2⟩ := hs'
  refine ⟨d, b, _, rfl, hs, .inl ⟨p.map Int.ofNat, ?_, by rw [List.length_map]; omega, ?_⟩⟩
  · show DV.tup (p.map natD) = DV.tup ((p.map Int.ofNat).map DV.int)
    rw [List.map_map]
    rfl
  · rw [decide_eq_true (by rw [List.length_map]; exact hl), Bool.true_and]
    have : (p.map Int.ofNat).all (fun z => decide (0 ≤ z) && decide (z ≤ (2 ^ b : Nat) - 1)) = true := by
      rw [List.all_map, List.all_eq_true]
      intro x hx
      have := hp x hx
      show (decide ((0 : Int) ≤ (x : Int)) && decide ((x : Int) ≤ (2 ^ b : Nat) - 1)) = true
      rw [decide_eq_true (Int.natCast_nonneg x), decide_eq_true (by omega)]
      rfl
    rw [this]
    exact q
theorem ok_is_inside {P : Program} {w : World} {K : PySem.W.Frag} {mg : Str → Option Value} {base : Heap} {C Cc Cb Ce fI f : Addr} {fd : FuncData} (F : Fun K "is_inside" "is_inside" s_is_inside f fd) (T : Tx K mg C Cc Cb Ce fI) : FnOk P w K mg base CX0 1 f fd ["prefix", "other"] (SpD K (fIsInside)) := by
  refine fn_pure F sc_is_inside (by walk_at "len") (fun cdv A outer s H E hr => ⟨_, (pss_cons (ps_set (i := 2) sc_is_inside.nd rfl (.inl rfl) (pe_op op_sub (pe_ix (x_ixT K) (pv 0) pe_int (fun _ _ => rfl)) (pe_ix (x_ixT K) (pv 1) pe_int (fun _ _ => rfl))))
    (pss_one (ps_ret (pe_and (pe_cmpR op_ge (pv 2) pe_int (nomark _)) (pe_one (pe_cmpR op_eq (pe_op op_shr (pe_ix (x_ixT K) (pv 0) pe_int (fun _ _ => rfl)) (pv 2)) (pe_ix (x_ixT K) (pv 1) pe_int (fun _ _ => rfl)) (nomark _))))))), fun c Fr ds P h => ?_⟩)
  try dsimp only [cxOf]
  obtain ⟨l, k, m, j, rfl, p⟩ := h
  refine (show Sx K _ (fun _ => False) _ _ _ [_, _, .non] _ from ?_)
  refine sx_seq (sx_asg (ev_op (ev_op (ev_var rfl (ev_int (rv_ixT (j := 0) rfl (ev_op (ev_var rfl (ev_int (rv_ixT (j := 0) rfl (rv_I0i (eg_name ?_))))))))))))
  dsimp only [List.set]
  refine sx_ret (ev_andV (ev_op (ev_var rfl (ev_int (rv_I0b ⟨_, rfl, ?_⟩)))))
  by_cases h : m ≤ l
  · rw [decide_eq_true (show (l : Int) - (m : Int) ≥ 0 by omega), if_pos rfl]
    rw [decide_eq_true h, Bool.true_and] at p
    rw [show (l : Int) - (m : Int) = ((l - m : Nat) : Int) by omega]
    refine ev_op (ev_op (ev_op (ev_var rfl (ev_int (rv_ixT (j := 1) rfl (ev_var rfl (rv_shr (b := l - m) (ev_op (ev_var rfl (ev_int (rv_ixT (j := 1) rfl (rv_eqI ?_))))))))))))
    have e : decide (((k / 2 ^ (l - m) : Nat) : Int) = (j : Int)) = decide (k / 2 ^ (l - m) = j) := by
      rw [Bool.eq_iff_iff, decide_eq_true_iff, decide_eq_true_iff]
      exact Int.ofNat_inj
    rw [e]
    exact p
  · rw [decide_eq_false (show ¬ (l : Int) - (m : Int) ≥ 0 by omega), if_neg Bool.false_ne_true]
    rw [decide_eq_false h, Bool.false_and] at p
    exact p
theorem ok_Space_cell {P : Program} {w : World} {K : PySem.W.Frag} {mg : Str → Option Value} {base : Heap} {C Cc Cb Ce fI f : Addr} {fd : FuncData} (F : Fun K "cell" "Space.cell" s_Space_cell f fd) (T : Tx K mg C Cc Cb Ce fI) (C_Space_size : Met P w K mg base 3 C "size" (SpD K (fSize C))) (C_Space_point_of : Met P w K mg base 1 C "point_of" (SpD K (fPointOf C))) : FnOk P w K mg base CX0 4 f fd ["self", "prefix"] (SpD K (fCell C)) := by
  refine fn_pure F sc_Space_cell (by walk_at "len") (fun cdv A outer s H E hr => ⟨_, (pss_cons (ps_set (i := 2) sc_Space_cell.nd rfl (.inl rfl) (pe_met C_Space_size hr (by decide) (pv 0) (pa_cons (pv 1) pa_nil)))
    (pss_cons (ps_set (i := 3) sc_Space_cell.nd rfl (.inl rfl) (pe_op op_mul (pe_ix (x_ixT K) (pv 1) pe_int (fun _ _ => rfl)) (pv 2)))
    (pss_cons (ps_if (pt_cmpR op_eq (pv 2) pe_int (nomark _)) (pss_one (ps_ret (pe_tup (pa_cons (pe_met C_Space_point_of hr (by decide) (pv 0) (pa_cons (pe_un un_neg pe_int) pa_nil)) (pa_cons (pe_met C_Space_point_of hr (by decide) (pv 0) (pa_cons pe_int pa_nil)) pa_nil))))) pss_nil)
    (pss_one (ps_ret (pe_tup (pa_cons (pe_met C_Space_point_of hr (by decide) (pv 0) (pa_cons (pv 3) pa_nil)) (pa_cons (pe_met C_Space_point_of hr (by decide) (pv 0) (pa_cons (pe_op op_sub (pe_op op_add (pv 3) (pv 2)) pe_int) pa_nil)) pa_nil)))))))), fun c Fr ds P h => ?_⟩)
  try dsimp only [cxOf]
  have S := T.S_Space
  obtain ⟨d, b, l, k, rfl, hs, hl, hk, p⟩ := h
  have hs' := hs
  obtain ⟨⟨d1, d2⟩, b1, b2⟩ := hs'
  have hD : d * b ≤ 3 * 10 := Nat.mul_le_mul d2 b2
  refine (show Sx K _ (fun _ => False) _ _ _ [_, _, .non, .non] _ from ?_)
  have h64 : (2 ^ (d * b - l) : Nat) < 2 ^ 64 := Nat.pow_lt_pow_right (by decide) (by omega)
  have hp : 0 < 2 ^ (d * b - l) := Nat.pow_pos (by decide)
  refine sx_seq (sx_asg (ev_meth (ev_var rfl ⟨_, rfl, rfl, ea_cons (ev_var rfl (ea_nil ⟨d, b, l, k, rfl, hs, hl, eg_name ?_⟩))⟩)))
  dsimp only [List.set]
  refine sx_seq (sx_asg (ev_op (ev_op (ev_var rfl (ev_int (rv_ixT (j := 1) rfl (ev_var rfl (rv_Ii (.inr (by constructor <;> omega)) (eg_name ?_)))))))))
  dsimp only [List.set]
  rw [← Int.natCast_mul]
  refine sx_guardq (et_test (ev_op (ev_var rfl (ev_int (rv_eqI ⟨_, rfl, decide_eq_false (by omega)⟩))))) ?_
  refine sx_ret (ev_tup (ea_cons (ev_meth (ev_var rfl ⟨_, rfl, rfl, ea_cons (ev_var rfl (ea_nil ⟨d, b, _, rfl, hs, ?_⟩))⟩))))
  refine ea_cons (ev_meth (ev_var rfl ⟨_, rfl, rfl, ea_cons (ev_op (ev_op (ev_var rfl (ev_var rfl (rv_I0i (ev_int (rv_I0i (ea_nil ⟨d, b, k * 2 ^ (d * b - l) + 2 ^ (d * b - l) - 1, ?_, hs, ea_nil ⟨show (2 : Nat) ≤ 1000000 by decide, ?_⟩⟩))))))))⟩))
  · rw [show natD (k * 2 ^ (d * b - l) + 2 ^ (d * b - l) - 1) = DV.int ((k * 2 ^ (d * b - l) + 2 ^ (d * b - l) - 1 : Nat) : Int) from rfl, show ((k * 2 ^ (d * b - l) + 2 ^ (d * b - l) - 1 : Nat) : Int) = ((k * 2 ^ (d * b - l) : Nat) : Int) + ((2 ^ (d * b - l) : Nat) : Int) - 1 by rw [Int.ofNat_sub (by omega)]; push_cast; rfl]
  · have e1 : GM.pointOf d b (k * 2 ^ (d * b - l)) = (List.range d).map (GM.lowC d b l k) := List.map_congr_left fun a ha => GM.coord_low hl (List.mem_range.mp ha)
    have e2 : GM.pointOf d b (k * 2 ^ (d * b - l) + 2 ^ (d * b - l) - 1) = (List.range d).map (GM.highC d b l k) := List.map_congr_left fun a ha => GM.coord_high hl (List.mem_range.mp ha)
    rw [e1, e2]
    exact p
/- slots of Box.room: [(0, 'self'), (1, 'prefix'), (2, 'lows'), (3, 'highs'), (4, 'room'), (5, 'axis'), (6, 'first'), (7, 'last')] -/
theorem max_i (x y : Nat) : (if (y : Int) > (x : Int) then (y : Int) else (x : Int)) = ((max y x : Nat) : Int) := by
  by_cases h : (y : Int) > (x : Int)
  · rw [if_pos h]
    omega
  · rw [if_neg h]
    omega
theorem min_i (x y : Nat) : (if (y : Int) < (x : Int) then (y : Int) else (x : Int)) = ((min y x : Nat) : Int) := by
  by_cases h : (y : Int) < (x : Int)
  · rw [if_pos h]
    omega
  · rw [if_neg h]
    omega
theorem ovl_i (lo hi x y : Nat) : (if ((min hi y : Nat) : Int) - ((max lo x : Nat) : Int) + 1 > 0 then ((min hi y : Nat) : Int) - ((max lo x : Nat) : Int) + 1 else 0) = (GM.ovl lo hi x y : Int) := by
  unfold GM.ovl
  split <;> omega
theorem nat_at {p : List Nat} {a : Nat} (h : a < p.length) : (p.map natD)[a]? = some (natD (p.getD a 0)) := by
  rw [List.getElem?_map, List.getD_eq_getElem?_getD, List.getElem?_eq_getElem h]
  rfl
theorem fun_at {d a : Nat} {f : Nat → Nat} (h : a < d) : (((List.range d).map f).map natD)[a]? = some (natD (f a)) := by
  rw [List.getElem?_map, List.getElem?_map, List.getElem?_range h]
  rfl
theorem ok_Box_room {P : Program} {w : World} {K : PySem.W.Frag} {mg : Str → Option Value} {base : Heap} {C Cc Cb Ce fI f : Addr} {fd : FuncData} (F : Fun K "room" "Box.room" s_Box_room f fd) (T : Tx K mg C Cc Cb Ce fI) (C_Space_cell : Met P w K mg base 4 C "cell" (SpD K (fCell C))) : FnOk P w K mg base CX0 5 f fd ["self", "prefix"] (SpD K (fRoom Cb C)) := by
  refine fn_pure F sc_Box_room (by walk_at "len") (fun cdv A outer s H E hr => ⟨_, (pss_cons (ps_asg (pe_met C_Space_cell hr (by decide) (x_fld K (pv 0) rfl) (pa_cons (pv 1) pa_nil)) (x_gtup K (n := 2) rfl (pgs_cons (pg_name (i := 2) sc_Box_room.nd rfl (.inl rfl)) (pgs_cons (pg_name (i := 3) sc_Box_room.nd rfl (.inl rfl)) pgs_nil))))
    (pss_cons (ps_set (i := 4) sc_Box_room.nd rfl (.inl rfl) pe_int)
    (pss_cons (ps_for PassesOwn.never rfl (pi_range1 (by rfl) T.n_range (pa_cons (x_fld K (x_fld K (pv 0) rfl) rfl) pa_nil)) (pg_name (i := 5) sc_Box_room.nd rfl (.inl rfl)) (pss_cons (ps_set (i := 6) sc_Box_room.nd rfl (.inl rfl) (pe_callB (x_max2 rfl) (by rfl) T.n_max (by decide +kernel) (pa_cons (pe_ix (x_ixT K) (pv 2) (pv 5) (fun _ _ => rfl)) (pa_cons (pe_ix (x_ixT K) (x_fld K (pv 0) rfl) (pv 5) (fun _ _ => rfl)) pa_nil))))
    (pss_cons (ps_set (i := 7) sc_Box_room.nd rfl (.inl rfl) (pe_callB (x_min2 rfl) (by rfl) T.n_min (by decide +kernel) (pa_cons (pe_ix (x_ixT K) (pv 3) (pv 5) (fun _ _ => rfl)) (pa_cons (pe_ix (x_ixT K) (x_fld K (pv 0) rfl) (pv 5) (fun _ _ => rfl)) pa_nil))))
    (pss_one (ps_set (i := 4) sc_Box_room.nd rfl (.inl rfl) (pe_op op_mul (pv 4) (pe_callB (x_max2 rfl) (by rfl) T.n_max (by decide +kernel) (pa_cons pe_int (pa_cons (pe_op op_add (pe_op op_sub (pv 7) (pv 6)) pe_int) pa_nil)))))))))
    (pss_one (ps_ret (pv 4)))))), fun c Fr ds P h => ?_⟩)
  try dsimp only [cxOf]
  have S := T.S_Space
  have B := T.S_Box
  obtain ⟨d, b, lo, hi, l, k, rfl, hs, ⟨⟨ll, lp⟩, ⟨hl, hp⟩, hle⟩, hd, hk, q⟩ := h
  have hs' := hs
  obtain ⟨⟨d1, d2⟩, b1, b2⟩ := hs'
  refine (show Sx K _ (fun _ => False) _ _ _ [_, _, .non, .non, .non, .non, .non, .non] _ from ?_)
  refine sx_seq (sx_asg (ev_meth (ev_bspace (C := C) B (ev_var rfl ⟨d, b, lo, hi, rfl, _, rfl, rfl, ea_cons (ev_var rfl (ea_nil ⟨d, b, l, k, rfl, hs, hd, hk, eg_tup ⟨_, rfl, rfl, egs_cons (eg_name (egs_cons (eg_name (egs_nil ?_))))⟩⟩))⟩))))
  dsimp only [List.set]
  refine sx_seq (sx_asg (ev_int (eg_name ?_)))
  dsimp only [List.set]
  refine sx_seq (sx_for (ei_rng1 (ea_cons (ev_sdims S (ev_bspace (C := C) B (ev_var rfl ⟨d, b, lo, hi, rfl, d, b, rfl, ea_nil ⟨_, rfl, by omega, by omega, ?_⟩⟩))))))
  refine ⟨fun i ρ' => ∃ x y z : SV, ρ' = [.d (bxD Cb C d b lo hi), .d (preD l k), .d (pointD ((List.range d).map (GM.lowC d b l k))), .d (pointD ((List.range d).map (GM.highC d b l k))), .d (natD (GM.prodN (fun a => GM.ovl (lo.getD a 0) (hi.getD a 0) (GM.lowC d b l k a) (GM.highC d b l k a)) i)), x, y, z], ⟨.non, .non, .non, rfl⟩, ?_, ?_⟩
  · rintro i x ρ' hx ⟨y1, y2, y3, rfl⟩
    obtain ⟨hi', rfl⟩ := rngD_of hx
    rw [Int.toNat_natCast] at hi'
    rw [show (0 : Int) + (i : Int) = (i : Int) by omega]
    refine eg_name ?_
    dsimp only [List.set]
    refine sx_seq (sx_asg (ev_cb (ea_cons (ev_op (ev_var rfl (ev_var rfl (rv_ixT (fun_at hi') (ea_cons (ev_op (ev_blows (C := C) B (ev_var rfl ⟨d, b, lo, hi, rfl, ev_var rfl (rv_ixT (nat_at (show i < lo.length by omega)) (ea_nil (rva_max2 (eg_name ?_))))⟩)))))))))))
    dsimp only [List.set]
    rw [max_i]
    refine sx_seq (sx_asg (ev_cb (ea_cons (ev_op (ev_var rfl (ev_var rfl (rv_ixT (fun_at hi') (ea_cons (ev_op (ev_bhighs (C := C) B (ev_var rfl ⟨d, b, lo, hi, rfl, ev_var rfl (rv_ixT (nat_at (show i < hi.length by omega)) (ea_nil (rva_min2 (eg_name ?_))))⟩)))))))))))
    dsimp only [List.set]
    rw [min_i]
    refine sx_asg (ev_op (ev_var rfl (ev_cb (ea_cons (ev_int (ea_cons (ev_op (ev_op (ev_var rfl (ev_var rfl (rv_I0i (ev_int (rv_I0i (ea_nil (rva_max2 ?_)))))))))))))))
    rw [ovl_i]
    have hov : GM.ovl (lo.getD i 0) (hi.getD i 0) (GM.lowC d b l k i) (GM.highC d b l k i) < 2 ^ 64 := by
      have h1 : GM.highC d b l k i < 2 ^ b := GM.cw_lt fun j => GM.highB_lt l k j
      have h2 : 2 ^ b ≤ 2 ^ 10 := Nat.pow_le_pow_right (by decide) b2
      unfold GM.ovl
      omega
    refine rv_Ii (.inr (by constructor <;> omega)) (eg_name ?_)
    dsimp only [List.set]
    rw [← Int.natCast_mul]
    exact ⟨_, _, _, rfl⟩
  · rintro ρ' ⟨y1, y2, y3, rfl⟩
    refine sx_ret (ev_var rfl ?_)
    rw [rngD_len, Int.toNat_natCast]
    exact q
/- slots of Box.__init__: [(0, 'self'), (1, 'space'), (2, 'lows'), (3, 'highs'), (4, 'corner'), (5, 'low'), (6, 'high')] -/
theorem put_lows {x y : DV} : putD "lows" y [("space", x)] = ([("space", x), ("lows", y)] : List (Str × DV)) := by
  rw [putD_ne (by decide +kernel)]
  rfl
theorem put_highs {x y z : DV} : putD "highs" z [("space", x), ("lows", y)] = ([("space", x), ("lows", y), ("highs", z)] : List (Str × DV)) := by
  rw [putD_ne (by decide +kernel), putD_ne (by decide +kernel)]
  rfl
theorem zip_le {lo hi : List Nat} (h : ∀ a, a < lo.length → lo.getD a 0 ≤ hi.getD a 0) : ∀ x ∈ lo.zip hi, x.1 ≤ x.2 := by
  intro x hx
  obtain ⟨i, hi'⟩ := List.mem_iff_getElem?.mp hx
  obtain ⟨h1, h2⟩ := List.getElem?_zip_eq_some.mp hi'
  have hl := (List.getElem?_eq_some_iff.mp h1).1
  have := h i hl
  rw [List.getD_eq_getElem?_getD, List.getD_eq_getElem?_getD, h1, h2] at this
  exact this
theorem any_gt {lo hi : List Nat} (h : ∀ x ∈ lo.zip hi, x.1 ≤ x.2) : ((lo.zip hi).map fun x => decide ((x.1 : Int) > (x.2 : Int))).any id = false := by
  rw [List.any_map, List.any_eq_false]
  intro x hx
  have := h x hx
  show ¬ decide ((x.1 : Int) > (x.2 : Int)) = true
  rw [decide_eq_true_iff]
  omega
theorem ok_Box___init__ {P : Program} {w : World} {K : PySem.W.Frag} {mg : Str → Option Value} {base : Heap} {C Cc Cb Ce fI f : Addr} {fd : FuncData} (F : Fun K "__init__" "Box.__init__" s_Box___init__ f fd) (T : Tx K mg C Cc Cb Ce fI) (C_Space_is_point : Met P w K mg base 2 C "is_point" (SpD K (fIsPoint C))) : FnOk P w K mg base CX0 5 f fd ["self", "space", "lows", "highs"] (SpI K Cb (gBox C)) := by
  refine fn_init F sc_Box___init__ (by walk_at "len") (fun cdv A outer s H E hr => ⟨_, (pss_cons (ps_for PassesOwn.never rfl (x_row K (pe_tup (pa_cons (pv 2) (pa_cons (pv 3) pa_nil)))) (pg_name (i := 4) sc_Box___init__.nd rfl (.inl rfl)) (pss_one (ps_if (pt_not (pt_val (pe_met C_Space_is_point hr (by decide) (pv 1) (pa_cons (pv 4) pa_nil)))) (pss_one ps_never) pss_nil)))
    (pss_cons (ps_if (pt_val (pe_callB (x_any K rfl) (by rfl) T.n_any (by decide +kernel) (pa_cons (pe_lc (own := [("low", 5), ("high", 6)]) (tt := tYes) rfl sc_Box___init__.nd (x_zip K (by rfl) T.n_zip (pa_cons (pv 2) (pa_cons (pv 3) pa_nil))) (blkOk_by (N := N_Box___init__) (sc := defScope s_Box___init__) (by decide +kernel)) (fun _ _ _ _ _ => (x_gtup K (n := 2) rfl (pgs_cons (pg_name (i := 5) sc_Box___init__.nd rfl (.inl rfl)) (pgs_cons (pg_name (i := 6) sc_Box___init__.nd rfl (.inl rfl)) pgs_nil)))) (fun _ _ _ _ _ => pts_nil) (fun _ _ _ _ _ => (pe_cmpR op_gt (pv 5) (pv 6) (nomark _)))) pa_nil))) (pss_one ps_never) pss_nil)
    (pss_cons (ps_fld (pv 0) (pv 1) rfl)
    (pss_cons (ps_fld (pv 0) (pv 2) rfl)
    (pss_one (ps_fld (pv 0) (pv 3) rfl)))))), fun c Fr a ds P h => ?_⟩)
  try dsimp only [cxOf]
  have S := T.S_Space
  have B := T.S_Box
  obtain ⟨d, b, lo, hi, rfl, hs, ho, q⟩ := h
  have ho' := ho
  obtain ⟨⟨ll, lp⟩, ⟨hl, hp⟩, hle⟩ := ho'
  have hs' := hs
  obtain ⟨⟨d1, d2⟩, b1, b2⟩ := hs'
  try dsimp only [cxOf]
  refine (show Sx K _ (fun z => z = a) _ _ _ [.own (.obj a Cb []), .d (spD C d b), .d (pointD lo), .d (pointD hi), .non, .non, .non] _ from ?_)
  refine sx_seq (sx_for (ei_row (ev_tup (ea_cons (ev_var rfl (ea_cons (ev_var rfl (ea_nil ⟨show (2 : Nat) ≤ 1000000 by decide, _, .inr rfl, ?_⟩))))))))
  refine ⟨fun i ρ' => ∃ y : SV, ρ' = [.own (.obj a Cb []), .d (spD C d b), .d (pointD lo), .d (pointD hi), y, .non, .non], ⟨_, rfl⟩, ?_, ?_⟩
  · rintro i x ρ' hx ⟨y, rfl⟩
    have hx' : ∃ p, x = pointD p ∧ OkP d b p := by
      have m := List.mem_of_getElem? hx
      simp only [List.mem_cons, List.not_mem_nil, or_false] at m
      rcases m with rfl | rfl
      · exact ⟨lo, rfl, ho.1⟩
      · exact ⟨hi, rfl, ho.2.1⟩
    obtain ⟨p, rfl, hpp⟩ := hx'
    refine eg_name ?_
    dsimp only [List.set]
    refine sx_if (et_not (et_test (ev_meth (ev_var rfl ⟨_, rfl, rfl, ea_cons (ev_var rfl (ea_nil (isPoint_ok hs hpp ⟨_, rfl, ?_⟩)))⟩))))
    rw [if_neg (by decide)]
    exact sx_next ⟨_, rfl⟩
  · rintro ρ' ⟨y, rfl⟩
    refine sx_guardq ?_ ?_
    · refine et_test (ev_cb (ea_cons (ev_en (en_lcMap (own_two (by decide) (by decide)) (ei_zipT (ea_cons (ev_var rfl (ea_cons (ev_var rfl (ea_nil ⟨_, _, rfl, by rw [List.length_map, List.length_map]; omega, ?_⟩))))))))))
      rw [zipD_nat]
      refine ⟨by rw [List.length_map, List.length_zip]; omega, fun x => match x with | .tup [.int i, .int j] => .bl (decide (i > j)) | _ => .non, fun x hx => ?_, _, rfl, ea_nil ?_⟩
      · obtain ⟨z, _, rfl⟩ := List.mem_map.mp hx
        refine eg_tup ⟨_, rfl, rfl, egs_cons (eg_name (egs_cons (eg_name (egs_nil ?_))))⟩
        dsimp only [List.set, wipeR]
        exact ev_op (ev_var rfl (ev_var rfl (rv_I0b rfl)))
      · have e2 : ((lo.zip hi).map fun x => DV.tup [natD x.1, natD x.2]).map (fun x => match x with | .tup [.int i, .int j] => DV.bl (decide (i > j)) | _ => .non) = ((lo.zip hi).map fun x => decide ((x.1 : Int) > (x.2 : Int))).map .bl := by
          rw [List.map_map, List.map_map]
          rfl
        rw [e2]
        refine rva_any ⟨_, rfl, any_gt (zip_le fun a ha => hle a (by omega))⟩
    refine sx_seq (sx_fld (C := Cb) (a := a) (fs := []) rfl B.cl B.space (by decide) (ev_var rfl ?_))
    dsimp only [List.set]
    show Sx K _ (fun z => z = a) _ _ _ [.own (.obj a Cb [("space", spD C d b)]), .d (spD C d b), .d (pointD lo), .d (pointD hi), _, _, _] _
    refine sx_seq (sx_fld (C := Cb) (a := a) (fs := [("space", spD C d b)]) rfl B.cl B.lows (by simp) (ev_var rfl ?_))
    dsimp only [List.set]
    rw [put_lows]
    refine sx_fld (C := Cb) (a := a) (fs := [("space", spD C d b), ("lows", pointD lo)]) rfl B.cl B.highs (by simp) (ev_var rfl ?_)
    dsimp only [List.set]
    rw [put_highs]
    exact ⟨_, q, rfl⟩
/- slots of Box.holds: [(0, 'self'), (1, 'point'), (2, 'low'), (3, 'part'), (4, 'high')] -/
theorem ok_Box_holds {P : Program} {w : World} {K : PySem.W.Frag} {mg : Str → Option Value} {base : Heap} {C Cc Cb Ce fI f : Addr} {fd : FuncData} (F : Fun K "holds" "Box.holds" s_Box_holds f fd) (T : Tx K mg C Cc Cb Ce fI) : FnOk P w K mg base CX0 2 f fd ["self", "point"] (SpD K (fHolds Cb C)) := by
  refine fn_pure F sc_Box_holds (by walk_at "len") (fun cdv A outer s H E hr => ⟨_, (pss_one (ps_ret (pe_callB (x_all K rfl) (by rfl) T.n_all (by decide +kernel) (pa_cons (pe_lc (own := [("low", 2), ("part", 3), ("high", 4)]) (tt := tYes) rfl sc_Box_holds.nd (x_zip3 K (by rfl) T.n_zip (pa_cons (x_fld K (pv 0) rfl) (pa_cons (pv 1) (pa_cons (x_fld K (pv 0) rfl) pa_nil)))) (blkOk_by (N := N_Box_holds) (sc := defScope s_Box_holds) (by decide +kernel)) (fun _ _ _ _ _ => (x_gtup K (n := 3) rfl (pgs_cons (pg_name (i := 2) sc_Box_holds.nd rfl (.inl rfl)) (pgs_cons (pg_name (i := 3) sc_Box_holds.nd rfl (.inl rfl)) (pgs_cons (pg_name (i := 4) sc_Box_holds.nd rfl (.inl rfl)) pgs_nil))))) (fun _ _ _ _ _ => pts_nil) (fun _ _ _ _ _ => (pe_chain op_le op_le (pv 2) (pv 3) (pv 4)))) pa_nil)))), fun c Fr ds P h => ?_⟩)
  try dsimp only [cxOf]
  have B := T.S_Box
  obtain ⟨d, b, lo, hi, p, rfl, ⟨⟨d1, d2⟩, b1, b2⟩, ⟨⟨ll, lp⟩, ⟨hl, hp⟩, hle⟩, ⟨pl, pp⟩, q⟩ := h
  refine (show Sx K _ (fun _ => False) _ _ _ [_, _, .non, .non, .non] _ from ?_)
  refine sx_ret (ev_cb (ea_cons (ev_en (en_lcMap (own_three (by decide) (by decide) (by decide)) (ei_zip3 (ea_cons (ev_blows (C := C) B (ev_var rfl ⟨d, b, lo, hi, rfl, ea_cons (ev_var rfl (ea_cons (ev_bhighs (C := C) B (ev_var rfl ⟨d, b, lo, hi, rfl, ea_nil ⟨_, _, _, rfl, by rw [List.length_map, List.length_map]; omega, by rw [List.length_map, List.length_map]; omega, ?_⟩⟩))))⟩))))))))
  rw [zip3D_nat]
  refine ⟨by rw [List.length_map, List.length_zip, List.length_zip]; omega, fun x => match x with | .tup [.int i, .int j, .int k] => .bl (decide (i ≤ j) && decide (j ≤ k)) | _ => .non, fun x hx => ?_, _, rfl, ea_nil ?_⟩
  · obtain ⟨z, _, rfl⟩ := List.mem_map.mp hx
    refine eg_tup ⟨_, rfl, rfl, egs_cons (eg_name (egs_cons (eg_name (egs_cons (eg_name (egs_nil ?_))))))⟩
    dsimp only [List.set, wipeR]
    refine ev_chain (ev_var rfl (ev_var rfl (rv_I0b ⟨_, rfl, ?_⟩)))
    refine if_d (fun h1 => ev_var rfl (rv_I0b ?_)) (fun h1 => ?_)
    · show _ = DV.bl _
      rw [decide_eq_true h1, Bool.true_and]
    · show _ = DV.bl _
      rw [decide_eq_false h1, Bool.false_and]
  · have e2 : ((lo.zip (p.zip hi)).map fun x => DV.tup [natD x.1, natD x.2.1, natD x.2.2]).map (fun x => match x with | .tup [.int i, .int j, .int k] => DV.bl (decide (i ≤ j) && decide (j ≤ k)) | _ => .non) = ((lo.zip (p.zip hi)).map fun x => decide ((x.1 : Int) ≤ (x.2.1 : Int)) && decide ((x.2.1 : Int) ≤ (x.2.2 : Int))).map .bl := by
      rw [List.map_map, List.map_map]
      rfl
    rw [e2]
    refine rva_all ?_
    rw [List.all_map]
    have e3 : (lo.zip (p.zip hi)).all (id ∘ fun x => decide ((x.1 : Int) ≤ (x.2.1 : Int)) && decide ((x.2.1 : Int) ≤ (x.2.2 : Int))) = heldB lo p hi := by
      unfold heldB
      congr 1
      funext x
      show (decide ((x.1 : Int) ≤ (x.2.1 : Int)) && decide ((x.2.1 : Int) ≤ (x.2.2 : Int))) = _
      rw [Bool.eq_iff_iff]
      simp only [Bool.and_eq_true, decide_eq_true_iff, Int.ofNat_le]
    rw [e3]
    exact q
theorem ok__side_left {P : Program} {w : World} {K : PySem.W.Frag} {mg : Str → Option Value} {base : Heap} {C Cc Cb Ce fI f : Addr} {fd : FuncData} (F : Fun K "_side_left" "_side_left" s__side_left f fd) (T : Tx K mg C Cc Cb Ce fI) : FnOk P w K mg base CX0 1 f fd ["box", "axis", "low", "high"] (SpD K (fSideLeft Cb C)) := by
  refine fn_pure F sc__side_left (by walk_at "len") (fun cdv A outer s H E hr => ⟨_, (pss_cons (ps_if (PW.pt (pw_and (pt_cmpR op_le (pe_ix (x_ixT K) (x_fld K (pv 0) rfl) (pv 1) (fun _ _ => rfl)) (pv 2) (nomark _)) (pw_and1 (pt_cmpR op_le (pv 3) (pe_ix (x_ixT K) (x_fld K (pv 0) rfl) (pv 1) (fun _ _ => rfl)) (nomark _))))) (pss_one (ps_ret pe_non)) pss_nil)
    (pss_one (ps_ret (pe_tup (pa_cons (pv 2) (pa_cons (pv 3) pa_nil)))))), fun c Fr ds P h => ?_⟩)
  try dsimp only [cxOf]
  have B := T.S_Box
  obtain ⟨d, b, lo, hi, a, x, y, rfl, ⟨⟨ll, lp⟩, ⟨hl, hp⟩, hle⟩, ha, q⟩ := h
  refine (show Sx K _ (fun _ => False) _ _ _ [_, _, _, _] _ from ?_)
  refine sx_seq (sx_if (et_and (et_test (ev_op (ev_op (ev_blows (C := C) B (ev_var rfl ⟨d, b, lo, hi, rfl, ev_var rfl (rv_ixT (nat_at (show a < lo.length by omega)) (ev_var rfl (rv_I0b ⟨_, rfl, ?_⟩)))⟩)))))))
  have e1 : decide (((lo.getD a 0 : Nat) : Int) ≤ (x : Int)) = decide (lo.getD a 0 ≤ x) := by
    rw [Bool.eq_iff_iff, decide_eq_true_iff, decide_eq_true_iff]
    exact Int.ofNat_le
  have e2 : decide ((y : Int) ≤ ((hi.getD a 0 : Nat) : Int)) = decide (y ≤ hi.getD a 0) := by
    rw [Bool.eq_iff_iff, decide_eq_true_iff, decide_eq_true_iff]
    exact Int.ofNat_le
  rw [e1]
  unfold sdD at q
  by_cases h1 : lo.getD a 0 ≤ x
  · rw [decide_eq_true h1, if_pos rfl]
    refine et_test (ev_op (ev_var rfl (ev_op (ev_bhighs (C := C) B (ev_var rfl ⟨d, b, lo, hi, rfl, ev_var rfl (rv_ixT (nat_at (show a < hi.length by omega)) (rv_I0b ⟨_, rfl, ?_⟩))⟩)))))
    rw [e2]
    by_cases h2 : y ≤ hi.getD a 0
    · rw [decide_eq_true h2, if_pos rfl]
      rw [if_pos ⟨h1, h2⟩] at q
      exact sx_ret (ev_non q)
    · rw [decide_eq_false h2, if_neg Bool.false_ne_true]
      rw [if_neg fun z => h2 z.2] at q
      exact sx_next (sx_ret (ev_tup (ea_cons (ev_var rfl (ea_cons (ev_var rfl (ea_nil ⟨show (2 : Nat) ≤ 1000000 by decide, q⟩)))))))
  · rw [decide_eq_false h1, if_neg Bool.false_ne_true, if_neg Bool.false_ne_true]
    rw [if_neg fun z => h1 z.1] at q
    exact sx_next (sx_ret (ev_tup (ea_cons (ev_var rfl (ea_cons (ev_var rfl (ea_nil ⟨show (2 : Nat) ≤ 1000000 by decide, q⟩)))))))
end

-- @FILE K60g
/-! ## covering a box -/









abbrev s__halves_met : Stmt := topS 18
abbrev N__halves_met : List Str := ["box", "length", "number", "sides", "axis", "low", "high", "middle", "met", "half", "first", "last", "side"]
theorem sc__halves_met : FnScope N__halves_met ["box", "length", "number", "sides"] (defScope s__halves_met) := ⟨rfl, rfl, rfl, by decide +kernel, rfl, by decide +kernel, by decide +kernel⟩
/- slots of _halves_met: [(0, 'box'), (1, 'length'), (2, 'number'), (3, 'sides'), (4, 'axis'), (5, 'low'), (6, 'high'), (7, 'middle'), (8, 'met'), (9, 'half'), (10, 'first'), (11, 'last'), (12, 'side')] -/
/-- the sides of a cell that are not within the box's -/
def sidesL (d b : Nat) (lo hi : Nat → Nat) (l k : Nat) : List DV := (List.range d).map fun a => sdD (lo a) (hi a) (GM.lowC d b l k a) (GM.highC d b l k a)
def cellD (d b : Nat) (lo hi : Nat → Nat) (x : Nat × Nat) : DV := .tup [natD x.1, natD x.2, .tuf (sidesL d b lo hi x.1 x.2)]
/-- a half of a cell, if the box meets it -/
def metOne (d b : Nat) (lo hi : Nat → Nat) (l k t : Nat) : List (Nat × Nat) :=
  if GM.lowC d b (l + 1) (2 * k + t) (l % d) ≤ hi (l % d) ∧ lo (l % d) ≤ GM.highC d b (l + 1) (2 * k + t) (l % d) then [(l + 1, 2 * k + t)] else []
def metH (d b : Nat) (lo hi : Nat → Nat) (l k : Nat) : List (Nat × Nat) := metOne d b lo hi l k 1 ++ metOne d b lo hi l k 0
def fHalvesMet (Cb C : Addr) : Cfg → List DV → (DV → Prop) → Prop := fun _ ds P => ∃ (d b : Nat) (lo hi : List Nat) (l k : Nat), ds = [bxD Cb C d b lo hi, natD l, natD k, .tuf (sidesL d b (fnc lo) (fnc hi) l k)] ∧ OkS d b ∧ OkB d b lo hi ∧ l < d * b ∧ k < 2 ^ l ∧
  P (.lst ((metH d b (fnc lo) (fnc hi) l k).map (cellD d b (fnc lo) (fnc hi))))
theorem splice {d a : Nat} {f g : Nat → DV} (ha : a < d) (h : ∀ i, i < d → i ≠ a → g i = f i) : (((List.range d).map f).take a ++ [g a]) ++ ((List.range d).map f).drop (a + 1) = (List.range d).map g := by
  have len : (((List.range d).map f).take a).length = a := by
    rw [List.length_take, List.length_map, List.length_range]
    omega
  refine List.ext_getElem? fun i => ?_
  rcases Nat.lt_trichotomy i a with hi | hi | hi
  · rw [List.getElem?_append_left (by rw [List.length_append, len]; simp only [List.length_cons, List.length_nil]; omega), List.getElem?_append_left (by omega), List.getElem?_take_of_lt hi, List.getElem?_map, List.getElem?_map, List.getElem?_range (by omega)]
    show some (f i) = some (g i)
    rw [h i (by omega) (by omega)]
  · subst hi
    rw [List.getElem?_append_left (by rw [List.length_append, len]; simp only [List.length_cons, List.length_nil]; omega), List.getElem?_append_right (by omega), len, Nat.sub_self, List.getElem?_map, List.getElem?_range ha]
    rfl
  · rw [List.getElem?_append_right (by rw [List.length_append, len]; simp only [List.length_cons, List.length_nil]; omega), List.length_append, len, List.getElem?_drop]
    rw [show a + 1 + (i - (a + [g a].length)) = i by simp only [List.length_cons, List.length_nil]; omega, List.getElem?_map, List.getElem?_map]
    by_cases hd : i < d
    · rw [List.getElem?_range hd]
      show some (f i) = some (g i)
      rw [h i hd (by omega)]
    · rw [List.getElem?_eq_none (by rw [List.length_range]; omega)]
      rfl
theorem sides_len (d b : Nat) (lo hi : Nat → Nat) (l k : Nat) : (sidesL d b lo hi l k).length = d := by
  unfold sidesL
  rw [List.length_map, List.length_range]
theorem sides_at {d b a : Nat} {lo hi : Nat → Nat} {l k : Nat} (ha : a < d) : (sidesL d b lo hi l k)[a]? = some (sdD (lo a) (hi a) (GM.lowC d b l k a) (GM.highC d b l k a)) := by
  unfold sidesL
  rw [List.getElem?_map, List.getElem?_range ha]
  rfl
theorem sides_half {d b l k t : Nat} {lo hi : Nat → Nat} (ht : t < 2) (hd : 0 < d) {x : DV} (hx : x = sdD (lo (l % d)) (hi (l % d)) (GM.lowC d b (l + 1) (2 * k + t) (l % d)) (GM.highC d b (l + 1) (2 * k + t) (l % d))) :
    ((sidesL d b lo hi l k).take (l % d) ++ [x]) ++ (sidesL d b lo hi l k).drop (l % d + 1) = sidesL d b lo hi (l + 1) (2 * k + t) := by
  subst hx
  refine splice (g := fun a => sdD (lo a) (hi a) (GM.lowC d b (l + 1) (2 * k + t) a) (GM.highC d b (l + 1) (2 * k + t) a)) (Nat.mod_lt _ hd) fun i hi hn => ?_
  have h := GM.half_other (B := b) (k := k) ht hn hi
  show sdD _ _ _ _ = sdD _ _ _ _
  rw [h.1, h.2]
theorem sides_same {d b l k t : Nat} {lo hi : Nat → Nat} (ht : t < 2) (hd : 0 < d) (hl : l < d * b) (h : lo (l % d) ≤ GM.lowC d b l k (l % d) ∧ GM.highC d b l k (l % d) ≤ hi (l % d)) : sidesL d b lo hi (l + 1) (2 * k + t) = sidesL d b lo hi l k := by
  unfold sidesL
  refine List.map_congr_left fun a ha => ?_
  have ha := List.mem_range.mp ha
  have hi := GM.half_in (k := k) ht hd hl ha
  by_cases e : a = l % d
  · subst e
    unfold sdD
    rw [if_pos ⟨by omega, by omega⟩, if_pos h]
  · have h := GM.half_other (B := b) (k := k) ht e ha
    rw [h.1, h.2]
theorem met_in {d b l k t : Nat} {lo hi : Nat → Nat} (ht : t < 2) (hd : 0 < d) (hl : l < d * b) (h : lo (l % d) ≤ GM.lowC d b l k (l % d) ∧ GM.highC d b l k (l % d) ≤ hi (l % d)) : metOne d b lo hi l k t = [(l + 1, 2 * k + t)] := by
  have := GM.half_in (k := k) ht hd hl (Nat.mod_lt l hd)
  unfold metOne
  rw [if_pos ⟨by omega, by omega⟩]
theorem met_len {d b l k : Nat} {lo hi : Nat → Nat} : (metH d b lo hi l k).length ≤ 2 := by
  unfold metH metOne
  rw [List.length_append]
  split <;> split <;> simp
section
variable {P : Program} {w : World} {K : PySem.W.Frag} {mg : Str → Option Value} {base : Heap} {C Cb : Addr}
theorem ok__halves_met {P : Program} {w : World} {K : PySem.W.Frag} {mg : Str → Option Value} {base : Heap} {C Cc Cb Ce fI f : Addr} {fd : FuncData} (F : Fun K "_halves_met" "_halves_met" s__halves_met f fd) (T : Tx K mg C Cc Cb Ce fI) (C__side_left : Cal P w K mg base 1 "_side_left" (SpD K (fSideLeft Cb C))) : FnOk P w K mg base CX0 2 f fd ["box", "length", "number", "sides"] (SpD K (fHalvesMet Cb C)) := by
  refine fn_pure F sc__halves_met (by walk_at "len") (fun cdv A outer s H E hr => ⟨_, (pss_cons (ps_set (i := 4) sc__halves_met.nd rfl (.inl rfl) (pe_op op_mod (pv 1) (x_fld K (x_fld K (pv 0) rfl) rfl)))
    (pss_cons (ps_if (pt_cmpR op_isN (pe_ix (x_ixT K) (pv 3) (pv 4) (fun _ _ => rfl)) pe_non (nomark _)) (pss_one (ps_ret (pe_lst (pa_cons (pe_tup (pa_cons (pe_op op_add (pv 1) pe_int) (pa_cons (pe_op op_add (pe_op op_mul pe_int (pv 2)) pe_int) (pa_cons (pv 3) pa_nil)))) (pa_cons (pe_tup (pa_cons (pe_op op_add (pv 1) pe_int) (pa_cons (pe_op op_mul pe_int (pv 2)) (pa_cons (pv 3) pa_nil)))) pa_nil))))) pss_nil)
    (pss_cons (ps_asg (pe_ix (x_ixT K) (pv 3) (pv 4) (fun _ _ => rfl)) (x_gtup K (n := 2) rfl (pgs_cons (pg_name (i := 5) sc__halves_met.nd rfl (.inl rfl)) (pgs_cons (pg_name (i := 6) sc__halves_met.nd rfl (.inl rfl)) pgs_nil))))
    (pss_cons (ps_set (i := 7) sc__halves_met.nd rfl (.inl rfl) (pe_op op_fdiv (pe_op op_add (pv 5) (pv 6)) pe_int))
    (pss_cons (ps_set (i := 8) sc__halves_met.nd rfl (.inl rfl) (pe_lst pa_nil))
    (pss_cons (ps_for PassesOwn.never rfl (x_row K (pe_tup (pa_cons (pe_tup (pa_cons (pe_op op_add (pe_op op_mul pe_int (pv 2)) pe_int) (pa_cons (pe_op op_add (pv 7) pe_int) (pa_cons (pv 6) pa_nil)))) (pa_cons (pe_tup (pa_cons (pe_op op_mul pe_int (pv 2)) (pa_cons (pv 5) (pa_cons (pv 7) pa_nil)))) pa_nil)))) (x_gtup K (n := 3) rfl (pgs_cons (pg_name (i := 9) sc__halves_met.nd rfl (.inl rfl)) (pgs_cons (pg_name (i := 10) sc__halves_met.nd rfl (.inl rfl)) (pgs_cons (pg_name (i := 11) sc__halves_met.nd rfl (.inl rfl)) pgs_nil)))) (pss_one (ps_if (PW.pt (pw_and (pt_cmpR op_le (pv 10) (pe_ix (x_ixT K) (x_fld K (pv 0) rfl) (pv 4) (fun _ _ => rfl)) (nomark _)) (pw_and1 (pt_cmpR op_le (pe_ix (x_ixT K) (x_fld K (pv 0) rfl) (pv 4) (fun _ _ => rfl)) (pv 11) (nomark _))))) (pss_cons (ps_set (i := 12) sc__halves_met.nd rfl (.inl rfl) (pe_cal C__side_left hr (by decide) (by rfl) (pa_cons (pv 0) (pa_cons (pv 4) (pa_cons (pv 10) (pa_cons (pv 11) pa_nil))))))
    (pss_one (ps_expr (pe_bm PySem.F.plainAttrs_list PySem.F.slot_list_append PySem.F.type_list_append mt_append (pv 8) (pa_cons (pe_tup (pa_cons (pe_op op_add (pv 1) pe_int) (pa_cons (pv 9) (pa_cons (pe_op (x_catF K) (pe_op (x_catF K) (pe_slice (x_slA K) (pv 3) po_none (po_some (pv 4))) (pe_tupF (pa_cons (pv 12) pa_nil))) (pe_slice (x_slA K) (pv 3) (po_some (pe_op op_add (pv 4) pe_int)) po_none)) pa_nil)))) pa_nil))))) pss_nil)))
    (pss_one (ps_ret (pv 8))))))))), fun c Fr ds P h => ?_⟩)
  try dsimp only [cxOf]
  have S := T.S_Space
  have B := T.S_Box
  obtain ⟨d, b, lo, hi, l, k, rfl, hs, ho, hl, hk, q⟩ := h
  have ho' := ho
  obtain ⟨⟨ll, lp⟩, ⟨hhl, hp⟩, hle⟩ := ho'
  have hs' := hs
  obtain ⟨⟨d1, d2⟩, b1, b2⟩ := hs'
  have hD : d * b ≤ 3 * 10 := Nat.mul_le_mul d2 b2
  have ha : l % d < d := Nat.mod_lt l (by omega)
  have hk64 : k < 2 ^ 30 := Nat.lt_of_lt_of_le hk (Nat.pow_le_pow_right (by decide) (by omega))
  have hlow : GM.lowC d b l k (l % d) < 2 ^ 10 := Nat.lt_of_lt_of_le (GM.cw_lt fun j => GM.lowB_lt l k j) (Nat.pow_le_pow_right (by decide) b2)
  have hhigh : GM.highC d b l k (l % d) < 2 ^ 10 := Nat.lt_of_lt_of_le (GM.cw_lt fun j => GM.highB_lt l k j) (Nat.pow_le_pow_right (by decide) b2)
  refine (show Sx K _ (fun _ => False) _ _ _ [_, _, _, _, .non, .non, .non, .non, .non, .non, .non, .non, .non] _ from ?_)
  refine sx_seq (sx_asg (ev_op (ev_var rfl (ev_sdims S (ev_bspace (C := C) B (ev_var rfl ⟨d, b, lo, hi, rfl, d, b, rfl, rv_Ii (by omega) (eg_name ?_)⟩))))))
  dsimp only [List.set]
  rw [← Int.natCast_emod]
  refine sx_seq (sx_if (et_test (ev_op (ev_op (ev_varF rfl (ev_var rfl (rv_ixT (sides_at ha) (ev_non (rv_isN ⟨_, rfl, ?_⟩)))))))))
  by_cases hw : lo.getD (l % d) 0 ≤ GM.lowC d b l k (l % d) ∧ GM.highC d b l k (l % d) ≤ hi.getD (l % d) 0
  · rw [show isNonD (sdD (fnc lo (l % d)) (fnc hi (l % d)) (GM.lowC d b l k (l % d)) (GM.highC d b l k (l % d))) = true by unfold sdD; rw [if_pos hw]; rfl, if_pos rfl]
    unfold metH at q
    rw [met_in (by decide) (by omega) hl hw, met_in (by decide) (by omega) hl hw] at q
    refine sx_ret (ev_lst (ea_cons (ev_tup (ea_cons (ev_op (ev_var rfl (ev_int (rv_I0i (ea_cons (ev_op (ev_op (ev_int (ev_var rfl (rv_Ii (.inl ⟨by decide, by decide⟩) (ev_int (rv_I0i (ea_cons (ev_var rfl (ea_nil ⟨show (3 : Nat) ≤ 1000000 by decide, ?_⟩)))))))))))))))))))
    refine ea_cons (ev_tup (ea_cons (ev_op (ev_var rfl (ev_int (rv_I0i (ea_cons (ev_op (ev_int (ev_var rfl (rv_Ii (.inl ⟨by decide, by decide⟩) (ea_cons (ev_var rfl (ea_nil ⟨show (3 : Nat) ≤ 1000000 by decide, ea_nil ⟨show (2 : Nat) ≤ 1000000 by decide, ?_⟩⟩))))))))))))))
    have e1 : (2 : Int) * (k : Int) + 1 = ((2 * k + 1 : Nat) : Int) := by push_cast; rfl
    have e2 : (2 : Int) * (k : Int) = ((2 * k + 0 : Nat) : Int) := by push_cast; omega
    have e3 : (l : Int) + 1 = ((l + 1 : Nat) : Int) := by push_cast; rfl
    rw [e1, e2, e3]
    have s1 := sides_same (lo := fnc lo) (hi := fnc hi) (t := 1) (by decide) (show 0 < d by omega) hl hw
    have s0 := sides_same (lo := fnc lo) (hi := fnc hi) (t := 0) (by decide) (show 0 < d by omega) hl hw
    have q' : P (.lst [cellD d b (fnc lo) (fnc hi) (l + 1, 2 * k + 1), cellD d b (fnc lo) (fnc hi) (l + 1, 2 * k + 0)]) := q
    unfold cellD at q'
    dsimp only at q'
    rw [s1, s0] at q'
    exact q'
  · rw [show isNonD (sdD (fnc lo (l % d)) (fnc hi (l % d)) (GM.lowC d b l k (l % d)) (GM.highC d b l k (l % d))) = false by unfold sdD; rw [if_neg hw]; rfl, if_neg Bool.false_ne_true]
    have esd : sdD (fnc lo (l % d)) (fnc hi (l % d)) (GM.lowC d b l k (l % d)) (GM.highC d b l k (l % d)) = .tup [natD (GM.lowC d b l k (l % d)), natD (GM.highC d b l k (l % d))] := by unfold sdD; rw [if_neg hw]
    refine sx_next (sx_seq (sx_asg (ev_op (ev_varF rfl (ev_var rfl (rv_ixT ((sides_at ha).trans (congrArg some esd)) (eg_tup ⟨_, rfl, rfl, egs_cons (eg_name (egs_cons (eg_name (egs_nil ?_))))⟩)))))))
    dsimp only [List.set]
    refine sx_seq (sx_asg (ev_op (ev_op (ev_var rfl (ev_var rfl (rv_I0i (ev_int (rv_Ii ⟨by decide, by decide⟩ (eg_name ?_)))))))))
    dsimp only [List.set]
    rw [show ((GM.lowC d b l k (l % d) : Int) + (GM.highC d b l k (l % d) : Int)) / 2 = (((GM.lowC d b l k (l % d) + GM.highC d b l k (l % d)) / 2 : Nat) : Int) by omega]
    refine sx_seq (sx_new (en_lst (ea_nil ⟨by decide, fun a C fs h => (nomatch h), fun w a S n h => (nomatch h), ?_⟩)))
    dsimp only [List.set]
    refine sx_seq (sx_for (ei_row (ev_tup (ea_cons (ev_tup (ea_cons (ev_op (ev_op (ev_int (ev_var rfl (rv_Ii (.inl ⟨by decide, by decide⟩) (ev_int (rv_I0i (ea_cons (ev_op (ev_var rfl (ev_int (rv_I0i (ea_cons (ev_var rfl (ea_nil ⟨show (3 : Nat) ≤ 1000000 by decide, ?_⟩)))))))))))))))))))))
    refine ea_cons (ev_tup (ea_cons (ev_op (ev_int (ev_var rfl (rv_Ii (.inl ⟨by decide, by decide⟩) (ea_cons (ev_var rfl (ea_cons (ev_var rfl (ea_nil ⟨show (3 : Nat) ≤ 1000000 by decide, ea_nil ⟨show (2 : Nat) ≤ 1000000 by decide, _, .inr rfl, ?_⟩⟩)))))))))))
    have hax := fun t (ht : t < 2) => GM.half_axis (k := k) ht (show 0 < d by omega) hl
    have items : ∀ i x, [DV.tup [.int (2 * (k : Int) + 1), .int ((((GM.lowC d b l k (l % d) + GM.highC d b l k (l % d)) / 2 : Nat) : Int) + 1), natD (GM.highC d b l k (l % d))], .tup [.int (2 * (k : Int)), natD (GM.lowC d b l k (l % d)), natD ((GM.lowC d b l k (l % d) + GM.highC d b l k (l % d)) / 2)]][i]? = some x →
        i < 2 ∧ x = .tup [natD (2 * k + (1 - i)), natD (GM.lowC d b (l + 1) (2 * k + (1 - i)) (l % d)), natD (GM.highC d b (l + 1) (2 * k + (1 - i)) (l % d))] := by
      intro i x hx
      have hi2 : i < 2 := (List.getElem?_eq_some_iff.mp hx).1
      refine ⟨hi2, ?_⟩
      have h0 : i = 0 ∨ i = 1 := by omega
      rcases h0 with rfl | rfl
      · cases hx
        have h := hax 1 (by decide)
        rw [if_neg (by decide), if_neg (by decide)] at h
        rw [show 1 - 0 = 1 from rfl, h.1, h.2]
        rfl
      · cases hx
        have h := hax 0 (by decide)
        rw [if_pos rfl, if_pos rfl] at h
        rw [show 1 - 1 = 0 from rfl, h.1, h.2]
        rfl
    refine ⟨fun i ρ' => ∃ y1 y2 y3 y4 : SV, ρ' = [.d (bxD Cb C d b lo hi), .d (natD l), .d (natD k), .d (.tuf (sidesL d b (fnc lo) (fnc hi) l k)), .d (natD (l % d)), .d (natD (GM.lowC d b l k (l % d))), .d (natD (GM.highC d b l k (l % d))), .d (natD ((GM.lowC d b l k (l % d) + GM.highC d b l k (l % d)) / 2)),
      .own (.lst ((if i = 0 then [] else if i = 1 then metOne d b (fnc lo) (fnc hi) l k 1 else metH d b (fnc lo) (fnc hi) l k).map (cellD d b (fnc lo) (fnc hi)))), y1, y2, y3, y4], ⟨.non, .non, .non, .non, rfl⟩, ?_, ?_⟩
    · rintro i x ρ' hx ⟨y1, y2, y3, y4, rfl⟩
      obtain ⟨hi2, rfl⟩ := items i x hx
      have step : (if i + 1 = 0 then [] else if i + 1 = 1 then metOne d b (fnc lo) (fnc hi) l k 1 else metH d b (fnc lo) (fnc hi) l k) = (if i = 0 then [] else if i = 1 then metOne d b (fnc lo) (fnc hi) l k 1 else metH d b (fnc lo) (fnc hi) l k) ++ metOne d b (fnc lo) (fnc hi) l k (1 - i) := by
        have h0 : i = 0 ∨ i = 1 := by omega
        rcases h0 with rfl | rfl <;> rfl
      dsimp -failIfUnchanged only
      rw [step]
      have short : (if i = 0 then [] else if i = 1 then metOne d b (fnc lo) (fnc hi) l k 1 else metH d b (fnc lo) (fnc hi) l k).length < 3 := by
        have := met_len (d := d) (b := b) (l := l) (k := k) (lo := fnc lo) (hi := fnc hi)
        split
        · decide
        · split
          · unfold metOne
            split <;> simp
          · omega
      generalize (if i = 0 then [] else if i = 1 then metOne d b (fnc lo) (fnc hi) l k 1 else metH d b (fnc lo) (fnc hi) l k) = acc at short
      have ht : 1 - i < 2 := by omega
      generalize 1 - i = t at ht
      refine eg_tup ⟨_, rfl, rfl, egs_cons (eg_name (egs_cons (eg_name (egs_cons (eg_name (egs_nil ?_))))))⟩
      dsimp only [List.set]
      have low2 : GM.lowC d b (l + 1) (2 * k + t) (l % d) < 2 ^ b := GM.cw_lt fun j => GM.lowB_lt _ _ j
      refine sx_if (et_and (et_test (ev_op (ev_var rfl (ev_op (ev_bhighs (C := C) B (ev_var rfl ⟨d, b, lo, hi, rfl, ev_var rfl (rv_ixT (nat_at (show l % d < hi.length by omega)) (rv_I0b ⟨_, rfl, ?_⟩))⟩)))))))
      have skip : ¬ (GM.lowC d b (l + 1) (2 * k + t) (l % d) ≤ fnc hi (l % d) ∧ fnc lo (l % d) ≤ GM.highC d b (l + 1) (2 * k + t) (l % d)) → metOne d b (fnc lo) (fnc hi) l k t = [] := fun h => by
        unfold metOne
        rw [if_neg h]
      refine if_d (fun h1 => ?_) (fun h1 => ?_)
      · refine et_test (ev_op (ev_op (ev_blows (C := C) B (ev_var rfl ⟨d, b, lo, hi, rfl, ev_var rfl (rv_ixT (nat_at (show l % d < lo.length by omega)) (ev_var rfl (rv_I0b ⟨_, rfl, ?_⟩)))⟩))))
        refine if_d (fun h2 => ?_) (fun h2 => ?_)
        · have hm : metOne d b (fnc lo) (fnc hi) l k t = [(l + 1, 2 * k + t)] := by
            unfold metOne
            rw [if_pos ⟨Int.ofNat_le.mp h1, Int.ofNat_le.mp h2⟩]
          rw [hm]
          refine sx_seq (sx_asg (ev_call (ea_cons (ev_var rfl (ea_cons (ev_var rfl (ea_cons (ev_var rfl (ea_cons (ev_var rfl (ea_nil ⟨d, b, lo, hi, _, _, _, rfl, ho, ha, eg_name ?_⟩)))))))))))
          dsimp only [List.set]
          refine sx_append (i := 8) rfl (ev_tup (ea_cons (ev_op (ev_var rfl (ev_int (rv_I0i (ea_cons (ev_var rfl (ea_cons (ev_op (ev_op (ev_slA (ev_varF rfl ⟨_, rfl, eo_none (eo_some (ev_var rfl ⟨_, rfl, ev_tupF (ea_cons (ev_var rfl (ea_nil ⟨show (1 : Nat) ≤ 1000000 by decide, ?_⟩)))⟩))⟩)))))))))))))
          rw [cutD_to _ _ (by rw [sides_len]; omega)]
          refine rv_catF1 (by simp) (by rw [List.length_take, sides_len]; simp only [List.length_cons, List.length_nil]; omega) (ev_slA (ev_varF rfl ⟨_, rfl, eo_some (ev_op (ev_var rfl (ev_int (rv_I0i ⟨_, rfl, eo_none ?_⟩))))⟩))
          rw [show ((l % d : Nat) : Int) + 1 = ((l % d + 1 : Nat) : Int) by push_cast; rfl, cutD_from _ _ (by rw [sides_len]; omega)]
          refine rv_catF2 (by simp) (by rw [List.length_append, List.length_take, List.length_drop, sides_len]; simp only [List.length_cons, List.length_nil]; omega) ?_
          rw [sides_half ht (by omega) rfl]
          refine ea_nil ⟨show (3 : Nat) ≤ 1000000 by decide, by rw [List.length_map]; omega, ?_⟩
          dsimp only [List.set]
          rw [List.map_append]
          exact ⟨_, _, _, _, rfl⟩
        · rw [skip fun z => h2 (Int.ofNat_le.mpr z.2), List.append_nil]
          exact sx_next ⟨_, _, _, _, rfl⟩
      · rw [if_neg Bool.false_ne_true, skip fun z => h1 (Int.ofNat_le.mpr z.1), List.append_nil]
        exact sx_next ⟨_, _, _, _, rfl⟩
    · rintro ρ' ⟨y1, y2, y3, y4, rfl⟩
      exact sx_freeze (i := 8) rfl (sx_ret (ev_var rfl q))
end

-- @FILE K60h
/-! ## prefixes of a box -/






abbrev s_pfxes_of : Stmt := topS 16
abbrev N_pfxes_of : List Str := ["box", "found", "last", "sides", "waiting", "length", "number", "axis"]
theorem sc_pfxes_of : FnScope N_pfxes_of ["box"] (defScope s_pfxes_of) := ⟨rfl, rfl, rfl, by decide +kernel, rfl, by decide +kernel, by decide +kernel⟩
/- slots of prefixes_of: [(0, 'box'), (1, 'found'), (2, 'last'), (3, 'sides'), (4, 'waiting'), (5, 'length'), (6, 'number'), (7, 'axis')] -/
/-- cells that have each point of a box once, and no other -/
def CovAll (d b : Nat) (lo hi : Nat → Nat) (fs : List (Nat × Nat)) : Prop := (∀ x ∈ fs, x.1 ≤ d * b ∧ x.2 < 2 ^ x.1) ∧ (∀ n, n < 2 ^ (d * b) → (fs.map fun x => GM.isC d b x n).sum = GM.inB d b lo hi n) ∧ fs.length ≤ 2 ^ 16
abbrev preP (x : Nat × Nat) : DV := preD x.1 x.2
def fPrefixes (Cb C : Addr) : Cfg → List DV → (DV → Prop) → Prop := fun _ ds P => ∃ (d b : Nat) (lo hi : List Nat), ds = [bxD Cb C d b lo hi] ∧ OkS d b ∧ OkB d b lo hi ∧ d * b ≤ 16 ∧ ∀ fs, CovAll d b (fnc lo) (fnc hi) fs → P (.lst (fs.map preP))
/-- the box meets a cell -/
def meetsC (d b : Nat) (lo hi : Nat → Nat) (x : Nat × Nat) : Prop := ∀ a, a < d → GM.lowC d b x.1 x.2 a ≤ hi a ∧ lo a ≤ GM.highC d b x.1 x.2 a
def OkW (d b : Nat) (lo hi : Nat → Nat) (x : Nat × Nat) : Prop := x.1 ≤ d * b ∧ x.2 < 2 ^ x.1 ∧ meetsC d b lo hi x
theorem met_ok {d b l k t : Nat} {lo hi : Nat → Nat} (ht : t < 2) (hl : l < d * b) (hk : k < 2 ^ l) (hm : meetsC d b lo hi (l, k)) : ∀ x ∈ metOne d b lo hi l k t, OkW d b lo hi x := by
  intro x hx
  unfold metOne at hx
  split at hx
  · rename_i h
    cases List.mem_singleton.mp hx
    refine ⟨hl, ?_, fun a ha => ?_⟩
    · show 2 * k + t < 2 ^ (l + 1)
      rw [Nat.pow_succ]
      omega
    · by_cases e : a = l % d
      · subst e
        exact h
      · have := GM.half_other (B := b) (k := k) ht e ha
        show GM.lowC d b (l + 1) (2 * k + t) a ≤ hi a ∧ lo a ≤ GM.highC d b (l + 1) (2 * k + t) a
        rw [this.1, this.2]
        exact hm a ha
  · cases hx
theorem met_one_sum {d b l k t : Nat} {lo hi : Nat → Nat} (f : Nat → Nat) : ((metOne d b lo hi l k t).map fun x => f x.1).sum ≤ f (l + 1) := by
  unfold metOne
  split
  · show f (l + 1) + 0 ≤ _
    omega
  · exact Nat.zero_le _
theorem met_sum {d b l k : Nat} {lo hi : Nat → Nat} (f : Nat → Nat) : ((metH d b lo hi l k).map fun x => f x.1).sum ≤ 2 * f (l + 1) := by
  unfold metH
  rw [List.map_append, List.sum_append]
  have h1 := met_one_sum (d := d) (b := b) (l := l) (k := k) (t := 1) (lo := lo) (hi := hi) f
  have h0 := met_one_sum (d := d) (b := b) (l := l) (k := k) (t := 0) (lo := lo) (hi := hi) f
  omega
theorem met_cov {d b l k : Nat} {lo hi : Nat → Nat} (hd : 0 < d) (hl : l < d * b) (n : Nat) : ((metH d b lo hi l k).map fun x => GM.isC d b x n * GM.inB d b lo hi n).sum = (GM.isC d b (l + 1, 2 * k) n + GM.isC d b (l + 1, 2 * k + 1) n) * GM.inB d b lo hi n := by
  have one : ∀ t, ((metOne d b lo hi l k t).map fun x => GM.isC d b x n * GM.inB d b lo hi n).sum = GM.isC d b (l + 1, 2 * k + t) n * GM.inB d b lo hi n := fun t => by
    unfold metOne
    split
    · exact Nat.add_zero _
    · rename_i h
      symm
      refine GM.isC_apart hl (Nat.mod_lt l hd) ?_
      omega
  unfold metH
  rw [List.map_append, List.sum_append, one 1, one 0, Nat.add_mul, Nat.add_comm]
  rfl
theorem sides_pairs {d b l k : Nat} {lo hi : Nat → Nat} : (sidesL d b lo hi l k).all nonOrPair = true := by
  rw [List.all_eq_true]
  intro x hx
  obtain ⟨a, _, rfl⟩ := List.mem_map.mp hx
  unfold sdD
  split <;> rfl
theorem sides_count {d b l k : Nat} {lo hi : Nat → Nat} : (sidesL d b lo hi l k).countP isNonDV = (sidesL d b lo hi l k).length ↔ ∀ a, a < d → lo a ≤ GM.lowC d b l k a ∧ GM.highC d b l k a ≤ hi a := by
  rw [List.countP_eq_length]
  constructor
  · intro h a ha
    have := h _ (List.mem_map.mpr ⟨a, List.mem_range.mpr ha, rfl⟩)
    unfold sdD at this
    split at this
    · assumption
    · cases this
  · intro h x hx
    obtain ⟨a, ha, rfl⟩ := List.mem_map.mp hx
    unfold sdD
    rw [if_pos (h a (List.mem_range.mp ha))]
    rfl
theorem len_sum (D : Nat) : ∀ ws : List (Nat × Nat), ws.length ≤ (ws.map fun x => 2 ^ (D - x.1)).sum
  | [] => Nat.le_refl _
  | y :: r => by
    have ih := len_sum D r
    have : 0 < 2 ^ (D - y.1) := Nat.pow_pos (by decide)
    rw [List.length_cons, List.map_cons, List.sum_cons]
    omega
theorem sum_pos {α : Type} (f : α → Nat) (l : List α) (x : α) : ((l ++ [x]).map f).sum = (l.map f).sum + f x := by
  rw [List.map_append, List.sum_append]
  show _ + (f x + 0) = _
  omega
section
variable {P : Program} {w : World} {K : PySem.W.Frag} {mg : Str → Option Value} {base : Heap} {C Cb : Addr}
theorem ok_pfxes_of {P : Program} {w : World} {K : PySem.W.Frag} {mg : Str → Option Value} {base : Heap} {C Cc Cb Ce fI f : Addr} {fd : FuncData} (F : Fun K "prefixes_of" "prefixes_of" s_pfxes_of f fd) (T : Tx K mg C Cc Cb Ce fI) (C__side_left : Cal P w K mg base 1 "_side_left" (SpD K (fSideLeft Cb C))) (C__halves_met : Cal P w K mg base 2 "_halves_met" (SpD K (fHalvesMet Cb C))) : FnOk P w K mg base CX0 3 f fd ["box"] (SpD K (fPrefixes Cb C)) := by
  refine fn_pure F sc_pfxes_of (by walk_at "len") (fun cdv A outer s H E hr => ⟨_, (pss_cons (ps_set (i := 1) sc_pfxes_of.nd rfl (.inl rfl) (pe_lst pa_nil))
    (pss_cons (ps_set (i := 2) sc_pfxes_of.nd rfl (.inr rfl) (pe_op op_sub (x_fld K (x_fld K (pv 0) rfl) rfl) pe_int))
    (pss_cons (ps_setLc (i := 3) (own := [("axis", 7)]) (tt := tYes) rfl sc_pfxes_of.nd rfl rfl (sw_true rfl rfl rfl (by decide +kernel)) (pi_range1 (by rfl) T.n_range (pa_cons (x_fld K (x_fld K (pv 0) rfl) rfl) pa_nil)) (blkOk_by (N := N_pfxes_of) (sc := defScope s_pfxes_of) (by decide +kernel)) (fun _ _ _ _ _ => (pg_name (i := 7) sc_pfxes_of.nd rfl (.inl rfl))) (fun _ _ _ _ _ => pts_nil) (fun _ _ _ _ _ => (pe_cal C__side_left hr (by decide) (by rfl) (pa_cons (pv 0) (pa_cons (pv 7) (pa_cons pe_int (pa_cons (pv 2) pa_nil)))))))
    (pss_cons (ps_set (i := 4) sc_pfxes_of.nd rfl (.inl rfl) (pe_lst (pa_cons (pe_tup (pa_cons pe_int (pa_cons pe_int (pa_cons (pe_callTy (x_tupF K) (by rfl) T.n_tuple (by decide +kernel) (pa_cons (pv 3) pa_nil)) pa_nil)))) pa_nil)))
    (pss_cons (ps_while PassesOwn.never (x_truth K (pv 4) (fun _ => rfl)) (pss_cons (ps_asg (pe_bm0 PySem.F.plainAttrs_list PySem.F.slot_list_pop PySem.F.type_list_pop mt_pop (pv 4)) (x_gtup K (n := 3) rfl (pgs_cons (pg_name (i := 5) sc_pfxes_of.nd rfl (.inl rfl)) (pgs_cons (pg_name (i := 6) sc_pfxes_of.nd rfl (.inl rfl)) (pgs_cons (pg_name (i := 3) sc_pfxes_of.nd rfl (.inl rfl)) pgs_nil)))))
    (pss_one (ps_if (pt_cmpR op_eq (x_cntN K (hu64 hr) (pv 3) (pa_cons pe_non pa_nil)) (pe_callB (x_len K) (by rfl) T.n_len PySem.boot_len (pa_cons (pv 3) pa_nil)) (nomark _)) (pss_one (ps_expr (pe_bm PySem.F.plainAttrs_list PySem.F.slot_list_append PySem.F.type_list_append mt_append (pv 1) (pa_cons (pe_tup (pa_cons (pv 5) (pa_cons (pv 6) pa_nil))) pa_nil)))) (pss_one (ps_expr (pe_bm PySem.F.plainAttrs_list PySem.F.slot_list_extend PySem.F.type_list_extend mt_extend (pv 4) (pa_cons (pe_cal C__halves_met hr (by decide) (by rfl) (pa_cons (pv 0) (pa_cons (pv 5) (pa_cons (pv 6) (pa_cons (pv 3) pa_nil))))) pa_nil))))))))
    (pss_one (ps_ret (pv 1)))))))), fun c Fr ds P h => ?_⟩)
  try dsimp only [cxOf]
  have S := T.S_Space
  have B := T.S_Box
  obtain ⟨d, b, lo, hi, rfl, hs, ho, hD, q⟩ := h
  have ho' := ho
  obtain ⟨⟨ll, lp⟩, ⟨hhl, hp⟩, hle⟩ := ho'
  have hs' := hs
  obtain ⟨⟨d1, d2⟩, b1, b2⟩ := hs'
  have hp2 : 0 < 2 ^ b := Nat.pow_pos (by decide)
  have hb : ∀ a, a < d → fnc hi a < 2 ^ b := fun a ha => by
    have e := List.getElem?_eq_getElem (show a < hi.length by omega)
    have h2 := hp _ (List.mem_of_getElem? e)
    show hi.getD a 0 < _
    rw [List.getD_eq_getElem?_getD, e]
    exact h2
  refine (show Sx K _ (fun _ => False) _ _ _ [_, .non, .non, .non, .non, .non, .non, .non] _ from ?_)
  refine sx_seq (sx_new (en_lst (ea_nil ⟨by decide, fun a C fs h => (nomatch h), fun w a S n h => (nomatch h), ?_⟩)))
  dsimp only [List.set]
  refine sx_seq (sx_asg (ev_op (ev_sside S (ev_bspace (C := C) B (ev_var rfl ⟨d, b, lo, hi, rfl, d, b, rfl, ev_int (rv_I0i (eg_name ?_))⟩)))))
  dsimp only [List.set]
  rw [show ((2 ^ b : Nat) : Int) - 1 = ((2 ^ b - 1 : Nat) : Int) by omega]
  refine sx_seq (sx_asg (ev_en (en_lcMap (own_name (by decide)) (ei_rng1 (ea_cons (ev_sdims S (ev_bspace (C := C) B (ev_var rfl ⟨d, b, lo, hi, rfl, d, b, rfl, ea_nil ⟨_, rfl, by omega, by omega, ?_⟩⟩))))))))
  refine ⟨by rw [rngD_len]; omega, fun x => match x with | .int i => sdD (fnc lo i.toNat) (fnc hi i.toNat) 0 (2 ^ b - 1) | _ => .non, fun x hx => eg_name ?_, _, rfl, eg_name ?_⟩
  · obtain ⟨i, hi'⟩ := List.mem_iff_getElem?.mp hx
    obtain ⟨h1, rfl⟩ := rngD_of hi'
    rw [Int.toNat_natCast] at h1
    dsimp only [List.set, wipeR]
    rw [show (0 : Int) + (i : Int) = (i : Int) by omega]
    exact ev_call (ea_cons (ev_var rfl (ea_cons (ev_var rfl (ea_cons (ev_int (ea_cons (ev_var rfl (ea_nil ⟨d, b, lo, hi, i, 0, 2 ^ b - 1, rfl, ho, h1, rfl⟩)))))))))
  have e0 : (rngD 0 (d : Int).toNat).map (fun x => match x with | .int i => sdD (fnc lo i.toNat) (fnc hi i.toNat) 0 (2 ^ b - 1) | _ => .non) = sidesL d b (fnc lo) (fnc hi) 0 0 := by
    unfold rngD sidesL
    rw [Int.toNat_natCast, List.map_map]
    refine List.map_congr_left fun a ha => ?_
    show sdD (fnc lo ((0 : Int) + (a : Int)).toNat) (fnc hi ((0 : Int) + (a : Int)).toNat) 0 (2 ^ b - 1) = _
    rw [Int.zero_add, Int.toNat_natCast, GM.lowC_zero, GM.highC_zero]
  rw [e0]
  dsimp only [List.set]
  refine sx_seq (sx_new (en_lst (ea_cons (ev_tup (ea_cons (ev_int (ea_cons (ev_int (ea_cons (ev_cb (ea_cons (ev_var rfl (ea_nil (rva_tupF (ea_nil ⟨show (3 : Nat) ≤ 1000000 by decide, ea_nil ⟨show (1 : Nat) ≤ 1000000 by decide, fun a C fs h => (nomatch h), fun w a S n h => (nomatch h), ?_⟩⟩)))))))))))))))
  dsimp only [List.set]
  refine sx_seq (sx_while (fun m ρ' => ∃ (fs ws : List (Nat × Nat)) (y3 y5 y6 y7 : SV), ρ' = [.d (bxD Cb C d b lo hi), .own (.lst (fs.map preP)), .d (natD (2 ^ b - 1)), y3, .own (.lst (ws.map (cellD d b (fnc lo) (fnc hi)))), y5, y6, y7] ∧ m = (ws.map fun x => 3 ^ (d * b - x.1)).sum ∧
      GM.Cov d b (fnc lo) (fnc hi) fs ws ∧ (∀ x ∈ fs, x.1 ≤ d * b ∧ x.2 < 2 ^ x.1) ∧ (∀ x ∈ ws, OkW d b (fnc lo) (fnc hi) x) ∧ fs.length + (ws.map fun x => 2 ^ (d * b - x.1)).sum ≤ 2 ^ (d * b)) ?_ ?_)
  · refine ⟨_, [], [(0, 0)], _, _, _, _, rfl, rfl, GM.cov_start, fun x h => (nomatch h), fun x h => ?_, ?_⟩
    · cases List.mem_singleton.mp h
      refine ⟨Nat.zero_le _, by decide, fun a ha => ?_⟩
      show GM.lowC d b 0 0 a ≤ _ ∧ _ ≤ GM.highC d b 0 0 a
      rw [GM.lowC_zero, GM.highC_zero]
      have := hb a ha
      have : fnc lo a ≤ fnc hi a := hle a ha
      omega
    · show 0 + (2 ^ (d * b - 0) + 0) ≤ _
      rw [Nat.sub_zero]
      omega
  rintro m ρ' ⟨fs, ws, y3, y5, y6, y7, rfl, rfl, hcov, hfs, hws, hsz⟩
  have h16 : 2 ^ (d * b) ≤ 2 ^ 16 := Nat.pow_le_pow_right (by decide) hD
  refine et_truthL (i := 4) rfl ?_
  rcases List.eq_nil_or_concat ws with rfl | ⟨ws', ⟨l, k⟩, e⟩
  · rw [if_neg (by simp)]
    refine sx_freeze (i := 1) rfl (sx_ret (ev_var rfl (q fs ⟨hfs, fun n hn => ?_, ?_⟩)))
    · have := hcov n hn
      simpa using this
    · have : fs.length ≤ 2 ^ (d * b) := by
        have := hsz
        simp only [List.map_nil, List.sum_nil] at this
        omega
      omega
  · rw [List.concat_eq_append] at e
    subst e
    rw [if_pos (by cases ws' <;> rfl)]
    have hw := hws (l, k) (List.mem_append.mpr (.inr List.mem_cons_self))
    obtain ⟨hl, hk, hm⟩ := hw
    have hl : l ≤ d * b := hl
    have hk : k < 2 ^ l := hk
    have hws' : ∀ x ∈ ws', OkW d b (fnc lo) (fnc hi) x := fun x hx => hws x (List.mem_append.mpr (.inl hx))
    rw [sum_pos] at hsz
    have hsz : fs.length + ((ws'.map fun x => 2 ^ (d * b - x.1)).sum + 2 ^ (d * b - l)) ≤ 2 ^ (d * b) := hsz
    have h2l : 0 < 2 ^ (d * b - l) := Nat.pow_pos (by decide)
    rw [sum_pos]
    have h3l : 0 < 3 ^ (d * b - l) := Nat.pow_pos (by decide)
    refine sx_seq (sx_asgPop (i := 4) (y := cellD d b (fnc lo) (fnc hi) (l, k)) rfl (by rw [List.map_append, List.length_append, List.getElem?_append_right (by simp)]; simp) ?_)
    dsimp only [List.set]
    rw [show ((ws' ++ [(l, k)]).map (cellD d b (fnc lo) (fnc hi))).dropLast = ws'.map (cellD d b (fnc lo) (fnc hi)) by rw [List.map_append]; exact List.dropLast_concat]
    refine eg_tup ⟨_, rfl, rfl, egs_cons (eg_name (egs_cons (eg_name (egs_cons (eg_name (egs_nil ?_))))))⟩
    dsimp only [List.set]
    have hall := sides_count (d := d) (b := b) (l := l) (k := k) (lo := fnc lo) (hi := fnc hi)
    refine sx_if (et_test (ev_op (ev_cntN (ev_var rfl ⟨_, rfl, sides_pairs, ea_cons (ev_non (ea_nil ⟨rfl, ev_cb (ea_cons (ev_varF rfl (ea_nil (rva_len (.inr rfl) (rv_eqI ⟨_, rfl, ?_⟩)))))⟩))⟩))))
    by_cases hin : ∀ a, a < d → fnc lo a ≤ GM.lowC d b l k a ∧ GM.highC d b l k a ≤ fnc hi a
    · rw [decide_eq_true (show (((sidesL d b (fnc lo) (fnc hi) l k).countP isNonDV : Nat) : Int) = (((sidesL d b (fnc lo) (fnc hi) l k).length : Nat) : Int) by rw [hall.mpr hin]), if_pos rfl]
      refine sx_append (i := 1) rfl (ev_tup (ea_cons (ev_var rfl (ea_cons (ev_var rfl (ea_nil ⟨show (2 : Nat) ≤ 1000000 by decide, by rw [List.length_map]; omega, ?_⟩))))))
      dsimp only [List.set]
      refine ⟨(ws'.map fun x => 3 ^ (d * b - x.1)).sum, by show _ < _ + 3 ^ (d * b - l); omega, fs ++ [(l, k)], ws', _, _, _, _, by rw [List.map_append]; rfl, rfl, GM.cov_found hl hin hcov, fun x hx => ?_, hws', ?_⟩
      · rcases List.mem_append.mp hx with h | h
        · exact hfs x h
        · cases List.mem_singleton.mp h
          exact ⟨hl, hk⟩
      · rw [List.length_append, List.length_singleton]
        omega
    · rw [decide_eq_false (show ¬ (((sidesL d b (fnc lo) (fnc hi) l k).countP isNonDV : Nat) : Int) = (((sidesL d b (fnc lo) (fnc hi) l k).length : Nat) : Int) from fun z => hin (hall.mp (Int.ofNat_inj.mp z))), if_neg Bool.false_ne_true]
      have hl' : l < d * b := by
        rcases Nat.lt_or_ge l (d * b) with h | h
        · exact h
        · have e : l = d * b := by omega
          subst e
          refine absurd (fun a ha => ?_) hin
          have h1 := GM.one_cell (B := b) (k := k) ha
          have h2 := hm a ha
          have h2 : GM.lowC d b (d * b) k a ≤ fnc hi a ∧ fnc lo a ≤ GM.highC d b (d * b) k a := h2
          omega
      have ml := met_len (d := d) (b := b) (l := l) (k := k) (lo := fnc lo) (hi := fnc hi)
      have e2 : 2 ^ (d * b - l) = 2 * 2 ^ (d * b - (l + 1)) := by
        rw [show d * b - l = (d * b - (l + 1)) + 1 by omega, Nat.pow_succ]
        omega
      have e3 : 3 ^ (d * b - l) = 3 * 3 ^ (d * b - (l + 1)) := by
        rw [show d * b - l = (d * b - (l + 1)) + 1 by omega, Nat.pow_succ]
        omega
      have m2 := met_sum (d := d) (b := b) (l := l) (k := k) (lo := fnc lo) (hi := fnc hi) fun x => 2 ^ (d * b - x)
      have m3 := met_sum (d := d) (b := b) (l := l) (k := k) (lo := fnc lo) (hi := fnc hi) fun x => 3 ^ (d * b - x)
      have h31 : 0 < 3 ^ (d * b - (l + 1)) := Nat.pow_pos (by decide)
      have wl := len_sum (d * b) ws'
      refine sx_extend (i := 4) rfl (ev_call (ea_cons (ev_var rfl (ea_cons (ev_var rfl (ea_cons (ev_var rfl (ea_cons (ev_var rfl (ea_nil ⟨d, b, lo, hi, l, k, rfl, hs, ho, hl', hk, _, rfl, ?_, ?_⟩))))))))))
      · rw [List.length_map, List.length_map]
        omega
      dsimp only [List.set]
      refine ⟨((ws' ++ metH d b (fnc lo) (fnc hi) l k).map fun x => 3 ^ (d * b - x.1)).sum, ?_, fs, ws' ++ metH d b (fnc lo) (fnc hi) l k, _, _, _, _, by rw [List.map_append], rfl, GM.cov_cut hl' (met_cov (by omega) hl') hcov, hfs, fun x hx => ?_, ?_⟩
      · rw [List.map_append, List.sum_append]
        show _ < _ + 3 ^ (d * b - l)
        omega
      · rcases List.mem_append.mp hx with h | h
        · exact hws' x h
        · rcases List.mem_append.mp h with h | h
          · exact met_ok (by decide) hl' hk hm x h
          · exact met_ok (by decide) hl' hk hm x h
      · rw [List.map_append, List.sum_append]
        omega
end

-- @FILE K60i
/-! ## the law's boxes -/





abbrev s__law_box : Stmt := topS 32
abbrev N__law_box : List Str := ["draw", "space", "one", "other", "pair"]
theorem sc__law_box : FnScope N__law_box ["draw", "space"] (defScope s__law_box) := ⟨rfl, rfl, rfl, by decide +kernel, rfl, by decide +kernel, by decide +kernel⟩
abbrev s__law_meet : Stmt := topS 34
abbrev N__law_meet : List Str := ["space", "one", "other", "lows", "highs", "pair", "low", "high"]
theorem sc__law_meet : FnScope N__law_meet ["space", "one", "other"] (defScope s__law_meet) := ⟨rfl, rfl, rfl, by decide +kernel, rfl, by decide +kernel, by decide +kernel⟩
abbrev s__law_shared : Stmt := topS 35
abbrev N__law_shared : List Str := ["one", "more", "found", "first", "second"]
theorem sc__law_shared : FnScope N__law_shared ["one", "more"] (defScope s__law_shared) := ⟨rfl, rfl, rfl, by decide +kernel, rfl, by decide +kernel, by decide +kernel⟩
/- slots of _law_box: [(0, 'draw'), (1, 'space'), (2, 'one'), (3, 'other'), (4, 'pair')] -/
/- slots of _law_meet: [(0, 'space'), (1, 'one'), (2, 'other'), (3, 'lows'), (4, 'highs'), (5, 'pair'), (6, 'low'), (7, 'high')] -/
/- slots of _law_shared: [(0, 'one'), (1, 'more'), (2, 'found'), (3, 'first'), (4, 'second')] -/
def pairL (f : Nat → Nat → Nat) (p q : List Nat) : List Nat := (p.zip q).map fun x => f x.1 x.2
theorem pairL_len {f : Nat → Nat → Nat} {p q : List Nat} {d : Nat} (h1 : p.length = d) (h2 : q.length = d) : (pairL f p q).length = d := by
  unfold pairL
  rw [List.length_map, List.length_zip]
  omega
theorem pairL_at {f : Nat → Nat → Nat} {p q : List Nat} {a : Nat} (h1 : a < p.length) (h2 : a < q.length) : (pairL f p q).getD a 0 = f (p.getD a 0) (q.getD a 0) := by
  have e1 := List.getElem?_eq_getElem h1
  have e2 := List.getElem?_eq_getElem h2
  have e : (p.zip q)[a]? = some (p[a], q[a]) := (List.getElem?_zip_eq_some (z := (p[a], q[a]))).mpr ⟨e1, e2⟩
  unfold pairL
  rw [List.getD_eq_getElem?_getD, List.getD_eq_getElem?_getD, List.getD_eq_getElem?_getD, List.getElem?_map, e, e1, e2]
  rfl
theorem pairL_mem {f : Nat → Nat → Nat} {p q : List Nat} {x m : Nat} (hf : ∀ i j, i < m → j < m → f i j < m) (h1 : ∀ x ∈ p, x < m) (h2 : ∀ x ∈ q, x < m) (h : x ∈ pairL f p q) : x < m := by
  obtain ⟨⟨i, j⟩, hz, rfl⟩ := List.mem_map.mp h
  exact hf i j (h1 i (List.of_mem_zip hz).1) (h2 j (List.of_mem_zip hz).2)
theorem min_lt (m : Nat) : ∀ i j, i < m → j < m → min i j < m := fun i j _ _ => by omega
theorem max_lt (m : Nat) : ∀ i j, i < m → j < m → max i j < m := fun i j _ _ => by omega
def minDV : DV → DV := fun x => match x with | .tup [.int i, .int j] => .int (min i j) | _ => .non
def maxDV : DV → DV := fun x => match x with | .tup [.int i, .int j] => .int (max i j) | _ => .non
theorem mins_data (p q : List Nat) : (zipD (p.map natD) (q.map natD)).map minDV = (pairL min p q).map natD := by
  rw [zipD_nat, List.map_map]
  unfold pairL
  rw [List.map_map]
  refine List.map_congr_left fun x _ => ?_
  show DV.int (min (x.1 : Int) (x.2 : Int)) = DV.int ((min x.1 x.2 : Nat) : Int)
  congr 1
  omega
theorem maxs_data (p q : List Nat) : (zipD (p.map natD) (q.map natD)).map maxDV = (pairL max p q).map natD := by
  rw [zipD_nat, List.map_map]
  unfold pairL
  rw [List.map_map]
  refine List.map_congr_left fun x _ => ?_
  show DV.int (max (x.1 : Int) (x.2 : Int)) = DV.int ((max x.1 x.2 : Nat) : Int)
  congr 1
  omega
def fLawBox (K : PySem.W.Frag) (Cb C : Addr) : Cfg → List DV → (DV → Prop) → Prop := fun c ds P => ∃ (dr s : Addr) (ns : List Int) (tr : Bool) (d b : Nat), c = drawC K dr s ns tr ∧ ds = [.adr dr, spD C d b] ∧ OkS d b ∧ ∀ lo hi, OkB d b lo hi → P (bxD Cb C d b lo hi)
def fLawMeet (Cb C : Addr) : Cfg → List DV → (DV → Prop) → Prop := fun _ ds P => ∃ (d b : Nat) (lo hi lo2 hi2 : List Nat), ds = [spD C d b, bxD Cb C d b lo hi, bxD Cb C d b lo2 hi2] ∧ OkS d b ∧ OkB d b lo hi ∧ OkB d b lo2 hi2 ∧
  (OkB d b (pairL max lo lo2) (pairL min hi hi2) → P (bxD Cb C d b (pairL max lo lo2) (pairL min hi hi2))) ∧ (∀ a, a < d → min (hi.getD a 0) (hi2.getD a 0) < max (lo.getD a 0) (lo2.getD a 0) → P .non)
def fLawShared : Cfg → List DV → (DV → Prop) → Prop := fun _ ds P => ∃ fs gs : List (Nat × Nat), ds = [.lst (fs.map preP), .lst (gs.map preP)] ∧ (GM.sharedC fs gs).length ≤ 2 ^ 16 ∧ P (.lst ((GM.sharedC fs gs).map preP))
section
variable {P : Program} {w : World} {K : PySem.W.Frag} {mg : Str → Option Value} {base : Heap} {C Cb : Addr}
theorem mem_at {d b : Nat} {p : List Nat} (h : OkP d b p) {a : Nat} (ha : a < d) : p.getD a 0 < 2 ^ b := by
  obtain ⟨hl, hp⟩ := h
  have e := List.getElem?_eq_getElem (show a < p.length by omega)
  rw [List.getD_eq_getElem?_getD, e]
  exact hp _ (List.mem_of_getElem? e)
theorem pairL_ok {f : Nat → Nat → Nat} {d b : Nat} {p q : List Nat} (hf : ∀ m i j, i < m → j < m → f i j < m) (h1 : OkP d b p) (h2 : OkP d b q) : OkP d b (pairL f p q) :=
  ⟨pairL_len h1.1 h2.1, fun x hx => pairL_mem (hf (2 ^ b)) h1.2 h2.2 hx⟩
theorem ok__law_box {P : Program} {w : World} {K : PySem.W.Frag} {mg : Str → Option Value} {base : Heap} {C Cc Cb Ce fI f : Addr} {fd : FuncData} (F : Fun K "_law_box" "_law_box" s__law_box f fd) (T : Tx K mg C Cc Cb Ce fI) (C__law_point : Cal P w K mg base 3 "_law_point" (SpD K (fPoint K C))) (C_Box___init__ : Mak P w K mg base 5 "Box" Cb (SpI K Cb (gBox C))) : FnOk P w K mg base CX0 7 f fd ["draw", "space"] (SpD K (fLawBox K Cb C)) := by
  refine fn_pure F sc__law_box (by walk_at "len") (fun cdv A outer s H E hr => ⟨_, (pss_cons (ps_par (i := 2) (j := 3) rfl sc__law_box.nd rfl rfl (by decide) rfl rfl (pa_cons (pe_cal C__law_point hr (by decide) (by rfl) (pa_cons (pv 0) (pa_cons (pv 1) pa_nil))) (pa_cons (pe_cal C__law_point hr (by decide) (by rfl) (pa_cons (pv 0) (pa_cons (pv 1) pa_nil))) pa_nil)) rfl)
    (pss_one (ps_ret (pe_mak C_Box___init__ hr (by decide) (by rfl) (pa_cons (pv 1) (pa_cons (pe_callTy (x_tupOf K) (by rfl) T.n_tuple (by decide +kernel) (pa_cons (pe_lc (own := [("pair", 4)]) (tt := tYes) rfl sc__law_box.nd (x_zipN K (by rfl) T.n_zip (pa_cons (pv 2) (pa_cons (pv 3) pa_nil))) (blkOk_by (N := N__law_box) (sc := defScope s__law_box) (by decide +kernel)) (fun _ _ _ _ _ => (pg_name (i := 4) sc__law_box.nd rfl (.inl rfl))) (fun _ _ _ _ _ => pts_nil) (fun _ _ _ _ _ => (pe_callB (x_minT K rfl (hu64 hr)) (by rfl) T.n_min (by decide +kernel) (pa_cons (pv 4) pa_nil)))) pa_nil)) (pa_cons (pe_callTy (x_tupOf K) (by rfl) T.n_tuple (by decide +kernel) (pa_cons (pe_lc (own := [("pair", 4)]) (tt := tYes) rfl sc__law_box.nd (x_zipN K (by rfl) T.n_zip (pa_cons (pv 2) (pa_cons (pv 3) pa_nil))) (blkOk_by (N := N__law_box) (sc := defScope s__law_box) (by decide +kernel)) (fun _ _ _ _ _ => (pg_name (i := 4) sc__law_box.nd rfl (.inl rfl))) (fun _ _ _ _ _ => pts_nil) (fun _ _ _ _ _ => (pe_callB (x_maxT K rfl (hu64 hr)) (by rfl) T.n_max (by decide +kernel) (pa_cons (pv 4) pa_nil)))) pa_nil)) pa_nil))))))), fun c Fr ds P h => ?_⟩)
  try dsimp only [cxOf]
  obtain ⟨dr, s, ns, tr, d, b, rfl, rfl, hs, k⟩ := h
  have hs' := hs
  obtain ⟨⟨d1, d2⟩, b1, b2⟩ := hs'
  refine (show Sx K _ (fun _ => False) _ _ _ [_, _, .non, .non, .non] _ from ?_)
  refine sx_seq (sx_par (ea_cons (ev_call (ea_cons (ev_var rfl (ea_cons (ev_var rfl (ea_nil ⟨dr, s, ns, tr, d, b, rfl, rfl, hs, fun p hp => ?_⟩))))))))
  refine ea_cons (ev_call (ea_cons (ev_var rfl (ea_cons (ev_var rfl (ea_nil ⟨dr, s, ns, tr, d, b, rfl, rfl, hs, fun p2 hp2 => ea_nil ⟨_, _, rfl, ?_⟩⟩))))))
  dsimp only [List.set]
  have l1 := hp.1
  have l2 := hp2.1
  refine sx_ret (ev_make (ea_cons (ev_var rfl (ea_cons (ev_cb (ea_cons (ev_en (en_lcMap (own_name (by decide)) (ei_zipN (ea_cons (ev_var rfl (ea_cons (ev_var rfl (ea_nil ⟨_, _, rfl, by rw [List.length_map, List.length_map]; omega, ?_⟩))))))))))))))
  refine ⟨by rw [zipD_len, List.length_map]; omega, minDV, fun x hx => ?_, _, rfl, ea_nil (rva_tuple (.inl rfl) ?_)⟩
  · rw [zipD_nat] at hx
    obtain ⟨z, _, rfl⟩ := List.mem_map.mp hx
    refine eg_name ?_
    exact ev_cb (ea_cons (ev_var rfl (ea_nil (rva_minT rfl))))
  rw [mins_data]
  refine ea_cons (ev_cb (ea_cons (ev_en (en_lcMap (own_name (by decide)) (ei_zipN (ea_cons (ev_var rfl (ea_cons (ev_var rfl (ea_nil ⟨_, _, rfl, by rw [List.length_map, List.length_map]; omega, ?_⟩))))))))))
  refine ⟨by rw [zipD_len, List.length_map]; omega, maxDV, fun x hx => ?_, _, rfl, ea_nil (rva_tuple (.inl rfl) ?_)⟩
  · rw [zipD_nat] at hx
    obtain ⟨z, _, rfl⟩ := List.mem_map.mp hx
    refine eg_name ?_
    exact ev_cb (ea_cons (ev_var rfl (ea_nil (rva_maxT rfl))))
  rw [maxs_data]
  have ok : OkB d b (pairL min p p2) (pairL max p p2) := ⟨pairL_ok min_lt hp hp2, pairL_ok max_lt hp hp2, fun a ha => by
    rw [pairL_at (by omega) (by omega), pairL_at (by omega) (by omega)]
    omega⟩
  exact ea_nil ⟨d, b, _, _, rfl, hs, ok, k _ _ ok⟩
theorem ok__law_meet {P : Program} {w : World} {K : PySem.W.Frag} {mg : Str → Option Value} {base : Heap} {C Cc Cb Ce fI f : Addr} {fd : FuncData} (F : Fun K "_law_meet" "_law_meet" s__law_meet f fd) (T : Tx K mg C Cc Cb Ce fI) (C_Box___init__ : Mak P w K mg base 5 "Box" Cb (SpI K Cb (gBox C))) : FnOk P w K mg base CX0 7 f fd ["space", "one", "other"] (SpD K (fLawMeet Cb C)) := by
  refine fn_pure F sc__law_meet (by walk_at "len") (fun cdv A outer s H E hr => ⟨_, (pss_cons (ps_set (i := 3) sc__law_meet.nd rfl (.inl rfl) (pe_callTy (x_tupOf K) (by rfl) T.n_tuple (by decide +kernel) (pa_cons (pe_lc (own := [("pair", 5)]) (tt := tYes) rfl sc__law_meet.nd (x_zipN K (by rfl) T.n_zip (pa_cons (x_fld K (pv 1) rfl) (pa_cons (x_fld K (pv 2) rfl) pa_nil))) (blkOk_by (N := N__law_meet) (sc := defScope s__law_meet) (by decide +kernel)) (fun _ _ _ _ _ => (pg_name (i := 5) sc__law_meet.nd rfl (.inl rfl))) (fun _ _ _ _ _ => pts_nil) (fun _ _ _ _ _ => (pe_callB (x_maxT K rfl (hu64 hr)) (by rfl) T.n_max (by decide +kernel) (pa_cons (pv 5) pa_nil)))) pa_nil)))
    (pss_cons (ps_set (i := 4) sc__law_meet.nd rfl (.inl rfl) (pe_callTy (x_tupOf K) (by rfl) T.n_tuple (by decide +kernel) (pa_cons (pe_lc (own := [("pair", 5)]) (tt := tYes) rfl sc__law_meet.nd (x_zipN K (by rfl) T.n_zip (pa_cons (x_fld K (pv 1) rfl) (pa_cons (x_fld K (pv 2) rfl) pa_nil))) (blkOk_by (N := N__law_meet) (sc := defScope s__law_meet) (by decide +kernel)) (fun _ _ _ _ _ => (pg_name (i := 5) sc__law_meet.nd rfl (.inl rfl))) (fun _ _ _ _ _ => pts_nil) (fun _ _ _ _ _ => (pe_callB (x_minT K rfl (hu64 hr)) (by rfl) T.n_min (by decide +kernel) (pa_cons (pv 5) pa_nil)))) pa_nil)))
    (pss_cons (ps_if (pt_val (pe_callB (x_any K rfl) (by rfl) T.n_any (by decide +kernel) (pa_cons (pe_lc (own := [("low", 6), ("high", 7)]) (tt := tYes) rfl sc__law_meet.nd (x_zip K (by rfl) T.n_zip (pa_cons (pv 3) (pa_cons (pv 4) pa_nil))) (blkOk_by (N := N__law_meet) (sc := defScope s__law_meet) (by decide +kernel)) (fun _ _ _ _ _ => (x_gtup K (n := 2) rfl (pgs_cons (pg_name (i := 6) sc__law_meet.nd rfl (.inl rfl)) (pgs_cons (pg_name (i := 7) sc__law_meet.nd rfl (.inl rfl)) pgs_nil)))) (fun _ _ _ _ _ => pts_nil) (fun _ _ _ _ _ => (pe_cmpR op_gt (pv 6) (pv 7) (nomark _)))) pa_nil))) (pss_one (ps_ret pe_non)) pss_nil)
    (pss_one (ps_ret (pe_mak C_Box___init__ hr (by decide) (by rfl) (pa_cons (pv 0) (pa_cons (pv 3) (pa_cons (pv 4) pa_nil))))))))), fun c Fr ds P h => ?_⟩)
  try dsimp only [cxOf]
  have B := T.S_Box
  obtain ⟨d, b, lo, hi, lo2, hi2, rfl, hs, ho, ho2, k1, k2⟩ := h
  have hs' := hs
  obtain ⟨⟨d1, d2⟩, b1, b2⟩ := hs'
  have l1 := ho.1.1
  have l2 := ho.2.1.1
  have l3 := ho2.1.1
  have l4 := ho2.2.1.1
  refine (show Sx K _ (fun _ => False) _ _ _ [_, _, _, .non, .non, .non, .non, .non] _ from ?_)
  refine sx_seq (sx_asg (ev_cb (ea_cons (ev_en (en_lcMap (own_name (by decide)) (ei_zipN (ea_cons (ev_blows (C := C) B (ev_var rfl ⟨d, b, lo, hi, rfl, ea_cons (ev_blows (C := C) B (ev_var rfl ⟨d, b, lo2, hi2, rfl, ea_nil ⟨_, _, rfl, by rw [List.length_map, List.length_map]; omega, ?_⟩⟩))⟩)))))))))
  refine ⟨by rw [zipD_len, List.length_map]; omega, maxDV, fun x hx => ?_, _, rfl, ea_nil (rva_tuple (.inl rfl) (eg_name ?_))⟩
  · rw [zipD_nat] at hx
    obtain ⟨z, _, rfl⟩ := List.mem_map.mp hx
    refine eg_name ?_
    exact ev_cb (ea_cons (ev_var rfl (ea_nil (rva_maxT rfl))))
  rw [maxs_data]
  dsimp only [List.set]
  refine sx_seq (sx_asg (ev_cb (ea_cons (ev_en (en_lcMap (own_name (by decide)) (ei_zipN (ea_cons (ev_bhighs (C := C) B (ev_var rfl ⟨d, b, lo, hi, rfl, ea_cons (ev_bhighs (C := C) B (ev_var rfl ⟨d, b, lo2, hi2, rfl, ea_nil ⟨_, _, rfl, by rw [List.length_map, List.length_map]; omega, ?_⟩⟩))⟩)))))))))
  refine ⟨by rw [zipD_len, List.length_map]; omega, minDV, fun x hx => ?_, _, rfl, ea_nil (rva_tuple (.inl rfl) (eg_name ?_))⟩
  · rw [zipD_nat] at hx
    obtain ⟨z, _, rfl⟩ := List.mem_map.mp hx
    refine eg_name ?_
    exact ev_cb (ea_cons (ev_var rfl (ea_nil (rva_minT rfl))))
  rw [mins_data]
  dsimp only [List.set]
  have lx : (pairL max lo lo2).length = d := pairL_len l1 l3
  have ln : (pairL min hi hi2).length = d := pairL_len l2 l4
  refine sx_seq (sx_if (et_test (ev_cb (ea_cons (ev_en (en_lcMap (own_two (by decide) (by decide)) (ei_zipT (ea_cons (ev_var rfl (ea_cons (ev_var rfl (ea_nil ⟨_, _, rfl, by rw [List.length_map, List.length_map]; omega, ?_⟩))))))))))))
  rw [zipD_nat]
  refine ⟨by rw [List.length_map, List.length_zip]; omega, fun x => match x with | .tup [.int i, .int j] => .bl (decide (i > j)) | _ => .non, fun x hx => ?_, _, rfl, ea_nil ?_⟩
  · obtain ⟨z, _, rfl⟩ := List.mem_map.mp hx
    refine eg_tup ⟨_, rfl, rfl, egs_cons (eg_name (egs_cons (eg_name (egs_nil ?_))))⟩
    dsimp only [List.set, wipeR]
    exact ev_op (ev_var rfl (ev_var rfl (rv_I0b rfl)))
  have e2 : (((pairL max lo lo2).zip (pairL min hi hi2)).map fun x => DV.tup [natD x.1, natD x.2]).map (fun x => match x with | .tup [.int i, .int j] => DV.bl (decide (i > j)) | _ => .non) = (((pairL max lo lo2).zip (pairL min hi hi2)).map fun x => decide ((x.1 : Int) > (x.2 : Int))).map .bl := by
    rw [List.map_map, List.map_map]
    rfl
  rw [e2]
  refine rva_any ⟨_, rfl, ?_⟩
  by_cases hw : ∀ x ∈ (pairL max lo lo2).zip (pairL min hi hi2), x.1 ≤ x.2
  · rw [any_gt hw, if_neg Bool.false_ne_true]
    have ok : OkB d b (pairL max lo lo2) (pairL min hi hi2) := ⟨pairL_ok max_lt ho.1 ho2.1, pairL_ok min_lt ho.2.1 ho2.2.1, fun a ha => by
      have e1 := List.getElem?_eq_getElem (show a < (pairL max lo lo2).length by omega)
      have e2 := List.getElem?_eq_getElem (show a < (pairL min hi hi2).length by omega)
      have m := hw _ (List.mem_of_getElem? ((List.getElem?_zip_eq_some (z := (_, _))).mpr ⟨e1, e2⟩))
      rw [List.getD_eq_getElem?_getD, List.getD_eq_getElem?_getD, e1, e2]
      exact m⟩
    exact sx_next (sx_ret (ev_make (ea_cons (ev_var rfl (ea_cons (ev_var rfl (ea_cons (ev_var rfl (ea_nil ⟨d, b, _, _, rfl, hs, ok, k1 ok⟩)))))))))
  · have hx : ∃ x ∈ (pairL max lo lo2).zip (pairL min hi hi2), x.2 < x.1 := by
      refine Classical.byContradiction fun z => hw fun x hx => ?_
      exact Nat.le_of_not_lt fun y => z ⟨x, hx, y⟩
    obtain ⟨x, hx, hlt⟩ := hx
    have ea : (((pairL max lo lo2).zip (pairL min hi hi2)).map fun x => decide ((x.1 : Int) > (x.2 : Int))).any id = true := by
      rw [List.any_eq_true]
      exact ⟨true, List.mem_map.mpr ⟨x, hx, decide_eq_true (by omega)⟩, rfl⟩
    rw [ea, if_pos rfl]
    obtain ⟨a, hat⟩ := List.mem_iff_getElem?.mp hx
    obtain ⟨h1, h2⟩ := List.getElem?_zip_eq_some.mp hat
    have ha : a < d := by
      have := (List.getElem?_eq_some_iff.mp h1).1
      omega
    refine sx_ret (ev_non (k2 a ha ?_))
    have q1 := pairL_at (f := max) (p := lo) (q := lo2) (a := a) (by omega) (by omega)
    have q2 := pairL_at (f := min) (p := hi) (q := hi2) (a := a) (by omega) (by omega)
    rw [List.getD_eq_getElem?_getD, h1] at q1
    rw [List.getD_eq_getElem?_getD, h2] at q2
    have q1 : x.1 = max (lo.getD a 0) (lo2.getD a 0) := q1
    have q2 : x.2 = min (hi.getD a 0) (hi2.getD a 0) := q2
    omega
theorem cut_at {α : Type} {l : List α} {i : Nat} {x : α} (h : l[i]? = some x) : l = l.take i ++ x :: l.drop (i + 1) := by
  obtain ⟨hi, e⟩ := List.getElem?_eq_some_iff.mp h
  rw [← e, ← List.drop_eq_getElem_cons hi, List.take_append_drop]
theorem inside_sym (c e : Nat × Nat) : GM.insideC c e = (decide (e.1 ≤ c.1) && decide (c.2 / 2 ^ (c.1 - e.1) = e.2)) := rfl
theorem ok__law_shared {P : Program} {w : World} {K : PySem.W.Frag} {mg : Str → Option Value} {base : Heap} {C Cc Cb Ce fI f : Addr} {fd : FuncData} (F : Fun K "_law_shared" "_law_shared" s__law_shared f fd) (T : Tx K mg C Cc Cb Ce fI) (C_is_inside : Cal P w K mg base 1 "is_inside" (SpD K (fIsInside))) : FnOk P w K mg base CX0 2 f fd ["one", "more"] (SpD K (fLawShared)) := by
  refine fn_pure F sc__law_shared (by walk_at "len") (fun cdv A outer s H E hr => ⟨_, (pss_cons (ps_set (i := 2) sc__law_shared.nd rfl (.inl rfl) (pe_lst pa_nil))
    (pss_cons (ps_for PassesOwn.never rfl (x_row K (pv 0)) (pg_name (i := 3) sc__law_shared.nd rfl (.inl rfl)) (pss_one (ps_for PassesOwn.never rfl (x_row K (pv 1)) (pg_name (i := 4) sc__law_shared.nd rfl (.inl rfl)) (pss_one (ps_if (pt_val (pe_cal C_is_inside hr (by decide) (by rfl) (pa_cons (pv 3) (pa_cons (pv 4) pa_nil)))) (pss_one (ps_expr (pe_bm PySem.F.plainAttrs_list PySem.F.slot_list_append PySem.F.type_list_append mt_append (pv 2) (pa_cons (pv 3) pa_nil)))) (pss_one (ps_if (pt_val (pe_cal C_is_inside hr (by decide) (by rfl) (pa_cons (pv 4) (pa_cons (pv 3) pa_nil)))) (pss_one (ps_expr (pe_bm PySem.F.plainAttrs_list PySem.F.slot_list_append PySem.F.type_list_append mt_append (pv 2) (pa_cons (pv 4) pa_nil)))) pss_nil)))))))
    (pss_one (ps_ret (pv 2))))), fun c Fr ds P h => ?_⟩)
  try dsimp only [cxOf]
  obtain ⟨fs, gs, rfl, hz, k⟩ := h
  refine (show Sx K _ (fun _ => False) _ _ _ [_, _, .non, .non, .non] _ from ?_)
  refine sx_seq (sx_new (en_lst (ea_nil ⟨by decide, fun a C fs h => (nomatch h), fun w a S n h => (nomatch h), ?_⟩)))
  dsimp only [List.set]
  refine sx_seq (sx_for (ei_row (ev_var rfl ⟨_, .inl rfl, ?_⟩)))
  refine ⟨fun i ρ' => ∃ y3 y4 : SV, ρ' = [.d (.lst (fs.map preP)), .d (.lst (gs.map preP)), .own (.lst ((GM.sharedC (fs.take i) gs).map preP)), y3, y4], ⟨.non, .non, rfl⟩, ?_, ?_⟩
  · rintro i x ρ' hx ⟨y3, y4, rfl⟩
    rw [List.getElem?_map] at hx
    cases hc : fs[i]? with
    | none => rw [hc] at hx; cases hx
    | some e =>
      rw [hc] at hx
      cases hx
      have tk : fs.take (i + 1) = fs.take i ++ [e] := by rw [List.take_add_one, hc]; rfl
      have cutf := cut_at hc
      refine eg_name ?_
      dsimp only [List.set]
      refine sx_for (ei_row (ev_var rfl ⟨_, .inl rfl, ?_⟩))
      refine ⟨fun j ρ' => ∃ y4 : SV, ρ' = [.d (.lst (fs.map preP)), .d (.lst (gs.map preP)), .own (.lst ((GM.sharedC (fs.take i) gs ++ (gs.take j).flatMap (GM.interC e)).map preP)), .d (preP e), y4], ⟨_, by rw [List.take_zero, List.flatMap_nil, List.append_nil]⟩, ?_, ?_⟩
      · rintro j x ρ' hx ⟨y4, rfl⟩
        rw [List.getElem?_map] at hx
        cases hg : gs[j]? with
        | none => rw [hg] at hx; cases hx
        | some g =>
          rw [hg] at hx
          cases hx
          have tg : (gs.take (j + 1)).flatMap (GM.interC e) = (gs.take j).flatMap (GM.interC e) ++ GM.interC e g := by
            rw [List.take_add_one, hg, List.flatMap_append]
            simp
          have short : (GM.sharedC (fs.take i) gs ++ (gs.take j).flatMap (GM.interC e)).length ≤ 2 ^ 16 := by
            refine Nat.le_trans ?_ hz
            have e1 : GM.sharedC fs gs = GM.sharedC (fs.take i) gs ++ (gs.flatMap (GM.interC e) ++ GM.sharedC (fs.drop (i + 1)) gs) := by
              conv => lhs; rw [cutf]
              unfold GM.sharedC
              rw [List.flatMap_append, List.flatMap_cons]
            have e2 : gs.flatMap (GM.interC e) = (gs.take j).flatMap (GM.interC e) ++ (g :: gs.drop (j + 1)).flatMap (GM.interC e) := by
              conv => lhs; rw [cut_at hg]
              rw [List.flatMap_append]
            rw [e1, e2]
            simp only [List.length_append]
            omega
          dsimp -failIfUnchanged only
          rw [tg, ← List.append_assoc]
          generalize GM.sharedC (fs.take i) gs ++ (gs.take j).flatMap (GM.interC e) = acc at short
          refine eg_name ?_
          dsimp only [List.set]
          refine sx_if (et_test (ev_call (ea_cons (ev_var rfl (ea_cons (ev_var rfl (ea_nil ⟨e.1, e.2, g.1, g.2, rfl, _, rfl, ?_⟩)))))))
          rw [← inside_sym]
          by_cases h1 : GM.insideC e g = true
          · rw [if_pos h1]
            have ei : GM.interC e g = [e] := by unfold GM.interC; rw [if_pos h1]
            rw [ei]
            refine sx_append (i := 2) rfl (ev_var rfl ⟨by rw [List.length_map]; omega, ?_⟩)
            dsimp only [List.set]
            exact ⟨_, by rw [List.map_append]; rfl⟩
          · rw [if_neg h1]
            refine sx_if (et_test (ev_call (ea_cons (ev_var rfl (ea_cons (ev_var rfl (ea_nil ⟨g.1, g.2, e.1, e.2, rfl, _, rfl, ?_⟩)))))))
            rw [← inside_sym]
            by_cases h2 : GM.insideC g e = true
            · rw [if_pos h2]
              have ei : GM.interC e g = [g] := by unfold GM.interC; rw [if_neg h1, if_pos h2]
              rw [ei]
              refine sx_append (i := 2) rfl (ev_var rfl ⟨by rw [List.length_map]; omega, ?_⟩)
              dsimp only [List.set]
              exact ⟨_, by rw [List.map_append]; rfl⟩
            · rw [if_neg h2]
              have ei : GM.interC e g = [] := by unfold GM.interC; rw [if_neg h1, if_neg h2]
              rw [ei, List.append_nil]
              exact sx_next ⟨_, rfl⟩
      · rintro ρ' ⟨y4, rfl⟩
        rw [List.length_map, List.take_length]
        have e3 : GM.sharedC (fs.take (i + 1)) gs = GM.sharedC (fs.take i) gs ++ gs.flatMap (GM.interC e) := by
          rw [tk]
          unfold GM.sharedC
          rw [List.flatMap_append]
          simp
        rw [← e3]
        exact ⟨_, _, rfl⟩
  · rintro ρ' ⟨y3, y4, rfl⟩
    rw [List.length_map, List.take_length]
    exact sx_freeze (i := 2) rfl (sx_ret (ev_var rfl k))
end

-- @FILE K60j
/-! ## the law -/
def unP : DV → List Nat
  | .tup xs => xs.map fun x => match x with | .int i => i.toNat | _ => 0
  | _ => []
theorem unP_point (p : List Nat) : unP (pointD p) = p := by
  show (p.map natD).map _ = p
  rw [List.map_map]
  conv => rhs; rw [← List.map_id p]
  exact List.map_congr_left fun n _ => rfl
def unN : DV → Nat
  | .int i => i.toNat
  | _ => 0
theorem pointD_inj {p q : List Nat} (h : pointD p = pointD q) : p = q := natD_inj (DV.tup.inj h)

def unC : DV → Nat × Nat := fun x => match x with | .tup [.int l, .int k] => (l.toNat, k.toNat) | _ => (0, 0)
theorem unC_pre (x : Nat × Nat) : unC (preP x) = x := rfl
/-- the sum of something told of some cells -/
theorem rva_sumC {K : PySem.W.Frag} {c : Cfg} {P : DV → Prop} {g : Nat × Nat → Nat} {fs : List (Nat × Nat)} (h : P (natD (fs.map g).sum)) : RVA K c (rSum K) [.lst ((fs.map preP).map fun x => natD (g (unC x)))] P := by
  have e : (fs.map preP).map (fun x => natD (g (unC x))) = intsD (fs.map fun x => ((g x : Nat) : Int)) := by
    show List.map _ (List.map _ fs) = List.map DV.int (List.map _ fs)
    rw [List.map_map, List.map_map]
    exact List.map_congr_left fun x _ => rfl
  rw [e]
  refine rva_sum ?_
  have e2 : (fs.map fun x => ((g x : Nat) : Int)).sum = (((fs.map g).sum : Nat) : Int) := by
    rw [NM.cast_sum, List.map_map]
    rfl
  rw [e2]
  exact h
theorem okR_of {d b : Nat} {ps : List (List Nat)} {row : List Nat} (h : RowOf d b ps row) (hl : ps.length < 64) : OkR d b row :=
  ⟨h.1, fun n hn => by
    obtain ⟨p, _, rfl⟩ := (h.2.1 n).mp hn
    exact GM.weave_lt d b p, by rw [h.2.2]; exact hl⟩
theorem pointOf_ok {d b n : Nat} : OkP d b (GM.pointOf d b n) := ⟨GM.pointOf_len d b n, fun x hx => by
  obtain ⟨a, _, rfl⟩ := List.mem_map.mp hx
  exact GM.coord_lt d b n a⟩
theorem point_at {d b n a : Nat} (ha : a < d) : (GM.pointOf d b n)[a]? = some (GM.coord d b n a) := by
  unfold GM.pointOf
  rw [List.getElem?_map, List.getElem?_range ha]
  rfl
theorem at_getD {p : List Nat} {a x : Nat} (h : p[a]? = some x) : p.getD a 0 = x := by rw [List.getD_eq_getElem?_getD, h]; rfl
/-- a point of the box, told by its number -/
theorem held_inB {d b n : Nat} {lo hi : List Nat} (l1 : lo.length = d) (l2 : hi.length = d) : GM.inB d b (fnc lo) (fnc hi) n = if heldB lo (GM.pointOf d b n) hi = true then 1 else 0 := by
  have key : heldB lo (GM.pointOf d b n) hi = true ↔ ∀ a, a < d → fnc lo a ≤ GM.coord d b n a ∧ GM.coord d b n a ≤ fnc hi a := by
    unfold heldB
    rw [List.all_eq_true]
    constructor
    · intro h a ha
      have e1 := List.getElem?_eq_getElem (show a < lo.length by omega)
      have e2 := List.getElem?_eq_getElem (show a < hi.length by omega)
      have m := h _ (List.mem_of_getElem? ((List.getElem?_zip_eq_some (z := (lo[a], (GM.coord d b n a, hi[a])))).mpr ⟨e1, (List.getElem?_zip_eq_some (z := (GM.coord d b n a, hi[a]))).mpr ⟨point_at ha, e2⟩⟩))
      rw [Bool.and_eq_true, decide_eq_true_iff, decide_eq_true_iff] at m
      show lo.getD a 0 ≤ _ ∧ _ ≤ hi.getD a 0
      rw [at_getD e1, at_getD e2]
      exact m
    · rintro h ⟨x, y, z⟩ hx
      obtain ⟨a, ha⟩ := List.mem_iff_getElem?.mp hx
      obtain ⟨h1, h2⟩ := List.getElem?_zip_eq_some.mp ha
      obtain ⟨h2, h3⟩ := List.getElem?_zip_eq_some.mp h2
      have had : a < d := by
        have := (List.getElem?_eq_some_iff.mp h1).1
        omega
      have q := h a had
      have q : lo.getD a 0 ≤ GM.coord d b n a ∧ GM.coord d b n a ≤ hi.getD a 0 := q
      rw [at_getD h1, at_getD h3] at q
      have e : y = GM.coord d b n a := Option.some.inj (h2.symm.trans (point_at had))
      rw [Bool.and_eq_true, decide_eq_true_iff, decide_eq_true_iff]
      show x ≤ y ∧ y ≤ z
      rw [e]
      exact q
  by_cases h : ∀ a, a < d → fnc lo a ≤ GM.coord d b n a ∧ GM.coord d b n a ≤ fnc hi a
  · rw [if_pos (key.mpr h), GM.inB_one h]
  · rw [if_neg fun z => h (key.mp z)]
    have hx : ∃ a, a < d ∧ ¬ (fnc lo a ≤ GM.coord d b n a ∧ GM.coord d b n a ≤ fnc hi a) := by
      refine Classical.byContradiction fun z => h fun a ha => ?_
      exact Classical.byContradiction fun y => z ⟨a, ha, y⟩
    obtain ⟨a, ha, hn⟩ := hx
    exact GM.inB_zero ha (by omega)
theorem count_held {d b : Nat} {lo hi : List Nat} {fs : List (Nat × Nat)} {row : List Nat} (l1 : lo.length = d) (l2 : hi.length = d) (hf : CovAll d b (fnc lo) (fnc hi) fs) (hr : ∀ n ∈ row, n < 2 ^ (d * b)) :
    (fs.map fun x => row.countP fun n => decide (n / 2 ^ (d * b - x.1) = x.2)).sum = row.countP fun n => heldB lo (GM.pointOf d b n) hi := by
  have e1 : (fs.map fun x => row.countP fun n => decide (n / 2 ^ (d * b - x.1) = x.2)).sum = (fs.map fun x => (row.map fun n => GM.isC d b x n).sum).sum := GM.sum_congr fun x _ => GM.count_isC row
  rw [e1, GM.sum_swap, ← GM.sum_if]
  exact GM.sum_congr fun n hn => (hf.2.1 n (hr n hn)).trans (held_inB l1 l2)
theorem count_half {d b l k : Nat} {row : List Nat} (hl : l < d * b) : (row.countP fun n => decide (n / 2 ^ (d * b - l) = k)) = (row.countP fun n => decide (n / 2 ^ (d * b - (l + 1)) = 2 * k)) + (row.countP fun n => decide (n / 2 ^ (d * b - (l + 1)) = 2 * k + 1)) := by
  rw [GM.count_isC (c := (l, k)), GM.count_isC (c := (l + 1, 2 * k)), GM.count_isC (c := (l + 1, 2 * k + 1)), ← GM.sum_add]
  exact GM.sum_congr fun n _ => GM.isC_half hl
theorem tot_le {w : Nat → Nat} (h : ∀ n, w n ≤ 1) : ∀ m k, GM.tot w m k ≤ 2 ^ m
  | 0, k => h k
  | m + 1, k => by
    have h1 := tot_le h m (2 * k)
    have h2 := tot_le h m (2 * k + 1)
    show GM.tot w m (2 * k) + GM.tot w m (2 * k + 1) ≤ 2 ^ (m + 1)
    rw [Nat.pow_succ]
    omega
theorem prod_le {f : Nat → Nat} (h : ∀ a, f a ≤ 1) : ∀ d, GM.prodN f d ≤ 1
  | 0 => Nat.le_refl _
  | d + 1 => by
    have h1 := prod_le h d
    have := h d
    show GM.prodN f d * f d ≤ 1
    exact Nat.mul_le_mul h1 this
theorem room_le {d b : Nat} {lo hi : Nat → Nat} (hd : 0 < d) : GM.roomN d b lo hi 0 0 ≤ 2 ^ (d * b) := by
  rw [GM.room_tot hd (d * b) 0 0 (Nat.zero_add _)]
  refine tot_le (fun n => ?_) _ _
  unfold GM.inB
  refine prod_le (fun a => ?_) d
  unfold GM.ovl
  omega
theorem room_congr {d b l k : Nat} {lo hi lo2 hi2 : Nat → Nat} (h : ∀ a, a < d → lo a = lo2 a ∧ hi a = hi2 a) : GM.roomN d b lo hi l k = GM.roomN d b lo2 hi2 l k := by
  unfold GM.roomN
  refine GM.prodN_congr fun a ha => ?_
  show GM.ovl _ _ _ _ = GM.ovl _ _ _ _
  rw [(h a ha).1, (h a ha).2]
/-- the meeting of two boxes, and None -/
def MeetD (Cb C : Addr) (d b : Nat) (lo hi lo2 hi2 : List Nat) (y : DV) : Prop :=
  (y = bxD Cb C d b (pairL max lo lo2) (pairL min hi hi2) ∧ OkB d b (pairL max lo lo2) (pairL min hi hi2)) ∨ (y = .non ∧ GM.roomN d b (fun a => max (fnc lo a) (fnc lo2 a)) (fun a => min (fnc hi a) (fnc hi2 a)) 0 0 = 0)
theorem meet_any {Cb C : Addr} {c : Cfg} {P : DV → Prop} {d b : Nat} {lo hi lo2 hi2 : List Nat} (hs : OkS d b) (ho : OkB d b lo hi) (ho2 : OkB d b lo2 hi2) (h : ∀ y, MeetD Cb C d b lo hi lo2 hi2 y → P y) : fLawMeet Cb C c [spD C d b, bxD Cb C d b lo hi, bxD Cb C d b lo2 hi2] P :=
  ⟨d, b, lo, hi, lo2, hi2, rfl, hs, ho, ho2, fun ok => h _ (.inl ⟨rfl, ok⟩), fun a ha hlt => h _ (.inr ⟨rfl, GM.room_none ha hlt⟩)⟩
theorem meet_room {Cb C : Addr} {d b : Nat} {lo hi lo2 hi2 : List Nat} (ho : OkB d b lo hi) (ho2 : OkB d b lo2 hi2) : GM.roomN d b (fnc (pairL max lo lo2)) (fnc (pairL min hi hi2)) 0 0 = GM.roomN d b (fun a => max (fnc lo a) (fnc lo2 a)) (fun a => min (fnc hi a) (fnc hi2 a)) 0 0 := by
  have l1 := ho.1.1
  have l2 := ho.2.1.1
  have l3 := ho2.1.1
  have l4 := ho2.2.1.1
  exact room_congr fun a ha => ⟨pairL_at (by omega) (by omega), pairL_at (by omega) (by omega)⟩
theorem bx_non {Cb C : Addr} {d b : Nat} {lo hi : List Nat} : isNonD (bxD Cb C d b lo hi) = false := rfl
/-- the corners of a cell -/
def lowsC (d b l k : Nat) : List Nat := (List.range d).map (GM.lowC d b l k)
def highsC (d b l k : Nat) : List Nat := (List.range d).map (GM.highC d b l k)
theorem corner_at {d a : Nat} {f : Nat → Nat} (ha : a < d) : ((List.range d).map f).getD a 0 = f a := by
  rw [List.getD_eq_getElem?_getD, List.getElem?_map, List.getElem?_range ha]
  rfl
theorem cell_ok {d b l k : Nat} : OkB d b (lowsC d b l k) (highsC d b l k) := by
  refine ⟨⟨by unfold lowsC; rw [List.length_map, List.length_range], fun x hx => ?_⟩, ⟨by unfold highsC; rw [List.length_map, List.length_range], fun x hx => ?_⟩, fun a ha => ?_⟩
  · obtain ⟨a, _, rfl⟩ := List.mem_map.mp hx
    exact GM.cw_lt fun j => GM.lowB_lt l k j
  · obtain ⟨a, _, rfl⟩ := List.mem_map.mp hx
    exact GM.cw_lt fun j => GM.highB_lt l k j
  · unfold lowsC highsC
    rw [corner_at ha, corner_at ha]
    exact GM.lowC_le
theorem cell_room {d b l k : Nat} {lo hi : List Nat} : GM.roomN d b (fun a => max (fnc (lowsC d b l k) a) (fnc lo a)) (fun a => min (fnc (highsC d b l k) a) (fnc hi a)) 0 0 = GM.roomN d b (fnc lo) (fnc hi) l k := by
  rw [GM.room_cell (l := l) (k := k)]
  refine room_congr fun a ha => ?_
  constructor
  · show max ((lowsC d b l k).getD a 0) _ = _
    unfold lowsC
    rw [corner_at ha]
  · show min ((highsC d b l k).getD a 0) _ = _
    unfold highsC
    rw [corner_at ha]
abbrev s_law : Stmt := topS 36
abbrev N_law : List Str := ["script", "draw", "turn", "space", "cloud", "box", "found", "prefix", "length", "halves", "lows", "highs", "cell", "other", "both", "two", "one", "more", "shared", "point", "half"]
theorem sc_law : FnScope N_law ["script"] (defScope s_law) := ⟨rfl, rfl, rfl, by decide +kernel, rfl, by decide +kernel, by decide +kernel⟩
/- slots of law: [(0, 'script'), (1, 'draw'), (2, 'turn'), (3, 'space'), (4, 'cloud'), (5, 'box'), (6, 'found'), (7, 'prefix'), (8, 'length'), (9, 'halves'), (10, 'lows'), (11, 'highs'), (12, 'cell'), (13, 'other'), (14, 'both'), (15, 'two'), (16, 'one'), (17, 'more'), (18, 'shared'), (19, 'point'), (20, 'half')] -/
section
variable {P : Program} {w : World} {K : PySem.W.Frag} {mg : Str → Option Value} {base : Heap} {C Cc Cb Ce fI : Addr}
theorem ok_law {P : Program} {w : World} {K : PySem.W.Frag} {mg : Str → Option Value} {base : Heap} {C Cc Cb Ce fI f : Addr} {fd : FuncData} (F : Fun K "law" "law" s_law f fd) (T : Tx K mg C Cc Cb Ce fI) (C__law_space : Cal P w K mg base 5 "_law_space" (SpD K (fSpace K C))) (C__law_cloud : Cal P w K mg base 7 "_law_cloud" (SpD K (fLawCloud K C Cc))) (C__law_box : Cal P w K mg base 7 "_law_box" (SpD K (fLawBox K Cb C))) (C_pfxes_of : Cal P w K mg base 3 "prefixes_of" (SpD K (fPrefixes Cb C))) (C_Cloud_count : Met P w K mg base 4 Cc "count" (SpD K (fCount C Cc))) (C_Cloud_points : Met P w K mg base 2 Cc "points" (SpD K (fPoints C Cc))) (C_Box_holds : Met P w K mg base 2 Cb "holds" (SpD K (fHolds Cb C))) (C_Space_size : Met P w K mg base 3 C "size" (SpD K (fSize C))) (C_Box_room : Met P w K mg base 5 Cb "room" (SpD K (fRoom Cb C))) (C__law_take : Cal P w K mg base 2 "_law_take" (SpD K (fTake K))) (C__law_power : Cal P w K mg base 1 "_law_power" (SpD K (fLawPower))) (C_is_inside : Cal P w K mg base 1 "is_inside" (SpD K (fIsInside))) (C_Space_cell : Met P w K mg base 4 C "cell" (SpD K (fCell C))) (C_Box___init__ : Mak P w K mg base 5 "Box" Cb (SpI K Cb (gBox C))) (C__law_meet : Cal P w K mg base 7 "_law_meet" (SpD K (fLawMeet Cb C))) (C__law_shared : Cal P w K mg base 2 "_law_shared" (SpD K (fLawShared))) : FnOk P w K mg base CX0 11 f fd ["script"] (spLaw K) := by
  refine fn_law F sc_law rfl (by decide) (fun cdv A outer s H E hr => ⟨_, (pss_cons (ps_set (i := 1) sc_law.nd rfl (.inl rfl) (pe_lst (pa_cons (pv 0) (pa_cons pe_int pa_nil))))
    (pss_cons (ps_for PassesOwn.never rfl (pi_range1 (by rfl) T.n_range (pa_cons pe_int pa_nil)) (pg_name (i := 2) sc_law.nd rfl (.inl rfl)) (pss_cons (ps_set (i := 3) sc_law.nd rfl (.inr rfl) (pe_cal C__law_space hr (by decide) (by rfl) (pa_cons (pv 1) (pa_cons pe_int pa_nil))))
    (pss_cons (ps_asg (pe_tup (pa_cons (pe_cal C__law_cloud hr (by decide) (by rfl) (pa_cons (pv 1) (pa_cons (pv 3) (pa_cons pe_int pa_nil)))) (pa_cons (pe_cal C__law_box hr (by decide) (by rfl) (pa_cons (pv 1) (pa_cons (pv 3) pa_nil))) pa_nil))) (x_gtup K (n := 2) rfl (pgs_cons (pg_name (i := 4) sc_law.nd rfl (.inr rfl)) (pgs_cons (pg_name (i := 5) sc_law.nd rfl (.inr rfl)) pgs_nil))))
    (pss_cons (ps_set (i := 6) sc_law.nd rfl (.inl rfl) (pe_cal C_pfxes_of hr (by decide) (by rfl) (pa_cons (pv 5) pa_nil)))
    (pss_cons (ps_if (pt_cmpR op_ne (pe_callB (x_sum K rfl) (by rfl) T.n_sum (by decide +kernel) (pa_cons (pe_lc (own := [("prefix", 7)]) (tt := tYes) rfl sc_law.nd (x_row K (pv 6)) (blkOk_by (N := N_law) (sc := defScope s_law) (by decide +kernel)) (fun _ _ _ _ _ => (pg_name (i := 7) sc_law.nd rfl (.inl rfl))) (fun _ _ _ _ _ => pts_nil) (fun _ _ _ _ _ => (pe_met C_Cloud_count hr (by decide) (pv 4) (pa_cons (pv 7) pa_nil)))) pa_nil)) (pe_callB (x_len K) (by rfl) T.n_len PySem.boot_len (pa_cons (pe_lc (own := [("point", 19)]) rfl sc_law.nd (x_row K (pe_met0 C_Cloud_points hr (by decide) (pv 4))) (blkOk_by (N := N_law) (sc := defScope s_law) (by decide +kernel)) (fun _ _ _ _ _ => (pg_name (i := 19) sc_law.nd rfl (.inl rfl))) (fun _ _ _ _ _ => (pts_one (pt_val (pe_met C_Box_holds hr (by decide) (pv 5) (pa_cons (pv 19) pa_nil))))) (fun _ _ _ _ _ => (pv 19))) pa_nil)) (nomark _)) (pss_one (ps_ret pe_bl)) pss_nil)
    (pss_cons (ps_if (pt_cmpR op_ne (pe_callB (x_sum K rfl) (by rfl) T.n_sum (by decide +kernel) (pa_cons (pe_lc (own := [("prefix", 7)]) (tt := tYes) rfl sc_law.nd (x_row K (pv 6)) (blkOk_by (N := N_law) (sc := defScope s_law) (by decide +kernel)) (fun _ _ _ _ _ => (pg_name (i := 7) sc_law.nd rfl (.inl rfl))) (fun _ _ _ _ _ => pts_nil) (fun _ _ _ _ _ => (pe_met C_Space_size hr (by decide) (pv 3) (pa_cons (pv 7) pa_nil)))) pa_nil)) (pe_met C_Box_room hr (by decide) (pv 5) (pa_cons (pe_tup (pa_cons pe_int (pa_cons pe_int pa_nil))) pa_nil)) (nomark _)) (pss_one (ps_ret pe_bl)) pss_nil)
    (pss_cons (ps_set (i := 8) sc_law.nd rfl (.inl rfl) (pe_cal C__law_take hr (by decide) (by rfl) (pa_cons (pv 1) (pa_cons (x_fld K (pv 3) rfl) pa_nil))))
    (pss_cons (ps_set (i := 7) sc_law.nd rfl (.inr rfl) (pe_tup (pa_cons (pv 8) (pa_cons (pe_cal C__law_take hr (by decide) (by rfl) (pa_cons (pv 1) (pa_cons (pe_cal C__law_power hr (by decide) (by rfl) (pa_cons (pv 8) pa_nil)) pa_nil))) pa_nil))))
    (pss_cons (ps_set (i := 9) sc_law.nd rfl (.inl rfl) (pe_lst (pa_cons (pe_tup (pa_cons (pe_op op_add (pv 8) pe_int) (pa_cons (pe_op op_mul pe_int (pe_ix (x_ixA K) (pv 7) pe_int (fun _ _ => rfl))) pa_nil))) (pa_cons (pe_tup (pa_cons (pe_op op_add (pv 8) pe_int) (pa_cons (pe_op op_add (pe_op op_mul pe_int (pe_ix (x_ixA K) (pv 7) pe_int (fun _ _ => rfl))) pe_int) pa_nil))) pa_nil))))
    (pss_cons (ps_if (PW.pt (pw_or (pt_cmpR op_ne (pe_met C_Box_room hr (by decide) (pv 5) (pa_cons (pv 7) pa_nil)) (pe_callB (x_sum K rfl) (by rfl) T.n_sum (by decide +kernel) (pa_cons (pe_lc (own := [("half", 20)]) (tt := tYes) rfl sc_law.nd (x_row K (pv 9)) (blkOk_by (N := N_law) (sc := defScope s_law) (by decide +kernel)) (fun _ _ _ _ _ => (pg_name (i := 20) sc_law.nd rfl (.inl rfl))) (fun _ _ _ _ _ => pts_nil) (fun _ _ _ _ _ => (pe_met C_Box_room hr (by decide) (pv 5) (pa_cons (pv 20) pa_nil)))) pa_nil)) (nomark _)) (pw_or1 (pt_not (pt_val (pe_callB (x_all K rfl) (by rfl) T.n_all (by decide +kernel) (pa_cons (pe_lc (own := [("half", 20)]) (tt := tYes) rfl sc_law.nd (x_row K (pv 9)) (blkOk_by (N := N_law) (sc := defScope s_law) (by decide +kernel)) (fun _ _ _ _ _ => (pg_name (i := 20) sc_law.nd rfl (.inl rfl))) (fun _ _ _ _ _ => pts_nil) (fun _ _ _ _ _ => (pe_cal C_is_inside hr (by decide) (by rfl) (pa_cons (pv 20) (pa_cons (pv 7) pa_nil))))) pa_nil))))))) (pss_one (ps_ret pe_bl)) pss_nil)
    (pss_cons (ps_if (PW.pt (pw_or (pt_cmpR op_ne (pe_met C_Cloud_count hr (by decide) (pv 4) (pa_cons (pv 7) pa_nil)) (pe_callB (x_sum K rfl) (by rfl) T.n_sum (by decide +kernel) (pa_cons (pe_lc (own := [("half", 20)]) (tt := tYes) rfl sc_law.nd (x_row K (pv 9)) (blkOk_by (N := N_law) (sc := defScope s_law) (by decide +kernel)) (fun _ _ _ _ _ => (pg_name (i := 20) sc_law.nd rfl (.inl rfl))) (fun _ _ _ _ _ => pts_nil) (fun _ _ _ _ _ => (pe_met C_Cloud_count hr (by decide) (pv 4) (pa_cons (pv 20) pa_nil)))) pa_nil)) (nomark _)) (pw_or1 (pt_val (pe_cal C_is_inside hr (by decide) (by rfl) (pa_cons (pv 7) (pa_cons (pe_ix (x_ixA K) (pv 9) pe_int (fun _ _ => rfl)) pa_nil))))))) (pss_one (ps_ret pe_bl)) pss_nil)
    (pss_cons (ps_asg (pe_met C_Space_cell hr (by decide) (pv 3) (pa_cons (pv 7) pa_nil)) (x_gtup K (n := 2) rfl (pgs_cons (pg_name (i := 10) sc_law.nd rfl (.inl rfl)) (pgs_cons (pg_name (i := 11) sc_law.nd rfl (.inl rfl)) pgs_nil))))
    (pss_cons (ps_par (i := 12) (j := 13) rfl sc_law.nd rfl rfl (by decide) rfl rfl (pa_cons (pe_mak C_Box___init__ hr (by decide) (by rfl) (pa_cons (pv 3) (pa_cons (pv 10) (pa_cons (pv 11) pa_nil)))) (pa_cons (pe_cal C__law_box hr (by decide) (by rfl) (pa_cons (pv 1) (pa_cons (pv 3) pa_nil))) pa_nil)) rfl)
    (pss_cons (ps_par (i := 14) (j := 15) rfl sc_law.nd rfl rfl (by decide) rfl rfl (pa_cons (pe_cal C__law_meet hr (by decide) (by rfl) (pa_cons (pv 3) (pa_cons (pv 12) (pa_cons (pv 5) pa_nil)))) (pa_cons (pe_cal C__law_meet hr (by decide) (by rfl) (pa_cons (pv 3) (pa_cons (pv 5) (pa_cons (pv 13) pa_nil)))) pa_nil)) rfl)
    (pss_cons (ps_if (pt_cmpR op_ne (pe_met C_Box_room hr (by decide) (pv 5) (pa_cons (pv 7) pa_nil)) (pe_ifExp (pt_cmpR op_isN (pv 14) pe_non (nomark _)) pe_int (pe_met C_Box_room hr (by decide) (pv 14) (pa_cons (pe_tup (pa_cons pe_int (pa_cons pe_int pa_nil))) pa_nil))) (nomark _)) (pss_one (ps_ret pe_bl)) pss_nil)
    (pss_cons (ps_par (i := 16) (j := 17) rfl sc_law.nd rfl rfl (by decide) rfl rfl (pa_cons (pe_cal C_pfxes_of hr (by decide) (by rfl) (pa_cons (pv 5) pa_nil)) (pa_cons (pe_cal C_pfxes_of hr (by decide) (by rfl) (pa_cons (pv 13) pa_nil)) pa_nil)) rfl)
    (pss_cons (ps_set (i := 18) sc_law.nd rfl (.inl rfl) (pe_cal C__law_shared hr (by decide) (by rfl) (pa_cons (pv 16) (pa_cons (pv 17) pa_nil))))
    (pss_one (ps_if (pt_cmpR op_ne (pe_callB (x_sum K rfl) (by rfl) T.n_sum (by decide +kernel) (pa_cons (pe_lc (own := [("prefix", 7)]) (tt := tYes) rfl sc_law.nd (x_row K (pv 18)) (blkOk_by (N := N_law) (sc := defScope s_law) (by decide +kernel)) (fun _ _ _ _ _ => (pg_name (i := 7) sc_law.nd rfl (.inl rfl))) (fun _ _ _ _ _ => pts_nil) (fun _ _ _ _ _ => (pe_met C_Space_size hr (by decide) (pv 3) (pa_cons (pv 7) pa_nil)))) pa_nil)) (pe_ifExp (pt_cmpR op_isN (pv 15) pe_non (nomark _)) pe_int (pe_met C_Box_room hr (by decide) (pv 15) (pa_cons (pe_tup (pa_cons pe_int (pa_cons pe_int pa_nil))) pa_nil))) (nomark _)) (pss_one (ps_ret pe_bl)) pss_nil)))))))))))))))))))
    (pss_one (ps_ret pe_bl)))), fun d s ns tr F0 H0 hns => ?_⟩)
  try dsimp only [cxOf]
  refine (show Sx K _ (fun _ => False) _ _ _ [.d (.adr s), .d (.adr d), .non, .non, .non, .non, .non, .non, .non, .non, .non, .non, .non, .non, .non, .non, .non, .non, .non, .non, .non] _ from ?_)
  refine sx_seq (sx_for (ei_rng1 (ea_cons (ev_int (ea_nil ⟨3, rfl, by decide, by decide, ?_⟩)))))
  refine ⟨fun i ρ' => ∃ a2 a3 a4 a5 a6 a7 a8 a9 a10 a11 a12 a13 a14 a15 a16 a17 a18 a19 a20 : SV, ρ' = [.d (.adr s), .d (.adr d), a2, a3, a4, a5, a6, a7, a8, a9, a10, a11, a12, a13, a14, a15, a16, a17, a18, a19, a20], ⟨_, _, _, _, _, _, _, _, _, _, _, _, _, _, _, _, _, _, _, rfl⟩, ?_, ?_⟩
  rotate_left
  · rintro ρ' ⟨a2, a3, a4, a5, a6, a7, a8, a9, a10, a11, a12, a13, a14, a15, a16, a17, a18, a19, a20, rfl⟩
    exact sx_ret (ev_bl rfl)
  rintro i x ρ' hx ⟨a2, a3, a4, a5, a6, a7, a8, a9, a10, a11, a12, a13, a14, a15, a16, a17, a18, a19, a20, rfl⟩
  refine eg_name ?_
  dsimp only [List.set]
  clear hx
  have S := T.S_Space
  -- space
  refine sx_seq (sx_asg (ev_call (ea_cons (ev_var rfl (ea_cons (ev_int (ea_nil ⟨d, s, ns, tr, 12, rfl, rfl, by decide, by decide, fun dm b hs hm => eg_name ?_⟩)))))))
  dsimp only [List.set]
  have hs' := hs
  obtain ⟨⟨d1, d2⟩, b1, b2⟩ := hs'
  -- cloud, box
  refine sx_seq (sx_asg (ev_tup (ea_cons (ev_call (ea_cons (ev_var rfl (ea_cons (ev_var rfl (ea_cons (ev_int (ea_nil ⟨d, s, ns, tr, dm, b, 20, rfl, rfl, hs, by decide, fun ps row hop nd hl hrow => ?_⟩)))))))))))
  refine ea_cons (ev_call (ea_cons (ev_var rfl (ea_cons (ev_var rfl (ea_nil ⟨d, s, ns, tr, dm, b, rfl, rfl, hs, fun lo hi hb => ea_nil ⟨show (2 : Nat) ≤ 1000000 by decide, eg_tup ⟨_, rfl, rfl, egs_cons (eg_name (egs_cons (eg_name (egs_nil ?_))))⟩⟩⟩))))))
  dsimp only [List.set]
  have hR := okR_of hrow (show ps.length < 64 by omega)
  have l1 := hb.1.1
  have l2 := hb.2.1.1
  -- found
  refine sx_seq (sx_asg (ev_call (ea_cons (ev_var rfl (ea_nil ⟨dm, b, lo, hi, rfl, hs, hb, by omega, fun fs hf => eg_name ?_⟩)))))
  dsimp only [List.set]
  have hfl : fs.length ≤ 2 ^ 16 := hf.2.2
  have room0 : ∀ {lo hi : List Nat} {c' : Cfg} {Q : DV → Prop}, OkB dm b lo hi → Q (natD (GM.roomN dm b (fnc lo) (fnc hi) 0 0)) → fRoom Cb C c' [bxD Cb C dm b lo hi, .tup [.int 0, .int 0]] Q := fun ho q => ⟨dm, b, _, _, 0, 0, rfl, hs, ho, Nat.zero_le _, by decide, q⟩
  have whole : ∀ f : Nat → Nat, (∀ n, n < 2 ^ (dm * b) → (fs.map fun x => GM.isC dm b x n).sum = f n) → (fs.map fun x => 2 ^ (dm * b - x.1)).sum = GM.tot f (dm * b) 0 := fun f h => GM.cov_sizes hf.1 h
  -- the counts of its prefixes
  refine sx_guardq ?_ ?_
  · refine et_test (ev_op (ev_cb (ea_cons (ev_en (en_lcMap (own_name (by decide)) (ei_row (ev_var rfl ⟨_, .inl rfl, ?_⟩)))))))
    refine ⟨by rw [List.length_map]; omega, fun x => natD ((fun y : Nat × Nat => row.countP fun n => decide (n / 2 ^ (dm * b - y.1) = y.2)) (unC x)), fun x hx => ?_, _, rfl, ea_nil (rva_sumC (g := fun y : Nat × Nat => row.countP fun n => decide (n / 2 ^ (dm * b - y.1) = y.2)) ?_)⟩
    · obtain ⟨c, hc, rfl⟩ := List.mem_map.mp hx
      refine eg_name ?_
      dsimp only [List.set, wipeR]
      exact ev_meth (ev_var rfl ⟨_, rfl, rfl, ea_cons (ev_var rfl (ea_nil ⟨dm, b, row, c.1, c.2, rfl, hs, hR, (hf.1 c hc).1, (hf.1 c hc).2, rfl⟩))⟩)
    refine ev_cb (ea_cons (ev_en (en_lcFil (own_name (by decide)) (ei_row (ev_meth (ev_var rfl ⟨_, rfl, rfl, ea_nil ⟨dm, b, row, rfl, hs, hR, _, .inr rfl, ?_⟩⟩))))))
    refine ⟨by rw [List.length_map, List.length_map]; have := hR.2.2; omega, fun x => heldB lo (unP x) hi, fun x => x, fun x hx => ?_, _, rfl, ea_nil (rva_len (.inl rfl) (rv_neI ⟨_, rfl, ?_⟩))⟩
    · obtain ⟨p, hp, rfl⟩ := List.mem_map.mp hx
      obtain ⟨n, hn, rfl⟩ := List.mem_map.mp hp
      refine eg_name ?_
      dsimp only [List.set, wipeR]
      exact et_test (ev_meth (ev_var rfl ⟨_, rfl, rfl, ea_cons (ev_var rfl (ea_nil ⟨dm, b, lo, hi, _, rfl, hs, hb, pointOf_ok, _, rfl, by rw [unP_point], fun _ => ev_var rfl rfl⟩))⟩))
    have e : ((((row.map (GM.pointOf dm b)).map pointD).filter fun x => heldB lo (unP x) hi).map fun x => x).length = row.countP fun n => heldB lo (GM.pointOf dm b n) hi := by
      rw [List.length_map, ← List.countP_eq_length_filter, List.countP_map, List.countP_map]
      refine List.countP_congr fun n _ => ?_
      show heldB lo (unP (pointD (GM.pointOf dm b n))) hi = true ↔ _
      rw [unP_point]
    rw [e, count_held l1 l2 hf hR.2.1]
    simp
  -- their sizes
  refine sx_guardq ?_ ?_
  · refine et_test (ev_op (ev_cb (ea_cons (ev_en (en_lcMap (own_name (by decide)) (ei_row (ev_var rfl ⟨_, .inl rfl, ?_⟩)))))))
    refine ⟨by rw [List.length_map]; omega, fun x => natD ((fun y : Nat × Nat => 2 ^ (dm * b - y.1)) (unC x)), fun x hx => ?_, _, rfl, ea_nil (rva_sumC (g := fun y : Nat × Nat => 2 ^ (dm * b - y.1)) ?_)⟩
    · obtain ⟨c, hc, rfl⟩ := List.mem_map.mp hx
      refine eg_name ?_
      dsimp only [List.set, wipeR]
      exact ev_meth (ev_var rfl ⟨_, rfl, rfl, ea_cons (ev_var rfl (ea_nil ⟨dm, b, c.1, c.2, rfl, hs, (hf.1 c hc).1, rfl⟩))⟩)
    refine ev_meth (ev_var rfl ⟨_, rfl, rfl, ea_cons (ev_tup (ea_cons (ev_int (ea_cons (ev_int (ea_nil ⟨show (2 : Nat) ≤ 1000000 by decide, ea_nil (room0 hb (rv_neI ⟨_, rfl, ?_⟩))⟩))))))⟩)
    rw [whole _ hf.2.1, GM.room_tot (by omega) (dm * b) 0 0 (Nat.zero_add _)]
    simp
  -- a prefix, and its halves
  have hD : 0 < dm * b := Nat.mul_pos (by omega) (by omega)
  refine sx_seq (sx_asg (ev_call (ea_cons (ev_var rfl (ea_cons (ev_sdepth S (ev_var rfl ⟨dm, b, rfl, ea_nil ⟨d, s, ns, tr, _, rfl, rfl, by omega, fun l hl0 => eg_name ?_⟩⟩)))))))
  dsimp only [List.set]
  have hll : l < dm * b := by omega
  clear hl0
  have hp2 : 0 < 2 ^ l := Nat.pow_pos (by decide)
  refine sx_seq (sx_asg (ev_tup (ea_cons (ev_var rfl (ea_cons (ev_call (ea_cons (ev_var rfl (ea_cons (ev_call (ea_cons (ev_var rfl (ea_nil ⟨l, rfl, by omega, ea_nil ⟨d, s, ns, tr, _, rfl, rfl, Int.natCast_pos.mpr hp2, fun k hk0 => ea_nil ⟨show (2 : Nat) ≤ 1000000 by decide, eg_name ?_⟩⟩⟩)))))))))))))
  dsimp only [List.set]
  have hk : k < 2 ^ l := Int.ofNat_lt.mp hk0
  clear hk0
  refine sx_seq (sx_asg (ev_lst (ea_cons (ev_tup (ea_cons (ev_op (ev_var rfl (ev_int (rv_I0i (ea_cons (ev_op (ev_int (ev_op (ev_var rfl (ev_int (rv_ixA (j := 1) (.inr rfl) rfl (rv_Ii (.inl ⟨by decide, by decide⟩) (ea_nil ⟨show (2 : Nat) ≤ 1000000 by decide, ?_⟩))))))))))))))))))
  refine ea_cons (ev_tup (ea_cons (ev_op (ev_var rfl (ev_int (rv_I0i (ea_cons (ev_op (ev_op (ev_int (ev_op (ev_var rfl (ev_int (rv_ixA (j := 1) (.inr rfl) rfl (rv_Ii (.inl ⟨by decide, by decide⟩) (ev_int (rv_I0i (ea_nil ⟨show (2 : Nat) ≤ 1000000 by decide, ea_nil ⟨show (2 : Nat) ≤ 1000000 by decide, eg_name ?_⟩⟩))))))))))))))))))
  dsimp only [List.set]
  have eh : DV.lst [.tup [.int ((l : Int) + 1), .int (2 * (k : Int))], .tup [.int ((l : Int) + 1), .int (2 * (k : Int) + 1)]] = .lst ([(l + 1, 2 * k), (l + 1, 2 * k + 1)].map preP) := by
    show _ = DV.lst [.tup [.int ((l + 1 : Nat) : Int), .int ((2 * k : Nat) : Int)], .tup [.int ((l + 1 : Nat) : Int), .int ((2 * k + 1 : Nat) : Int)]]
    rw [show ((l + 1 : Nat) : Int) = (l : Int) + 1 from rfl, show ((2 * k : Nat) : Int) = 2 * (k : Int) from rfl, show ((2 * k + 1 : Nat) : Int) = 2 * (k : Int) + 1 from rfl]
  rw [eh]
  have hk1 : 2 * k + 1 < 2 ^ (l + 1) := by rw [Nat.pow_succ]; omega
  have okh : ∀ x ∈ [(l + 1, 2 * k), (l + 1, 2 * k + 1)], x.1 = l + 1 ∧ x.1 ≤ dm * b ∧ x.2 < 2 ^ x.1 ∧ x.2 / 2 = k := by
    intro x hx
    simp only [List.mem_cons, List.not_mem_nil, or_false] at hx
    rcases hx with rfl | rfl
    · exact ⟨rfl, hll, by show 2 * k < 2 ^ (l + 1); omega, by show 2 * k / 2 = k; omega⟩
    · exact ⟨rfl, hll, hk1, by show (2 * k + 1) / 2 = k; omega⟩
  -- rooms
  refine sx_guardq ?_ ?_
  · refine et_or (et_test (ev_op (ev_meth (ev_var rfl ⟨_, rfl, rfl, ea_cons (ev_var rfl (ea_nil ⟨dm, b, lo, hi, l, k, rfl, hs, hb, by omega, hk, ?_⟩))⟩))))
    refine ev_cb (ea_cons (ev_en (en_lcMap (own_name (by decide)) (ei_row (ev_var rfl ⟨_, .inl rfl, ?_⟩)))))
    refine ⟨show (2 : Nat) ≤ 1000000 by decide, fun x => natD ((fun y : Nat × Nat => GM.roomN dm b (fnc lo) (fnc hi) y.1 y.2) (unC x)), fun x hx => ?_, _, rfl, ea_nil (rva_sumC (g := fun y : Nat × Nat => GM.roomN dm b (fnc lo) (fnc hi) y.1 y.2) (rv_neI ⟨_, rfl, ?_⟩))⟩
    · obtain ⟨c, hc, rfl⟩ := List.mem_map.mp hx
      refine eg_name ?_
      dsimp only [List.set, wipeR]
      exact ev_meth (ev_var rfl ⟨_, rfl, rfl, ea_cons (ev_var rfl (ea_nil ⟨dm, b, lo, hi, c.1, c.2, rfl, hs, hb, (okh c hc).2.1, (okh c hc).2.2.1, rfl⟩))⟩)
    have e : ([(l + 1, 2 * k), (l + 1, 2 * k + 1)].map fun y : Nat × Nat => GM.roomN dm b (fnc lo) (fnc hi) y.1 y.2).sum = GM.roomN dm b (fnc lo) (fnc hi) l k := by
      rw [GM.roomN_half (l := l) (by omega) hll]
      exact congrArg (GM.roomN dm b (fnc lo) (fnc hi) (l + 1) (2 * k) + ·) (Nat.add_zero (GM.roomN dm b (fnc lo) (fnc hi) (l + 1) (2 * k + 1)))
    rw [e, decide_eq_true rfl, if_neg (by decide)]
    refine et_not (et_test (ev_cb (ea_cons (ev_en (en_lcMap (own_name (by decide)) (ei_row (ev_var rfl ⟨_, .inl rfl, ?_⟩)))))))
    refine ⟨show (2 : Nat) ≤ 1000000 by decide, fun _ => .bl true, fun x hx => ?_, _, rfl, ea_nil ?_⟩
    · obtain ⟨c, hc, rfl⟩ := List.mem_map.mp hx
      refine eg_name ?_
      dsimp only [List.set, wipeR]
      refine ev_call (ea_cons (ev_var rfl (ea_cons (ev_var rfl (ea_nil ⟨c.1, c.2, l, k, rfl, ?_⟩)))))
      obtain ⟨c1, _, _, c4⟩ := okh c hc
      rw [c1, show l + 1 - l = 1 by omega, Nat.pow_one, c4, decide_eq_true (Nat.le_succ l), decide_eq_true rfl]
      rfl
    exact rva_all (bs := [true, true]) ⟨_, rfl, rfl⟩
  -- counts
  refine sx_guardq ?_ ?_
  · refine et_or (et_test (ev_op (ev_meth (ev_var rfl ⟨_, rfl, rfl, ea_cons (ev_var rfl (ea_nil ⟨dm, b, row, l, k, rfl, hs, hR, by omega, hk, ?_⟩))⟩))))
    refine ev_cb (ea_cons (ev_en (en_lcMap (own_name (by decide)) (ei_row (ev_var rfl ⟨_, .inl rfl, ?_⟩)))))
    refine ⟨show (2 : Nat) ≤ 1000000 by decide, fun x => natD ((fun y : Nat × Nat => row.countP fun n => decide (n / 2 ^ (dm * b - y.1) = y.2)) (unC x)), fun x hx => ?_, _, rfl, ea_nil (rva_sumC (g := fun y : Nat × Nat => row.countP fun n => decide (n / 2 ^ (dm * b - y.1) = y.2)) (rv_neI ⟨_, rfl, ?_⟩))⟩
    · obtain ⟨c, hc, rfl⟩ := List.mem_map.mp hx
      refine eg_name ?_
      dsimp only [List.set, wipeR]
      exact ev_meth (ev_var rfl ⟨_, rfl, rfl, ea_cons (ev_var rfl (ea_nil ⟨dm, b, row, c.1, c.2, rfl, hs, hR, (okh c hc).2.1, (okh c hc).2.2.1, rfl⟩))⟩)
    have e : ([(l + 1, 2 * k), (l + 1, 2 * k + 1)].map fun y : Nat × Nat => row.countP fun n => decide (n / 2 ^ (dm * b - y.1) = y.2)).sum = row.countP fun n => decide (n / 2 ^ (dm * b - l) = k) := by
      rw [count_half hll]
      exact congrArg ((row.countP fun n => decide (n / 2 ^ (dm * b - (l + 1)) = 2 * k)) + ·) (Nat.add_zero (row.countP fun n => decide (n / 2 ^ (dm * b - (l + 1)) = 2 * k + 1)))
    rw [e, decide_eq_true rfl, if_neg (by decide)]
    refine et_test (ev_call (ea_cons (ev_var rfl (ea_cons (ev_op (ev_var rfl (ev_int (rv_ixA (j := 0) (.inl rfl) rfl (ea_nil ⟨l, k, l + 1, 2 * k, rfl, _, rfl, ?_⟩)))))))))
    rw [decide_eq_false (by omega), Bool.false_and]
  -- the cell as a box, another box
  refine sx_seq (sx_asg (ev_meth (ev_var rfl ⟨_, rfl, rfl, ea_cons (ev_var rfl (ea_nil ⟨dm, b, l, k, rfl, hs, by omega, hk, eg_tup ⟨_, rfl, rfl, egs_cons (eg_name (egs_cons (eg_name (egs_nil ?_))))⟩⟩))⟩)))
  dsimp only [List.set]
  have hcell := cell_ok (d := dm) (b := b) (l := l) (k := k)
  refine sx_seq (sx_par (ea_cons (ev_make (ea_cons (ev_var rfl (ea_cons (ev_var rfl (ea_cons (ev_var rfl (ea_nil ⟨dm, b, lowsC dm b l k, highsC dm b l k, rfl, hs, hcell, ?_⟩))))))))))
  refine ea_cons (ev_call (ea_cons (ev_var rfl (ea_cons (ev_var rfl (ea_nil ⟨d, s, ns, tr, dm, b, rfl, rfl, hs, fun lo2 hi2 hb2 => ea_nil ⟨_, _, rfl, ?_⟩⟩))))))
  dsimp only [List.set]
  refine sx_seq (sx_par (ea_cons (ev_call (ea_cons (ev_var rfl (ea_cons (ev_var rfl (ea_cons (ev_var rfl (ea_nil (meet_any (lo := lowsC dm b l k) (hi := highsC dm b l k) hs hcell hb fun both hboth => ?_)))))))))))
  refine ea_cons (ev_call (ea_cons (ev_var rfl (ea_cons (ev_var rfl (ea_cons (ev_var rfl (ea_nil (meet_any hs hb hb2 fun two htwo => ea_nil ⟨_, _, rfl, ?_⟩)))))))))
  dsimp only [List.set]
  -- the room of the cell
  refine sx_guardq ?_ ?_
  · refine et_test (ev_op (ev_meth (ev_var rfl ⟨_, rfl, rfl, ea_cons (ev_var rfl (ea_nil ⟨dm, b, lo, hi, l, k, rfl, hs, hb, by omega, hk, ?_⟩))⟩)))
    refine ev_if (et_test (ev_op (ev_var rfl (ev_non (rv_isN ⟨_, rfl, ?_⟩)))))
    rcases hboth with ⟨rfl, ok⟩ | ⟨rfl, hz⟩
    · rw [bx_non, if_neg Bool.false_ne_true]
      refine ev_meth (ev_var rfl ⟨_, rfl, rfl, ea_cons (ev_tup (ea_cons (ev_int (ea_cons (ev_int (ea_nil ⟨show (2 : Nat) ≤ 1000000 by decide, ea_nil (room0 ok (rv_neI ⟨_, rfl, ?_⟩))⟩))))))⟩)
      rw [meet_room (Cb := Cb) (C := C) hcell hb, cell_room]
      simp
    · rw [show isNonD .non = true from rfl, if_pos rfl]
      refine ev_int (rv_neI ⟨_, rfl, ?_⟩)
      rw [cell_room] at hz
      rw [hz]
      rfl
  -- what two boxes share
  refine sx_seq (sx_par (ea_cons (ev_call (ea_cons (ev_var rfl (ea_nil ⟨dm, b, lo, hi, rfl, hs, hb, by omega, fun fs1 hf1 => ?_⟩))))))
  refine ea_cons (ev_call (ea_cons (ev_var rfl (ea_nil ⟨dm, b, lo2, hi2, rfl, hs, hb2, by omega, fun gs1 hg1 => ea_nil ⟨_, _, rfl, ?_⟩⟩))))
  dsimp only [List.set]
  have hsh := GM.shared_sizes (show 0 < dm by omega) hf1.1 hg1.1 hf1.2.1 hg1.2.1
  have hrl := room_le (d := dm) (b := b) (lo := fun a => max (fnc lo a) (fnc lo2 a)) (hi := fun a => min (fnc hi a) (fnc hi2 a)) (by omega)
  have h16 : 2 ^ (dm * b) ≤ 2 ^ 16 := Nat.pow_le_pow_right (by decide) (by omega)
  have hln := len_sum (dm * b) (GM.sharedC fs1 gs1)
  refine sx_seq (sx_asg (ev_call (ea_cons (ev_var rfl (ea_cons (ev_var rfl (ea_nil ⟨fs1, gs1, rfl, by omega, eg_name ?_⟩)))))))
  dsimp only [List.set]
  refine sx_if (et_test (ev_op (ev_cb (ea_cons (ev_en (en_lcMap (own_name (by decide)) (ei_row (ev_var rfl ⟨_, .inl rfl, ?_⟩))))))))
  refine ⟨by rw [List.length_map]; omega, fun x => natD ((fun y : Nat × Nat => 2 ^ (dm * b - y.1)) (unC x)), fun x hx => ?_, _, rfl, ea_nil (rva_sumC (g := fun y : Nat × Nat => 2 ^ (dm * b - y.1)) ?_)⟩
  · obtain ⟨c, hc, rfl⟩ := List.mem_map.mp hx
    refine eg_name ?_
    dsimp only [List.set, wipeR]
    have hc1 : c.1 ≤ dm * b := by
      rcases GM.shared_mem hc with h | h
      · exact (hf1.1 c h).1
      · exact (hg1.1 c h).1
    exact ev_meth (ev_var rfl ⟨_, rfl, rfl, ea_cons (ev_var rfl (ea_nil ⟨dm, b, c.1, c.2, rfl, hs, hc1, rfl⟩))⟩)
  rw [hsh]
  refine ev_if (et_test (ev_op (ev_var rfl (ev_non (rv_isN ⟨_, rfl, ?_⟩)))))
  rcases htwo with ⟨rfl, ok⟩ | ⟨rfl, hz⟩
  · rw [bx_non, if_neg Bool.false_ne_true]
    refine ev_meth (ev_var rfl ⟨_, rfl, rfl, ea_cons (ev_tup (ea_cons (ev_int (ea_cons (ev_int (ea_nil ⟨show (2 : Nat) ≤ 1000000 by decide, ea_nil (room0 ok (rv_neI ⟨_, rfl, ?_⟩))⟩))))))⟩)
    rw [meet_room (Cb := Cb) (C := C) hb hb2, decide_eq_true rfl, if_neg (by decide)]
    exact sx_next ⟨_, _, _, _, _, _, _, _, _, _, _, _, _, _, _, _, _, _, _, rfl⟩
  · rw [show isNonD .non = true from rfl, if_pos rfl]
    refine ev_int (rv_neI ⟨_, rfl, ?_⟩)
    rw [hz, decide_eq_true (show ((0 : Nat) : Int) = 0 from rfl), if_neg (by decide)]
    exact sx_next ⟨_, _, _, _, _, _, _, _, _, _, _, _, _, _, _, _, _, _, _, rfl⟩
end

-- @FILE K60k
theorem all_mk {l : PySem.W.OpenLaw} {w : World} {K : PySem.W.Frag} {h : Heap} {mg : Str → Option Value} {fa : Addr} (Xk : K.In h) (G : h.Ns mainGlobals mg) (hfa : mg "law" = some (.ref fa))
    (zn0 : PySem.W.nsIn K mainGlobals "int" = some none)
    (zn1 : PySem.W.nsIn K mainGlobals "bool" = some none)
    (zn2 : PySem.W.nsIn K mainGlobals "tuple" = some none)
    (zn3 : PySem.W.nsIn K mainGlobals "list" = some none)
    (zn4 : PySem.W.nsIn K mainGlobals "isinstance" = some none)
    (zn5 : PySem.W.nsIn K mainGlobals "len" = some none)
    (zn6 : PySem.W.nsIn K mainGlobals "abs" = some none)
    (zn7 : PySem.W.nsIn K mainGlobals "all" = some none)
    (zn8 : PySem.W.nsIn K mainGlobals "range" = some none)
    (zn9 : PySem.W.nsIn K mainGlobals "reversed" = some none)
    (zn10 : PySem.W.nsIn K mainGlobals "min" = some none)
    (zn11 : PySem.W.nsIn K mainGlobals "max" = some none)
    (zn12 : PySem.W.nsIn K mainGlobals "set" = some none)
    (zn13 : PySem.W.nsIn K mainGlobals "sorted" = some none)
    (zn14 : PySem.W.nsIn K mainGlobals "any" = some none)
    (zn15 : PySem.W.nsIn K mainGlobals "zip" = some none)
    (zn16 : PySem.W.nsIn K mainGlobals "sum" = some none)
    {tk0 : Tok}
    (zc0 : PySem.W.nsIn K mainGlobals "MOST_DIMENSIONS" = some (some (.int 3 tk0)))
    {tk1 : Tok}
    (zc1 : PySem.W.nsIn K mainGlobals "MOST_BITS" = some (some (.int 10 tk1)))
    {C Cc Cb Ce fI : Addr}
    (kg0 : PySem.W.nsIn K mainGlobals "Space" = some (some (.ref C)))
    (kp0 : PySem.W.plainGet K C Str.empty = true)
    (kh0 : PySem.W.hasDictIn K C = true)
    (ko0 : PySem.W.plainOver K C = true)
    (ks0 : PySem.W.findIn K (.ref C) "__setattr__" = some (some (.builtin "object.__setattr__")))
    (ka0_0 : PySem.W.findIn K (.ref C) "dimensions" = some none)
    (ka0_1 : PySem.W.findIn K (.ref C) "bits" = some none)
    (ka0_2 : PySem.W.findIn K (.ref C) "depth" = some none)
    (ka0_3 : PySem.W.findIn K (.ref C) "side" = some none)
    (kg1 : PySem.W.nsIn K mainGlobals "Cloud" = some (some (.ref Cc)))
    (kp1 : PySem.W.plainGet K Cc Str.empty = true)
    (kh1 : PySem.W.hasDictIn K Cc = true)
    (ko1 : PySem.W.plainOver K Cc = true)
    (ks1 : PySem.W.findIn K (.ref Cc) "__setattr__" = some (some (.builtin "object.__setattr__")))
    (ka1_0 : PySem.W.findIn K (.ref Cc) "space" = some none)
    (ka1_1 : PySem.W.findIn K (.ref Cc) "row" = some none)
    (kg2 : PySem.W.nsIn K mainGlobals "Box" = some (some (.ref Cb)))
    (kp2 : PySem.W.plainGet K Cb Str.empty = true)
    (kh2 : PySem.W.hasDictIn K Cb = true)
    (ko2 : PySem.W.plainOver K Cb = true)
    (ks2 : PySem.W.findIn K (.ref Cb) "__setattr__" = some (some (.builtin "object.__setattr__")))
    (ka2_0 : PySem.W.findIn K (.ref Cb) "space" = some none)
    (ka2_1 : PySem.W.findIn K (.ref Cb) "lows" = some none)
    (ka2_2 : PySem.W.findIn K (.ref Cb) "highs" = some none)
    {nm0 q0 : Str}
    {N0 D0 : Addr}
    {bs0 : List Value}
    {sn0 : List Str}
    {sub0 : List Value}
    {ab0 : Bool}
    {col0 : Option Bool}
    {dd0 : Option Addr}
    {m00 m10 m20 m30 m50 : Option Value}
    {ode0 ane0 : Option Addr}
    {sle0 : Array (Option Value)}
    {oce0 dce0 pme0 cde0 cte0 : Value}
    (eg0 : PySem.W.nsIn K mainGlobals "BadPoint" = some (some (.ref Ce)))
    (ex0 : K.lookup Ce = some (excClassObj nm0 q0 Ce N0 bs0 [.ref D0, .type "Exception", .type "BaseException", .type "object"] true sn0 sub0 ab0 col0 dd0 m00 m10 m20 m30 m50 "Exception.__new__"))
    (es0 : PySem.W.findIn K (.ref Ce) "__setattr__" = some (some (.builtin "object.__setattr__")))
    (ea0 : PySem.W.findIn K (.ref Ce) "__getattribute__" = some (some (.builtin "BaseException.__getattribute__")))
    (en0 : PySem.W.findIn K (.ref Ce) "__getattr__" = some none)
    (ef0 : PySem.W.findIn K (.ref Ce) "point" = some none)
    (ei0 : PySem.W.findIn K (.ref Ce) "__init__" = some (some (.ref fI)))
    (et0 : PySem.W.typeIn K (.ref fI) = some (.type "function"))
    (el0 : K.lookup fI = some ⟨oce0, ode0, .func (PySem.W.fnOf "__init__" "BadPoint.__init__" (PySem.BadPointX.iA ⟨13, 17, 13, 21⟩ ⟨13, 23, 13, 28⟩) (PySem.BadPointX.iB ⟨14, 8, 14, 12⟩ ⟨14, 8, 14, 18⟩ ⟨14, 21, 14, 26⟩ ⟨14, 8, 14, 26⟩) PySem.BadPointX.iS .none .none dce0 pme0 ane0 cde0 cte0), sle0⟩)
    (ec0 : PySem.W.codeIn K cde0 "BadPoint.__init__" = true)
    (ek0 : PySem.W.keepIn K (.ref Ce) = true)
    (eb0 : PySem.W.subIn K (.ref Ce) (.type "BaseException") = some true)
    (ey0 : PySem.W.typeIn K (.ref Ce) = some (.type "type"))
    (eh0 : PySem.W.hasDictIn K Ce = true)
    (eu0 : PySem.W.isClsIn K Ce = true)
    (ez0 : PySem.W.subIn K (.ref Ce) (.ref Ce) = some true)
    {of0 ob0 : Option Addr}
    {os0 : Array (Option Value)}
    {o10 o20 o30 o40 o50 o60 : Value}
    {f0 : Addr}
    (pa0 : PySem.W.nsIn K mainGlobals "_law_number" = some (some (.ref f0)))
    (pl0 : K.lookup f0 = some ⟨o10, of0, .func (PySem.W.fnOf "_law_number" "_law_number" (defArgs s__law_number) (defBody s__law_number) (defScope s__law_number) .none o20 o30 o40 ob0 o50 o60), os0⟩)
    (pc0 : PySem.W.codeIn K o50 "_law_number" = true)
    (pk0 : PySem.W.keepIn K (.ref f0) = true)
    {of1 ob1 : Option Addr}
    {os1 : Array (Option Value)}
    {o11 o21 o31 o41 o51 o61 : Value}
    {f1 : Addr}
    (pa1 : PySem.W.nsIn K mainGlobals "_law_take" = some (some (.ref f1)))
    (pl1 : K.lookup f1 = some ⟨o11, of1, .func (PySem.W.fnOf "_law_take" "_law_take" (defArgs s__law_take) (defBody s__law_take) (defScope s__law_take) .none o21 o31 o41 ob1 o51 o61), os1⟩)
    (pc1 : PySem.W.codeIn K o51 "_law_take" = true)
    (pk1 : PySem.W.keepIn K (.ref f1) = true)
    {of2 ob2 : Option Addr}
    {os2 : Array (Option Value)}
    {o12 o22 o32 o42 o52 o62 : Value}
    {f2 : Addr}
    (pa2 : PySem.W.nsIn K mainGlobals "_law_pick" = some (some (.ref f2)))
    (pl2 : K.lookup f2 = some ⟨o12, of2, .func (PySem.W.fnOf "_law_pick" "_law_pick" (defArgs s__law_pick) (defBody s__law_pick) (defScope s__law_pick) .none o22 o32 o42 ob2 o52 o62), os2⟩)
    (pc2 : PySem.W.codeIn K o52 "_law_pick" = true)
    (pk2 : PySem.W.keepIn K (.ref f2) = true)
    {of3 ob3 : Option Addr}
    {os3 : Array (Option Value)}
    {o13 o23 o33 o43 o53 o63 : Value}
    {f3 : Addr}
    (pa3 : PySem.W.nsIn K mainGlobals "is_between" = some (some (.ref f3)))
    (pl3 : K.lookup f3 = some ⟨o13, of3, .func (PySem.W.fnOf "is_between" "is_between" (defArgs s_is_between) (defBody s_is_between) (defScope s_is_between) .none o23 o33 o43 ob3 o53 o63), os3⟩)
    (pc3 : PySem.W.codeIn K o53 "is_between" = true)
    (pk3 : PySem.W.keepIn K (.ref f3) = true)
    {of4 ob4 : Option Addr}
    {os4 : Array (Option Value)}
    {o14 o24 o34 o44 o54 o64 : Value}
    {f4 : Addr}
    (pa4 : PySem.W.nsIn K mainGlobals "shifted" = some (some (.ref f4)))
    (pl4 : K.lookup f4 = some ⟨o14, of4, .func (PySem.W.fnOf "shifted" "shifted" (defArgs s_shifted) (defBody s_shifted) (defScope s_shifted) .none o24 o34 o44 ob4 o54 o64), os4⟩)
    (pc4 : PySem.W.codeIn K o54 "shifted" = true)
    (pk4 : PySem.W.keepIn K (.ref f4) = true)
    {of5 ob5 : Option Addr}
    {os5 : Array (Option Value)}
    {o15 o25 o35 o45 o55 o65 : Value}
    {f5 : Addr}
    (pa5 : PySem.W.nsIn K mainGlobals "power" = some (some (.ref f5)))
    (pl5 : K.lookup f5 = some ⟨o15, of5, .func (PySem.W.fnOf "power" "power" (defArgs s_power) (defBody s_power) (defScope s_power) .none o25 o35 o45 ob5 o55 o65), os5⟩)
    (pc5 : PySem.W.codeIn K o55 "power" = true)
    (pk5 : PySem.W.keepIn K (.ref f5) = true)
    {of6 ob6 : Option Addr}
    {os6 : Array (Option Value)}
    {o16 o26 o36 o46 o56 o66 : Value}
    {f6 : Addr}
    (pa6 : PySem.W.findIn K (.ref C) "__init__" = some (some (.ref f6)))
    (pi6 : PySem.W.isFn K (.ref f6) = true)
    (pm6 : PySem.W.makesIn K C = true)
    (pq6 : PySem.W.keepIn K (.ref C) = true)
    (pl6 : K.lookup f6 = some ⟨o16, of6, .func (PySem.W.fnOf "__init__" "Space.__init__" (defArgs s_Space___init__) (defBody s_Space___init__) (defScope s_Space___init__) .none o26 o36 o46 ob6 o56 o66), os6⟩)
    (pc6 : PySem.W.codeIn K o56 "Space.__init__" = true)
    (pk6 : PySem.W.keepIn K (.ref f6) = true)
    {of7 ob7 : Option Addr}
    {os7 : Array (Option Value)}
    {o17 o27 o37 o47 o57 o67 : Value}
    {f7 : Addr}
    (pa7 : PySem.W.nsIn K mainGlobals "_law_space" = some (some (.ref f7)))
    (pl7 : K.lookup f7 = some ⟨o17, of7, .func (PySem.W.fnOf "_law_space" "_law_space" (defArgs s__law_space) (defBody s__law_space) (defScope s__law_space) .none o27 o37 o47 ob7 o57 o67), os7⟩)
    (pc7 : PySem.W.codeIn K o57 "_law_space" = true)
    (pk7 : PySem.W.keepIn K (.ref f7) = true)
    {of8 ob8 : Option Addr}
    {os8 : Array (Option Value)}
    {o18 o28 o38 o48 o58 o68 : Value}
    {f8 : Addr}
    (pa8 : PySem.W.findIn K (.ref C) "is_point" = some (some (.ref f8)))
    (pi8 : PySem.W.isFn K (.ref f8) = true)
    (pl8 : K.lookup f8 = some ⟨o18, of8, .func (PySem.W.fnOf "is_point" "Space.is_point" (defArgs s_Space_is_point) (defBody s_Space_is_point) (defScope s_Space_is_point) .none o28 o38 o48 ob8 o58 o68), os8⟩)
    (pc8 : PySem.W.codeIn K o58 "Space.is_point" = true)
    (pk8 : PySem.W.keepIn K (.ref f8) = true)
    {of9 ob9 : Option Addr}
    {os9 : Array (Option Value)}
    {o19 o29 o39 o49 o59 o69 : Value}
    {f9 : Addr}
    (pa9 : PySem.W.findIn K (.ref C) "woven" = some (some (.ref f9)))
    (pi9 : PySem.W.isFn K (.ref f9) = true)
    (pl9 : K.lookup f9 = some ⟨o19, of9, .func (PySem.W.fnOf "woven" "Space.woven" (defArgs s_Space_woven) (defBody s_Space_woven) (defScope s_Space_woven) .none o29 o39 o49 ob9 o59 o69), os9⟩)
    (pc9 : PySem.W.codeIn K o59 "Space.woven" = true)
    (pk9 : PySem.W.keepIn K (.ref f9) = true)
    {of10 ob10 : Option Addr}
    {os10 : Array (Option Value)}
    {o110 o210 o310 o410 o510 o610 : Value}
    {f10 : Addr}
    (pa10 : PySem.W.nsIn K mainGlobals "_row_of" = some (some (.ref f10)))
    (pl10 : K.lookup f10 = some ⟨o110, of10, .func (PySem.W.fnOf "_row_of" "_row_of" (defArgs s__row_of) (defBody s__row_of) (defScope s__row_of) .none o210 o310 o410 ob10 o510 o610), os10⟩)
    (pc10 : PySem.W.codeIn K o510 "_row_of" = true)
    (pk10 : PySem.W.keepIn K (.ref f10) = true)
    {of11 ob11 : Option Addr}
    {os11 : Array (Option Value)}
    {o111 o211 o311 o411 o511 o611 : Value}
    {f11 : Addr}
    (pa11 : PySem.W.findIn K (.ref Cc) "__init__" = some (some (.ref f11)))
    (pi11 : PySem.W.isFn K (.ref f11) = true)
    (pm11 : PySem.W.makesIn K Cc = true)
    (pq11 : PySem.W.keepIn K (.ref Cc) = true)
    (pl11 : K.lookup f11 = some ⟨o111, of11, .func (PySem.W.fnOf "__init__" "Cloud.__init__" (defArgs s_Cloud___init__) (defBody s_Cloud___init__) (defScope s_Cloud___init__) .none o211 o311 o411 ob11 o511 o611), os11⟩)
    (pc11 : PySem.W.codeIn K o511 "Cloud.__init__" = true)
    (pk11 : PySem.W.keepIn K (.ref f11) = true)
    {of12 ob12 : Option Addr}
    {os12 : Array (Option Value)}
    {o112 o212 o312 o412 o512 o612 : Value}
    {f12 : Addr}
    (pa12 : PySem.W.nsIn K mainGlobals "_law_point" = some (some (.ref f12)))
    (pl12 : K.lookup f12 = some ⟨o112, of12, .func (PySem.W.fnOf "_law_point" "_law_point" (defArgs s__law_point) (defBody s__law_point) (defScope s__law_point) .none o212 o312 o412 ob12 o512 o612), os12⟩)
    (pc12 : PySem.W.codeIn K o512 "_law_point" = true)
    (pk12 : PySem.W.keepIn K (.ref f12) = true)
    {of13 ob13 : Option Addr}
    {os13 : Array (Option Value)}
    {o113 o213 o313 o413 o513 o613 : Value}
    {f13 : Addr}
    (pa13 : PySem.W.nsIn K mainGlobals "_law_points" = some (some (.ref f13)))
    (pl13 : K.lookup f13 = some ⟨o113, of13, .func (PySem.W.fnOf "_law_points" "_law_points" (defArgs s__law_points) (defBody s__law_points) (defScope s__law_points) .none o213 o313 o413 ob13 o513 o613), os13⟩)
    (pc13 : PySem.W.codeIn K o513 "_law_points" = true)
    (pk13 : PySem.W.keepIn K (.ref f13) = true)
    {of14 ob14 : Option Addr}
    {os14 : Array (Option Value)}
    {o114 o214 o314 o414 o514 o614 : Value}
    {f14 : Addr}
    (pa14 : PySem.W.nsIn K mainGlobals "_law_cloud" = some (some (.ref f14)))
    (pl14 : K.lookup f14 = some ⟨o114, of14, .func (PySem.W.fnOf "_law_cloud" "_law_cloud" (defArgs s__law_cloud) (defBody s__law_cloud) (defScope s__law_cloud) .none o214 o314 o414 ob14 o514 o614), os14⟩)
    (pc14 : PySem.W.codeIn K o514 "_law_cloud" = true)
    (pk14 : PySem.W.keepIn K (.ref f14) = true)
    {of15 ob15 : Option Addr}
    {os15 : Array (Option Value)}
    {o115 o215 o315 o415 o515 o615 : Value}
    {f15 : Addr}
    (pa15 : PySem.W.findIn K (.ref Cb) "__init__" = some (some (.ref f15)))
    (pi15 : PySem.W.isFn K (.ref f15) = true)
    (pm15 : PySem.W.makesIn K Cb = true)
    (pq15 : PySem.W.keepIn K (.ref Cb) = true)
    (pl15 : K.lookup f15 = some ⟨o115, of15, .func (PySem.W.fnOf "__init__" "Box.__init__" (defArgs s_Box___init__) (defBody s_Box___init__) (defScope s_Box___init__) .none o215 o315 o415 ob15 o515 o615), os15⟩)
    (pc15 : PySem.W.codeIn K o515 "Box.__init__" = true)
    (pk15 : PySem.W.keepIn K (.ref f15) = true)
    {of16 ob16 : Option Addr}
    {os16 : Array (Option Value)}
    {o116 o216 o316 o416 o516 o616 : Value}
    {f16 : Addr}
    (pa16 : PySem.W.nsIn K mainGlobals "_law_box" = some (some (.ref f16)))
    (pl16 : K.lookup f16 = some ⟨o116, of16, .func (PySem.W.fnOf "_law_box" "_law_box" (defArgs s__law_box) (defBody s__law_box) (defScope s__law_box) .none o216 o316 o416 ob16 o516 o616), os16⟩)
    (pc16 : PySem.W.codeIn K o516 "_law_box" = true)
    (pk16 : PySem.W.keepIn K (.ref f16) = true)
    {of17 ob17 : Option Addr}
    {os17 : Array (Option Value)}
    {o117 o217 o317 o417 o517 o617 : Value}
    {f17 : Addr}
    (pa17 : PySem.W.nsIn K mainGlobals "_side_left" = some (some (.ref f17)))
    (pl17 : K.lookup f17 = some ⟨o117, of17, .func (PySem.W.fnOf "_side_left" "_side_left" (defArgs s__side_left) (defBody s__side_left) (defScope s__side_left) .none o217 o317 o417 ob17 o517 o617), os17⟩)
    (pc17 : PySem.W.codeIn K o517 "_side_left" = true)
    (pk17 : PySem.W.keepIn K (.ref f17) = true)
    {of18 ob18 : Option Addr}
    {os18 : Array (Option Value)}
    {o118 o218 o318 o418 o518 o618 : Value}
    {f18 : Addr}
    (pa18 : PySem.W.nsIn K mainGlobals "_halves_met" = some (some (.ref f18)))
    (pl18 : K.lookup f18 = some ⟨o118, of18, .func (PySem.W.fnOf "_halves_met" "_halves_met" (defArgs s__halves_met) (defBody s__halves_met) (defScope s__halves_met) .none o218 o318 o418 ob18 o518 o618), os18⟩)
    (pc18 : PySem.W.codeIn K o518 "_halves_met" = true)
    (pk18 : PySem.W.keepIn K (.ref f18) = true)
    {of19 ob19 : Option Addr}
    {os19 : Array (Option Value)}
    {o119 o219 o319 o419 o519 o619 : Value}
    {f19 : Addr}
    (pa19 : PySem.W.nsIn K mainGlobals "prefixes_of" = some (some (.ref f19)))
    (pl19 : K.lookup f19 = some ⟨o119, of19, .func (PySem.W.fnOf "prefixes_of" "prefixes_of" (defArgs s_pfxes_of) (defBody s_pfxes_of) (defScope s_pfxes_of) .none o219 o319 o419 ob19 o519 o619), os19⟩)
    (pc19 : PySem.W.codeIn K o519 "prefixes_of" = true)
    (pk19 : PySem.W.keepIn K (.ref f19) = true)
    {of20 ob20 : Option Addr}
    {os20 : Array (Option Value)}
    {o120 o220 o320 o420 o520 o620 : Value}
    {f20 : Addr}
    (pa20 : PySem.W.findIn K (.ref C) "size" = some (some (.ref f20)))
    (pi20 : PySem.W.isFn K (.ref f20) = true)
    (pl20 : K.lookup f20 = some ⟨o120, of20, .func (PySem.W.fnOf "size" "Space.size" (defArgs s_Space_size) (defBody s_Space_size) (defScope s_Space_size) .none o220 o320 o420 ob20 o520 o620), os20⟩)
    (pc20 : PySem.W.codeIn K o520 "Space.size" = true)
    (pk20 : PySem.W.keepIn K (.ref f20) = true)
    {of21 ob21 : Option Addr}
    {os21 : Array (Option Value)}
    {o121 o221 o321 o421 o521 o621 : Value}
    {f21 : Addr}
    (pa21 : PySem.W.nsIn K mainGlobals "place_in" = some (some (.ref f21)))
    (pl21 : K.lookup f21 = some ⟨o121, of21, .func (PySem.W.fnOf "place_in" "place_in" (defArgs s_place_in) (defBody s_place_in) (defScope s_place_in) .none o221 o321 o421 ob21 o521 o621), os21⟩)
    (pc21 : PySem.W.codeIn K o521 "place_in" = true)
    (pk21 : PySem.W.keepIn K (.ref f21) = true)
    {of22 ob22 : Option Addr}
    {os22 : Array (Option Value)}
    {o122 o222 o322 o422 o522 o622 : Value}
    {f22 : Addr}
    (pa22 : PySem.W.findIn K (.ref Cc) "count" = some (some (.ref f22)))
    (pi22 : PySem.W.isFn K (.ref f22) = true)
    (pl22 : K.lookup f22 = some ⟨o122, of22, .func (PySem.W.fnOf "count" "Cloud.count" (defArgs s_Cloud_count) (defBody s_Cloud_count) (defScope s_Cloud_count) .none o222 o322 o422 ob22 o522 o622), os22⟩)
    (pc22 : PySem.W.codeIn K o522 "Cloud.count" = true)
    (pk22 : PySem.W.keepIn K (.ref f22) = true)
    {of23 ob23 : Option Addr}
    {os23 : Array (Option Value)}
    {o123 o223 o323 o423 o523 o623 : Value}
    {f23 : Addr}
    (pa23 : PySem.W.findIn K (.ref C) "point_of" = some (some (.ref f23)))
    (pi23 : PySem.W.isFn K (.ref f23) = true)
    (pl23 : K.lookup f23 = some ⟨o123, of23, .func (PySem.W.fnOf "point_of" "Space.point_of" (defArgs s_Space_point_of) (defBody s_Space_point_of) (defScope s_Space_point_of) .none o223 o323 o423 ob23 o523 o623), os23⟩)
    (pc23 : PySem.W.codeIn K o523 "Space.point_of" = true)
    (pk23 : PySem.W.keepIn K (.ref f23) = true)
    {of24 ob24 : Option Addr}
    {os24 : Array (Option Value)}
    {o124 o224 o324 o424 o524 o624 : Value}
    {f24 : Addr}
    (pa24 : PySem.W.findIn K (.ref Cc) "points" = some (some (.ref f24)))
    (pi24 : PySem.W.isFn K (.ref f24) = true)
    (pl24 : K.lookup f24 = some ⟨o124, of24, .func (PySem.W.fnOf "points" "Cloud.points" (defArgs s_Cloud_points) (defBody s_Cloud_points) (defScope s_Cloud_points) .none o224 o324 o424 ob24 o524 o624), os24⟩)
    (pc24 : PySem.W.codeIn K o524 "Cloud.points" = true)
    (pk24 : PySem.W.keepIn K (.ref f24) = true)
    {of25 ob25 : Option Addr}
    {os25 : Array (Option Value)}
    {o125 o225 o325 o425 o525 o625 : Value}
    {f25 : Addr}
    (pa25 : PySem.W.findIn K (.ref Cb) "holds" = some (some (.ref f25)))
    (pi25 : PySem.W.isFn K (.ref f25) = true)
    (pl25 : K.lookup f25 = some ⟨o125, of25, .func (PySem.W.fnOf "holds" "Box.holds" (defArgs s_Box_holds) (defBody s_Box_holds) (defScope s_Box_holds) .none o225 o325 o425 ob25 o525 o625), os25⟩)
    (pc25 : PySem.W.codeIn K o525 "Box.holds" = true)
    (pk25 : PySem.W.keepIn K (.ref f25) = true)
    {of26 ob26 : Option Addr}
    {os26 : Array (Option Value)}
    {o126 o226 o326 o426 o526 o626 : Value}
    {f26 : Addr}
    (pa26 : PySem.W.findIn K (.ref C) "cell" = some (some (.ref f26)))
    (pi26 : PySem.W.isFn K (.ref f26) = true)
    (pl26 : K.lookup f26 = some ⟨o126, of26, .func (PySem.W.fnOf "cell" "Space.cell" (defArgs s_Space_cell) (defBody s_Space_cell) (defScope s_Space_cell) .none o226 o326 o426 ob26 o526 o626), os26⟩)
    (pc26 : PySem.W.codeIn K o526 "Space.cell" = true)
    (pk26 : PySem.W.keepIn K (.ref f26) = true)
    {of27 ob27 : Option Addr}
    {os27 : Array (Option Value)}
    {o127 o227 o327 o427 o527 o627 : Value}
    {f27 : Addr}
    (pa27 : PySem.W.findIn K (.ref Cb) "room" = some (some (.ref f27)))
    (pi27 : PySem.W.isFn K (.ref f27) = true)
    (pl27 : K.lookup f27 = some ⟨o127, of27, .func (PySem.W.fnOf "room" "Box.room" (defArgs s_Box_room) (defBody s_Box_room) (defScope s_Box_room) .none o227 o327 o427 ob27 o527 o627), os27⟩)
    (pc27 : PySem.W.codeIn K o527 "Box.room" = true)
    (pk27 : PySem.W.keepIn K (.ref f27) = true)
    {of28 ob28 : Option Addr}
    {os28 : Array (Option Value)}
    {o128 o228 o328 o428 o528 o628 : Value}
    {f28 : Addr}
    (pa28 : PySem.W.nsIn K mainGlobals "_law_power" = some (some (.ref f28)))
    (pl28 : K.lookup f28 = some ⟨o128, of28, .func (PySem.W.fnOf "_law_power" "_law_power" (defArgs s__law_power) (defBody s__law_power) (defScope s__law_power) .none o228 o328 o428 ob28 o528 o628), os28⟩)
    (pc28 : PySem.W.codeIn K o528 "_law_power" = true)
    (pk28 : PySem.W.keepIn K (.ref f28) = true)
    {of29 ob29 : Option Addr}
    {os29 : Array (Option Value)}
    {o129 o229 o329 o429 o529 o629 : Value}
    {f29 : Addr}
    (pa29 : PySem.W.nsIn K mainGlobals "is_inside" = some (some (.ref f29)))
    (pl29 : K.lookup f29 = some ⟨o129, of29, .func (PySem.W.fnOf "is_inside" "is_inside" (defArgs s_is_inside) (defBody s_is_inside) (defScope s_is_inside) .none o229 o329 o429 ob29 o529 o629), os29⟩)
    (pc29 : PySem.W.codeIn K o529 "is_inside" = true)
    (pk29 : PySem.W.keepIn K (.ref f29) = true)
    {of30 ob30 : Option Addr}
    {os30 : Array (Option Value)}
    {o130 o230 o330 o430 o530 o630 : Value}
    {f30 : Addr}
    (pa30 : PySem.W.nsIn K mainGlobals "_law_meet" = some (some (.ref f30)))
    (pl30 : K.lookup f30 = some ⟨o130, of30, .func (PySem.W.fnOf "_law_meet" "_law_meet" (defArgs s__law_meet) (defBody s__law_meet) (defScope s__law_meet) .none o230 o330 o430 ob30 o530 o630), os30⟩)
    (pc30 : PySem.W.codeIn K o530 "_law_meet" = true)
    (pk30 : PySem.W.keepIn K (.ref f30) = true)
    {of31 ob31 : Option Addr}
    {os31 : Array (Option Value)}
    {o131 o231 o331 o431 o531 o631 : Value}
    {f31 : Addr}
    (pa31 : PySem.W.nsIn K mainGlobals "_law_shared" = some (some (.ref f31)))
    (pl31 : K.lookup f31 = some ⟨o131, of31, .func (PySem.W.fnOf "_law_shared" "_law_shared" (defArgs s__law_shared) (defBody s__law_shared) (defScope s__law_shared) .none o231 o331 o431 ob31 o531 o631), os31⟩)
    (pc31 : PySem.W.codeIn K o531 "_law_shared" = true)
    (pk31 : PySem.W.keepIn K (.ref f31) = true)
    {of32 ob32 : Option Addr}
    {os32 : Array (Option Value)}
    {o132 o232 o332 o432 o532 o632 : Value}
    {f32 : Addr}
    (pa32 : PySem.W.nsIn K mainGlobals "law" = some (some (.ref f32)))
    (pl32 : K.lookup f32 = some ⟨o132, of32, .func (PySem.W.fnOf "law" "law" (defArgs s_law) (defBody s_law) (defScope s_law) .none o232 o332 o432 ob32 o532 o632), os32⟩)
    (pc32 : PySem.W.codeIn K o532 "law" = true)
    (pk32 : PySem.W.keepIn K (.ref f32) = true) :
    ∃ fd : FuncData, (∀ (s : Shared) (v : Value), BindsTo s fd ⟨[v], []⟩ [("script", v)]) ∧ ∀ base : Heap, K.In base → base.Ns mainGlobals mg → FnOk l.prog w K mg base CX0 11 fa fd ["script"] (spLaw K) := by
  have e := hfa.symm.trans (PySem.W.mg_of Xk G pa32)
  cases e
  have F__law_number := fun_mk (st := s__law_number) pl0 pc0 pk0
  have B__law_number := F__law_number.binds (ps := ["script", "index"]) fun _ _ _ _ _ _ us hl => match us, hl with | [_, _], _ => rfl
  have F__law_take := fun_mk (st := s__law_take) pl1 pc1 pk1
  have B__law_take := F__law_take.binds (ps := ["draw", "many"]) fun _ _ _ _ _ _ us hl => match us, hl with | [_, _], _ => rfl
  have F__law_pick := fun_mk (st := s__law_pick) pl2 pc2 pk2
  have B__law_pick := F__law_pick.binds (ps := ["draw", "items"]) fun _ _ _ _ _ _ us hl => match us, hl with | [_, _], _ => rfl
  have F_is_between := fun_mk (st := s_is_between) pl3 pc3 pk3
  have B_is_between := F_is_between.binds (ps := ["thing", "least", "most"]) fun _ _ _ _ _ _ us hl => match us, hl with | [_, _, _], _ => rfl
  have F_shifted := fun_mk (st := s_shifted) pl4 pc4 pk4
  have B_shifted := F_shifted.binds (ps := ["number", "times"]) fun _ _ _ _ _ _ us hl => match us, hl with | [_, _], _ => rfl
  have F_power := fun_mk (st := s_power) pl5 pc5 pk5
  have B_power := F_power.binds (ps := ["times"]) fun _ _ _ _ _ _ us hl => match us, hl with | [_], _ => rfl
  have F_Space___init__ := fun_mk (st := s_Space___init__) pl6 pc6 pk6
  have B_Space___init__ := F_Space___init__.binds (ps := ["self", "dimensions", "bits"]) fun _ _ _ _ _ _ us hl => match us, hl with | [_, _, _], _ => rfl
  have F__law_space := fun_mk (st := s__law_space) pl7 pc7 pk7
  have B__law_space := F__law_space.binds (ps := ["draw", "most"]) fun _ _ _ _ _ _ us hl => match us, hl with | [_, _], _ => rfl
  have F_Space_is_point := fun_mk (st := s_Space_is_point) pl8 pc8 pk8
  have B_Space_is_point := F_Space_is_point.binds (ps := ["self", "thing"]) fun _ _ _ _ _ _ us hl => match us, hl with | [_, _], _ => rfl
  have F_Space_woven := fun_mk (st := s_Space_woven) pl9 pc9 pk9
  have B_Space_woven := F_Space_woven.binds (ps := ["self", "point"]) fun _ _ _ _ _ _ us hl => match us, hl with | [_, _], _ => rfl
  have F__row_of := fun_mk (st := s__row_of) pl10 pc10 pk10
  have B__row_of := F__row_of.binds (ps := ["space", "points"]) fun _ _ _ _ _ _ us hl => match us, hl with | [_, _], _ => rfl
  have F_Cloud___init__ := fun_mk (st := s_Cloud___init__) pl11 pc11 pk11
  have B_Cloud___init__ := F_Cloud___init__.binds (ps := ["self", "space", "points"]) fun _ _ _ _ _ _ us hl => match us, hl with | [_, _, _], _ => rfl
  have F__law_point := fun_mk (st := s__law_point) pl12 pc12 pk12
  have B__law_point := F__law_point.binds (ps := ["draw", "space"]) fun _ _ _ _ _ _ us hl => match us, hl with | [_, _], _ => rfl
  have F__law_points := fun_mk (st := s__law_points) pl13 pc13 pk13
  have B__law_points := F__law_points.binds (ps := ["draw", "space", "most"]) fun _ _ _ _ _ _ us hl => match us, hl with | [_, _, _], _ => rfl
  have F__law_cloud := fun_mk (st := s__law_cloud) pl14 pc14 pk14
  have B__law_cloud := F__law_cloud.binds (ps := ["draw", "space", "most"]) fun _ _ _ _ _ _ us hl => match us, hl with | [_, _, _], _ => rfl
  have F_Box___init__ := fun_mk (st := s_Box___init__) pl15 pc15 pk15
  have B_Box___init__ := F_Box___init__.binds (ps := ["self", "space", "lows", "highs"]) fun _ _ _ _ _ _ us hl => match us, hl with | [_, _, _, _], _ => rfl
  have F__law_box := fun_mk (st := s__law_box) pl16 pc16 pk16
  have B__law_box := F__law_box.binds (ps := ["draw", "space"]) fun _ _ _ _ _ _ us hl => match us, hl with | [_, _], _ => rfl
  have F__side_left := fun_mk (st := s__side_left) pl17 pc17 pk17
  have B__side_left := F__side_left.binds (ps := ["box", "axis", "low", "high"]) fun _ _ _ _ _ _ us hl => match us, hl with | [_, _, _, _], _ => rfl
  have F__halves_met := fun_mk (st := s__halves_met) pl18 pc18 pk18
  have B__halves_met := F__halves_met.binds (ps := ["box", "length", "number", "sides"]) fun _ _ _ _ _ _ us hl => match us, hl with | [_, _, _, _], _ => rfl
  have F_pfxes_of := fun_mk (st := s_pfxes_of) pl19 pc19 pk19
  have B_pfxes_of := F_pfxes_of.binds (ps := ["box"]) fun _ _ _ _ _ _ us hl => match us, hl with | [_], _ => rfl
  have F_Space_size := fun_mk (st := s_Space_size) pl20 pc20 pk20
  have B_Space_size := F_Space_size.binds (ps := ["self", "prefix"]) fun _ _ _ _ _ _ us hl => match us, hl with | [_, _], _ => rfl
  have F_place_in := fun_mk (st := s_place_in) pl21 pc21 pk21
  have B_place_in := F_place_in.binds (ps := ["row", "number"]) fun _ _ _ _ _ _ us hl => match us, hl with | [_, _], _ => rfl
  have F_Cloud_count := fun_mk (st := s_Cloud_count) pl22 pc22 pk22
  have B_Cloud_count := F_Cloud_count.binds (ps := ["self", "prefix"]) fun _ _ _ _ _ _ us hl => match us, hl with | [_, _], _ => rfl
  have F_Space_point_of := fun_mk (st := s_Space_point_of) pl23 pc23 pk23
  have B_Space_point_of := F_Space_point_of.binds (ps := ["self", "number"]) fun _ _ _ _ _ _ us hl => match us, hl with | [_, _], _ => rfl
  have F_Cloud_points := fun_mk (st := s_Cloud_points) pl24 pc24 pk24
  have B_Cloud_points := F_Cloud_points.binds (ps := ["self"]) fun _ _ _ _ _ _ us hl => match us, hl with | [_], _ => rfl
  have F_Box_holds := fun_mk (st := s_Box_holds) pl25 pc25 pk25
  have B_Box_holds := F_Box_holds.binds (ps := ["self", "point"]) fun _ _ _ _ _ _ us hl => match us, hl with | [_, _], _ => rfl
  have F_Space_cell := fun_mk (st := s_Space_cell) pl26 pc26 pk26
  have B_Space_cell := F_Space_cell.binds (ps := ["self", "prefix"]) fun _ _ _ _ _ _ us hl => match us, hl with | [_, _], _ => rfl
  have F_Box_room := fun_mk (st := s_Box_room) pl27 pc27 pk27
  have B_Box_room := F_Box_room.binds (ps := ["self", "prefix"]) fun _ _ _ _ _ _ us hl => match us, hl with | [_, _], _ => rfl
  have F__law_power := fun_mk (st := s__law_power) pl28 pc28 pk28
  have B__law_power := F__law_power.binds (ps := ["times"]) fun _ _ _ _ _ _ us hl => match us, hl with | [_], _ => rfl
  have F_is_inside := fun_mk (st := s_is_inside) pl29 pc29 pk29
  have B_is_inside := F_is_inside.binds (ps := ["prefix", "other"]) fun _ _ _ _ _ _ us hl => match us, hl with | [_, _], _ => rfl
  have F__law_meet := fun_mk (st := s__law_meet) pl30 pc30 pk30
  have B__law_meet := F__law_meet.binds (ps := ["space", "one", "other"]) fun _ _ _ _ _ _ us hl => match us, hl with | [_, _, _], _ => rfl
  have F__law_shared := fun_mk (st := s__law_shared) pl31 pc31 pk31
  have B__law_shared := F__law_shared.binds (ps := ["one", "more"]) fun _ _ _ _ _ _ us hl => match us, hl with | [_, _], _ => rfl
  have F_law := fun_mk (st := s_law) pl32 pc32 pk32
  have T : Tx K mg C Cc Cb Ce fI := ⟨PySem.W.mg_none_of Xk G zn0,
    PySem.W.mg_none_of Xk G zn1,
    PySem.W.mg_none_of Xk G zn2,
    PySem.W.mg_none_of Xk G zn3,
    PySem.W.mg_none_of Xk G zn4,
    PySem.W.mg_none_of Xk G zn5,
    PySem.W.mg_none_of Xk G zn6,
    PySem.W.mg_none_of Xk G zn7,
    PySem.W.mg_none_of Xk G zn8,
    PySem.W.mg_none_of Xk G zn9,
    PySem.W.mg_none_of Xk G zn10,
    PySem.W.mg_none_of Xk G zn11,
    PySem.W.mg_none_of Xk G zn12,
    PySem.W.mg_none_of Xk G zn13,
    PySem.W.mg_none_of Xk G zn14,
    PySem.W.mg_none_of Xk G zn15,
    PySem.W.mg_none_of Xk G zn16,
    ⟨tk0, PySem.W.mg_of Xk G zc0⟩,
    ⟨tk1, PySem.W.mg_of Xk G zc1⟩,
    ⟨⟨kp0, kh0, ko0, ks0⟩, ka0_0, ka0_1, ka0_2, ka0_3⟩,
    PySem.W.mg_of Xk G kg0,
    ⟨⟨kp1, kh1, ko1, ks1⟩, ka1_0, ka1_1⟩,
    PySem.W.mg_of Xk G kg1,
    ⟨⟨kp2, kh2, ko2, ks2⟩, ka2_0, ka2_1, ka2_2⟩,
    PySem.W.mg_of Xk G kg2,
    ⟨PySem.W.mg_of Xk G eg0, ⟨nm0, q0, N0, bs0, _, sn0, sub0, ab0, col0, dd0, m00, m10, m20, m30, m50, ex0, rfl⟩, es0, ea0, en0, ef0, ei0, et0, ek0, eb0, ey0, eh0, exm_own eb0 eu0 ey0 ez0, ⟨_, _, _, _, _, _, _, _, _, _, _, _, _, _, el0, ec0⟩⟩⟩
  refine ⟨PySem.W.fnOf "law" "law" (defArgs s_law) (defBody s_law) (defScope s_law) .none o232 o332 o432 ob32 o532 o632, fun s v => .of_eq rfl, fun base _ _ => ?_⟩
  have C__law_number : Cal l.prog w K mg base 1 "_law_number" (SpD K (fNumber K)) := ⟨_, _, _, ok__law_number F__law_number T, PySem.W.mg_of Xk G pa0, F__law_number.kp, B__law_number⟩
  have C__law_take : Cal l.prog w K mg base 2 "_law_take" (SpD K (fTake K)) := ⟨_, _, _, ok__law_take F__law_take T C__law_number, PySem.W.mg_of Xk G pa1, F__law_take.kp, B__law_take⟩
  have C__law_pick : Cal l.prog w K mg base 3 "_law_pick" (SpD K (fPick K)) := ⟨_, _, _, ok__law_pick F__law_pick T C__law_take, PySem.W.mg_of Xk G pa2, F__law_pick.kp, B__law_pick⟩
  have C_is_between : Cal l.prog w K mg base 1 "is_between" (SpD K (fIsBetween)) := ⟨_, _, _, ok_is_between F_is_between T, PySem.W.mg_of Xk G pa3, F_is_between.kp, B_is_between⟩
  have C_shifted : Cal l.prog w K mg base 1 "shifted" (SpD K (fShifted)) := ⟨_, _, _, ok_shifted F_shifted T, PySem.W.mg_of Xk G pa4, F_shifted.kp, B_shifted⟩
  have C_power : Cal l.prog w K mg base 2 "power" (SpD K (fPower)) := ⟨_, _, _, ok_power F_power T C_shifted, PySem.W.mg_of Xk G pa5, F_power.kp, B_power⟩
  have C_Space___init__ : Mak l.prog w K mg base 3 "Space" C (SpI K C (gSpace)) := ⟨_, _, _, ⟨pm6, pa6, pi6, pq6⟩, ok_Space___init__ F_Space___init__ T C_is_between C_power, T.g_Space, B_Space___init__⟩
  have C__law_space : Cal l.prog w K mg base 5 "_law_space" (SpD K (fSpace K C)) := ⟨_, _, _, ok__law_space F__law_space T C__law_pick C_Space___init__, PySem.W.mg_of Xk G pa7, F__law_space.kp, B__law_space⟩
  have C_Space_is_point : Met l.prog w K mg base 2 C "is_point" (SpD K (fIsPoint C)) := ⟨_, _, _, T.S_Space.cl, ⟨pa8, pi8, pk8⟩, ok_Space_is_point F_Space_is_point T C_is_between, B_Space_is_point⟩
  have C_Space_woven : MetE l.prog w K mg base 3 C "woven" (SpE K Ce "point" (fWovenE C)) := ⟨_, _, _, T.S_Space.cl, ⟨pa9, pi9, pk9⟩, ok_Space_woven F_Space_woven T C_Space_is_point, B_Space_woven⟩
  have C__row_of : CalE l.prog w K mg base 4 "_row_of" (SpE K Ce "point" (fRowOfE C)) := ⟨_, _, _, ok__row_of F__row_of T C_Space_woven, PySem.W.mg_of Xk G pa10, F__row_of.kp, B__row_of⟩
  have C_Cloud___init__ : MakE l.prog w K mg base 5 "Cloud" Cc (SpIE K Cc Ce "point" (gCloudE C)) := ⟨_, _, _, ⟨pm11, pa11, pi11, pq11⟩, ok_Cloud___init__ F_Cloud___init__ T C__row_of, T.g_Cloud, B_Cloud___init__⟩
  have C__law_point : Cal l.prog w K mg base 3 "_law_point" (SpD K (fPoint K C)) := ⟨_, _, _, ok__law_point F__law_point T C__law_take, PySem.W.mg_of Xk G pa12, F__law_point.kp, B__law_point⟩
  have C__law_points : Cal l.prog w K mg base 4 "_law_points" (SpD K (fPts K C)) := ⟨_, _, _, ok__law_points F__law_points T C__law_take C__law_point, PySem.W.mg_of Xk G pa13, F__law_points.kp, B__law_points⟩
  have C__law_cloud : Cal l.prog w K mg base 7 "_law_cloud" (SpD K (fLawCloud K C Cc)) := ⟨_, _, _, ok__law_cloud F__law_cloud T C_Cloud___init__ C__law_points, PySem.W.mg_of Xk G pa14, F__law_cloud.kp, B__law_cloud⟩
  have C_Box___init__ : Mak l.prog w K mg base 5 "Box" Cb (SpI K Cb (gBox C)) := ⟨_, _, _, ⟨pm15, pa15, pi15, pq15⟩, ok_Box___init__ F_Box___init__ T C_Space_is_point, T.g_Box, B_Box___init__⟩
  have C__law_box : Cal l.prog w K mg base 7 "_law_box" (SpD K (fLawBox K Cb C)) := ⟨_, _, _, ok__law_box F__law_box T C__law_point C_Box___init__, PySem.W.mg_of Xk G pa16, F__law_box.kp, B__law_box⟩
  have C__side_left : Cal l.prog w K mg base 1 "_side_left" (SpD K (fSideLeft Cb C)) := ⟨_, _, _, ok__side_left F__side_left T, PySem.W.mg_of Xk G pa17, F__side_left.kp, B__side_left⟩
  have C__halves_met : Cal l.prog w K mg base 2 "_halves_met" (SpD K (fHalvesMet Cb C)) := ⟨_, _, _, ok__halves_met F__halves_met T C__side_left, PySem.W.mg_of Xk G pa18, F__halves_met.kp, B__halves_met⟩
  have C_pfxes_of : Cal l.prog w K mg base 3 "prefixes_of" (SpD K (fPrefixes Cb C)) := ⟨_, _, _, ok_pfxes_of F_pfxes_of T C__side_left C__halves_met, PySem.W.mg_of Xk G pa19, F_pfxes_of.kp, B_pfxes_of⟩
  have C_Space_size : Met l.prog w K mg base 3 C "size" (SpD K (fSize C)) := ⟨_, _, _, T.S_Space.cl, ⟨pa20, pi20, pk20⟩, ok_Space_size F_Space_size T C_power, B_Space_size⟩
  have C_place_in : Cal l.prog w K mg base 1 "place_in" (SpD K (fPlace)) := ⟨_, _, _, ok_place_in F_place_in T, PySem.W.mg_of Xk G pa21, F_place_in.kp, B_place_in⟩
  have C_Cloud_count : Met l.prog w K mg base 4 Cc "count" (SpD K (fCount C Cc)) := ⟨_, _, _, T.S_Cloud.cl, ⟨pa22, pi22, pk22⟩, ok_Cloud_count F_Cloud_count T C_Space_size C_place_in, B_Cloud_count⟩
  have C_Space_point_of : Met l.prog w K mg base 1 C "point_of" (SpD K (fPointOf C)) := ⟨_, _, _, T.S_Space.cl, ⟨pa23, pi23, pk23⟩, ok_Space_point_of F_Space_point_of T, B_Space_point_of⟩
  have C_Cloud_points : Met l.prog w K mg base 2 Cc "points" (SpD K (fPoints C Cc)) := ⟨_, _, _, T.S_Cloud.cl, ⟨pa24, pi24, pk24⟩, ok_Cloud_points F_Cloud_points T C_Space_point_of, B_Cloud_points⟩
  have C_Box_holds : Met l.prog w K mg base 2 Cb "holds" (SpD K (fHolds Cb C)) := ⟨_, _, _, T.S_Box.cl, ⟨pa25, pi25, pk25⟩, ok_Box_holds F_Box_holds T, B_Box_holds⟩
  have C_Space_cell : Met l.prog w K mg base 4 C "cell" (SpD K (fCell C)) := ⟨_, _, _, T.S_Space.cl, ⟨pa26, pi26, pk26⟩, ok_Space_cell F_Space_cell T C_Space_size C_Space_point_of, B_Space_cell⟩
  have C_Box_room : Met l.prog w K mg base 5 Cb "room" (SpD K (fRoom Cb C)) := ⟨_, _, _, T.S_Box.cl, ⟨pa27, pi27, pk27⟩, ok_Box_room F_Box_room T C_Space_cell, B_Box_room⟩
  have C__law_power : Cal l.prog w K mg base 1 "_law_power" (SpD K (fLawPower)) := ⟨_, _, _, ok__law_power F__law_power T, PySem.W.mg_of Xk G pa28, F__law_power.kp, B__law_power⟩
  have C_is_inside : Cal l.prog w K mg base 1 "is_inside" (SpD K (fIsInside)) := ⟨_, _, _, ok_is_inside F_is_inside T, PySem.W.mg_of Xk G pa29, F_is_inside.kp, B_is_inside⟩
  have C__law_meet : Cal l.prog w K mg base 7 "_law_meet" (SpD K (fLawMeet Cb C)) := ⟨_, _, _, ok__law_meet F__law_meet T C_Box___init__, PySem.W.mg_of Xk G pa30, F__law_meet.kp, B__law_meet⟩
  have C__law_shared : Cal l.prog w K mg base 2 "_law_shared" (SpD K (fLawShared)) := ⟨_, _, _, ok__law_shared F__law_shared T C_is_inside, PySem.W.mg_of Xk G pa31, F__law_shared.kp, B__law_shared⟩
  exact ok_law F_law T C__law_space C__law_cloud C__law_box C_pfxes_of C_Cloud_count C_Cloud_points C_Box_holds C_Space_size C_Box_room C__law_take C__law_power C_is_inside C_Space_cell C_Box___init__ C__law_meet C__law_shared
end K60
open PySem PySem.W PyProof.Rows
set_option maxHeartbeats 0 in
theorem PySem.Challenge.cw_finecloud_k60_whole_boxes_holds : PySem.Challenge.rw_finecloud_k60_whole_boxes.Holds := by
  w_on; o_law; k_head; (case hw => w_witness2)
  k_fill
  refine L2.walk_of (l := PySem.Challenge.rw_finecloud_k60_whole_boxes) (n := 63) (k := 11) (x := "script") (CX := fun _ => L2.CX0) (sp := fun w => VL.spLaw _) rfl (by decide) rfl ⟨rfl, by decide, by decide⟩ (fun w h Y => PySem.W.kIn_of Y) ?F (fun _ _ a ns hl _ hS => ⟨a, ns, rfl, hS, hl, fun _ => rfl⟩) (fun _ _ _ _ _ h => h)
  case F =>
    intro w mg fa h KX G hmg
    refine' K60.all_mk KX G hmg ?zn0 ?zn1 ?zn2 ?zn3 ?zn4 ?zn5 ?zn6 ?zn7 ?zn8 ?zn9 ?zn10 ?zn11 ?zn12 ?zn13 ?zn14 ?zn15 ?zn16 ?zc0 ?zc1 ?kg0 ?kp0 ?kh0 ?ko0 ?ks0 ?ka0_0 ?ka0_1 ?ka0_2 ?ka0_3 ?kg1 ?kp1 ?kh1 ?ko1 ?ks1 ?ka1_0 ?ka1_1 ?kg2 ?kp2 ?kh2 ?ko2 ?ks2 ?ka2_0 ?ka2_1 ?ka2_2 ?eg0 ?ex0 ?es0 ?ea0 ?en0 ?ef0 ?ei0 ?et0 ?el0 ?ec0 ?ek0 ?eb0 ?ey0 ?eh0 ?eu0 ?ez0 ?pa0 ?pl0 ?pc0 ?pk0 ?pa1 ?pl1 ?pc1 ?pk1 ?pa2 ?pl2 ?pc2 ?pk2 ?pa3 ?pl3 ?pc3 ?pk3 ?pa4 ?pl4 ?pc4 ?pk4 ?pa5 ?pl5 ?pc5 ?pk5 ?pa6 ?pi6 ?pm6 ?pq6 ?pl6 ?pc6 ?pk6 ?pa7 ?pl7 ?pc7 ?pk7 ?pa8 ?pi8 ?pl8 ?pc8 ?pk8 ?pa9 ?pi9 ?pl9 ?pc9 ?pk9 ?pa10 ?pl10 ?pc10 ?pk10 ?pa11 ?pi11 ?pm11 ?pq11 ?pl11 ?pc11 ?pk11 ?pa12 ?pl12 ?pc12 ?pk12 ?pa13 ?pl13 ?pc13 ?pk13 ?pa14 ?pl14 ?pc14 ?pk14 ?pa15 ?pi15 ?pm15 ?pq15 ?pl15 ?pc15 ?pk15 ?pa16 ?pl16 ?pc16 ?pk16 ?pa17 ?pl17 ?pc17 ?pk17 ?pa18 ?pl18 ?pc18 ?pk18 ?pa19 ?pl19 ?pc19 ?pk19 ?pa20 ?pi20 ?pl20 ?pc20 ?pk20 ?pa21 ?pl21 ?pc21 ?pk21 ?pa22 ?pi22 ?pl22 ?pc22 ?pk22 ?pa23 ?pi23 ?pl23 ?pc23 ?pk23 ?pa24 ?pi24 ?pl24 ?pc24 ?pk24 ?pa25 ?pi25 ?pl25 ?pc25 ?pk25 ?pa26 ?pi26 ?pl26 ?pc26 ?pk26 ?pa27 ?pi27 ?pl27 ?pc27 ?pk27 ?pa28 ?pl28 ?pc28 ?pk28 ?pa29 ?pl29 ?pc29 ?pk29 ?pa30 ?pl30 ?pc30 ?pk30 ?pa31 ?pl31 ?pc31 ?pk31 ?pa32 ?pl32 ?pc32 ?pk32
    (case zn0 => first | k_is | rfl)
    (case zn1 => first | k_is | rfl)
    (case zn2 => first | k_is | rfl)
    (case zn3 => first | k_is | rfl)
    (case zn4 => first | k_is | rfl)
    (case zn5 => first | k_is | rfl)
    (case zn6 => first | k_is | rfl)
    (case zn7 => first | k_is | rfl)
    (case zn8 => first | k_is | rfl)
    (case zn9 => first | k_is | rfl)
    (case zn10 => first | k_is | rfl)
    (case zn11 => first | k_is | rfl)
    (case zn12 => first | k_is | rfl)
    (case zn13 => first | k_is | rfl)
    (case zn14 => first | k_is | rfl)
    (case zn15 => first | k_is | rfl)
    (case zn16 => first | k_is | rfl)
    (case zc0 => first | k_is | rfl)
    (case zc1 => first | k_is | rfl)
    (case kg0 => first | k_is | rfl)
    (case kp0 => first | k_is | rfl)
    (case kh0 => first | k_is | rfl)
    (case ko0 => first | k_is | rfl)
    (case ks0 => first | k_is | rfl)
    (case ka0_0 => first | k_is | rfl)
    (case ka0_1 => first | k_is | rfl)
    (case ka0_2 => first | k_is | rfl)
    (case ka0_3 => first | k_is | rfl)
    (case kg1 => first | k_is | rfl)
    (case kp1 => first | k_is | rfl)
    (case kh1 => first | k_is | rfl)
    (case ko1 => first | k_is | rfl)
    (case ks1 => first | k_is | rfl)
    (case ka1_0 => first | k_is | rfl)
    (case ka1_1 => first | k_is | rfl)
    (case kg2 => first | k_is | rfl)
    (case kp2 => first | k_is | rfl)
    (case kh2 => first | k_is | rfl)
    (case ko2 => first | k_is | rfl)
    (case ks2 => first | k_is | rfl)
    (case ka2_0 => first | k_is | rfl)
    (case ka2_1 => first | k_is | rfl)
    (case ka2_2 => first | k_is | rfl)
    (case eg0 => first | k_is | rfl)
    (case ex0 => first | k_is | rfl)
    (case es0 => first | k_is | rfl)
    (case ea0 => first | k_is | rfl)
    (case en0 => first | k_is | rfl)
    (case ef0 => first | k_is | rfl)
    (case ei0 => first | k_is | rfl)
    (case et0 => first | k_is | rfl)
    (case el0 => first | k_is | rfl)
    (case ec0 => first | k_is | rfl)
    (case ek0 => first | k_is | rfl)
    (case eb0 => first | k_is | rfl)
    (case ey0 => first | k_is | rfl)
    (case eh0 => first | k_is | rfl)
    (case eu0 => first | k_is | rfl)
    (case ez0 => first | k_is | rfl)
    (case pa0 => first | k_is | rfl)
    (case pl0 => first | k_is | rfl)
    (case pc0 => first | k_is | rfl)
    (case pk0 => first | k_is | rfl)
    (case pa1 => first | k_is | rfl)
    (case pl1 => first | k_is | rfl)
    (case pc1 => first | k_is | rfl)
    (case pk1 => first | k_is | rfl)
    (case pa2 => first | k_is | rfl)
    (case pl2 => first | k_is | rfl)
    (case pc2 => first | k_is | rfl)
    (case pk2 => first | k_is | rfl)
    (case pa3 => first | k_is | rfl)
    (case pl3 => first | k_is | rfl)
    (case pc3 => first | k_is | rfl)
    (case pk3 => first | k_is | rfl)
    (case pa4 => first | k_is | rfl)
    (case pl4 => first | k_is | rfl)
    (case pc4 => first | k_is | rfl)
    (case pk4 => first | k_is | rfl)
    (case pa5 => first | k_is | rfl)
    (case pl5 => first | k_is | rfl)
    (case pc5 => first | k_is | rfl)
    (case pk5 => first | k_is | rfl)
    (case pa6 => first | k_is | rfl)
    (case pi6 => first | k_is | rfl)
    (case pm6 => first | k_is | rfl)
    (case pq6 => first | k_is | rfl)
    (case pl6 => first | k_is | rfl)
    (case pc6 => first | k_is | rfl)
    (case pk6 => first | k_is | rfl)
    (case pa7 => first | k_is | rfl)
    (case pl7 => first | k_is | rfl)
    (case pc7 => first | k_is | rfl)
    (case pk7 => first | k_is | rfl)
    (case pa8 => first | k_is | rfl)
    (case pi8 => first | k_is | rfl)
    (case pl8 => first | k_is | rfl)
    (case pc8 => first | k_is | rfl)
    (case pk8 => first | k_is | rfl)
    (case pa9 => first | k_is | rfl)
    (case pi9 => first | k_is | rfl)
    (case pl9 => first | k_is | rfl)
    (case pc9 => first | k_is | rfl)
    (case pk9 => first | k_is | rfl)
    (case pa10 => first | k_is | rfl)
    (case pl10 => first | k_is | rfl)
    (case pc10 => first | k_is | rfl)
    (case pk10 => first | k_is | rfl)
    (case pa11 => first | k_is | rfl)
    (case pi11 => first | k_is | rfl)
    (case pm11 => first | k_is | rfl)
    (case pq11 => first | k_is | rfl)
    (case pl11 => first | k_is | rfl)
    (case pc11 => first | k_is | rfl)
    (case pk11 => first | k_is | rfl)
    (case pa12 => first | k_is | rfl)
    (case pl12 => first | k_is | rfl)
    (case pc12 => first | k_is | rfl)
    (case pk12 => first | k_is | rfl)
    (case pa13 => first | k_is | rfl)
    (case pl13 => first | k_is | rfl)
    (case pc13 => first | k_is | rfl)
    (case pk13 => first | k_is | rfl)
    (case pa14 => first | k_is | rfl)
    (case pl14 => first | k_is | rfl)
    (case pc14 => first | k_is | rfl)
    (case pk14 => first | k_is | rfl)
    (case pa15 => first | k_is | rfl)
    (case pi15 => first | k_is | rfl)
    (case pm15 => first | k_is | rfl)
    (case pq15 => first | k_is | rfl)
    (case pl15 => first | k_is | rfl)
    (case pc15 => first | k_is | rfl)
    (case pk15 => first | k_is | rfl)
    (case pa16 => first | k_is | rfl)
    (case pl16 => first | k_is | rfl)
    (case pc16 => first | k_is | rfl)
    (case pk16 => first | k_is | rfl)
    (case pa17 => first | k_is | rfl)
    (case pl17 => first | k_is | rfl)
    (case pc17 => first | k_is | rfl)
    (case pk17 => first | k_is | rfl)
    (case pa18 => first | k_is | rfl)
    (case pl18 => first | k_is | rfl)
    (case pc18 => first | k_is | rfl)
    (case pk18 => first | k_is | rfl)
    (case pa19 => first | k_is | rfl)
    (case pl19 => first | k_is | rfl)
    (case pc19 => first | k_is | rfl)
    (case pk19 => first | k_is | rfl)
    (case pa20 => first | k_is | rfl)
    (case pi20 => first | k_is | rfl)
    (case pl20 => first | k_is | rfl)
    (case pc20 => first | k_is | rfl)
    (case pk20 => first | k_is | rfl)
    (case pa21 => first | k_is | rfl)
    (case pl21 => first | k_is | rfl)
    (case pc21 => first | k_is | rfl)
    (case pk21 => first | k_is | rfl)
    (case pa22 => first | k_is | rfl)
    (case pi22 => first | k_is | rfl)
    (case pl22 => first | k_is | rfl)
    (case pc22 => first | k_is | rfl)
    (case pk22 => first | k_is | rfl)
    (case pa23 => first | k_is | rfl)
    (case pi23 => first | k_is | rfl)
    (case pl23 => first | k_is | rfl)
    (case pc23 => first | k_is | rfl)
    (case pk23 => first | k_is | rfl)
    (case pa24 => first | k_is | rfl)
    (case pi24 => first | k_is | rfl)
    (case pl24 => first | k_is | rfl)
    (case pc24 => first | k_is | rfl)
    (case pk24 => first | k_is | rfl)
    (case pa25 => first | k_is | rfl)
    (case pi25 => first | k_is | rfl)
    (case pl25 => first | k_is | rfl)
    (case pc25 => first | k_is | rfl)
    (case pk25 => first | k_is | rfl)
    (case pa26 => first | k_is | rfl)
    (case pi26 => first | k_is | rfl)
    (case pl26 => first | k_is | rfl)
    (case pc26 => first | k_is | rfl)
    (case pk26 => first | k_is | rfl)
    (case pa27 => first | k_is | rfl)
    (case pi27 => first | k_is | rfl)
    (case pl27 => first | k_is | rfl)
    (case pc27 => first | k_is | rfl)
    (case pk27 => first | k_is | rfl)
    (case pa28 => first | k_is | rfl)
    (case pl28 => first | k_is | rfl)
    (case pc28 => first | k_is | rfl)
    (case pk28 => first | k_is | rfl)
    (case pa29 => first | k_is | rfl)
    (case pl29 => first | k_is | rfl)
    (case pc29 => first | k_is | rfl)
    (case pk29 => first | k_is | rfl)
    (case pa30 => first | k_is | rfl)
    (case pl30 => first | k_is | rfl)
    (case pc30 => first | k_is | rfl)
    (case pk30 => first | k_is | rfl)
    (case pa31 => first | k_is | rfl)
    (case pl31 => first | k_is | rfl)
    (case pc31 => first | k_is | rfl)
    (case pk31 => first | k_is | rfl)
    (case pa32 => first | k_is | rfl)
    (case pl32 => first | k_is | rfl)
    (case pc32 => first | k_is | rfl)
    (case pk32 => first | k_is | rfl)
