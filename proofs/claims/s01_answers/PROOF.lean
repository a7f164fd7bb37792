import PyProof.Rows.All
import Wide.All
import OpenK.AllK
import Wide.FinOn
import Open.SpecLaws
import KE.OsGo
import KE.IntTextLaws
import HandS.ForSpec
import HandS.ForMost
import HandS.TupAny
import HandS.More
import HandS.Flow
import HandS.Codes
import HandS.Zip
import PyWideLaws
import PastSpec
import PyWrpast
import PySem.Challenge.RW_pastwatch_s01_answers
set_option Elab.async false
set_option linter.all false
set_option maxRecDepth 100000
namespace Pm
open Pw

/-! ## The reader's mirror -/
inductive Op where
  | yes | no | name | not_ | once | always | before | least | since | and_ | or_ | implies | paren
deriving DecidableEq

inductive Ex where
  | watch | colon | operand | within | needed | span | joint
deriving DecidableEq

structure PM where
  op : Op
  ops : List Int
  name : Bytes := []
  needed : Nat := 0
  span : Option Nat := none
  slot : Option Nat := none

structure R where
  exp : Ex
  known : List Bytes
  watches : List Int
  parts : List PM
  pend : List PM
  depth : Int
  total : Nat
  beg : List Mem

def R.new : R := ⟨.watch, [], [], [], [], 0, 0, []⟩

def strength : Op → Nat
  | .implies => 1
  | .or_ => 2
  | .and_ => 3
  | .since => 4
  | .not_ => 5
  | .once => 5
  | .always => 5
  | .before => 5
  | .least => 5
  | _ => 0

def opened : Op → Bool
  | .paren => true
  | .not_ => true
  | .once => true
  | .always => true
  | .before => true
  | .least => true
  | .implies => true
  | _ => false

def remembers : Op → Bool
  | .once => true
  | .always => true
  | .before => true
  | .since => true
  | .least => true
  | _ => false

def firstMem : Op → Mem
  | .before => .was false
  | .least => .times []
  | _ => .at_ none

def num (w : Bytes) : Nat := w.foldl (fun (m : Nat) (x : UInt8) => 10 * m + (x.toNat - 48)) 0
def bounded (w : Bytes) (lo hi : Nat) : Bool := decide (w.length ≤ 10) && (decide (lo ≤ num w) && decide (num w ≤ hi))
def headSmall (w : Bytes) : Bool := match w with
  | c :: _ => isSmall c
  | [] => false
def headDigit (w : Bytes) : Bool := match w with
  | c :: _ => isDigit c
  | [] => false
def isName (w : Bytes) : Bool := headSmall w && !words.contains w

def openOp (w : Bytes) : Option Op :=
  if w = ascii "(" then some .paren else if w = ascii "not" then some .not_ else if w = ascii "once" then some .once
  else if w = ascii "always" then some .always else if w = ascii "before" then some .before
  else if w = ascii "least" then some .least else none
def joinOp (w : Bytes) : Option Op :=
  if w = ascii "since" then some .since else if w = ascii "and" then some .and_ else if w = ascii "or" then some .or_
  else if w = ascii "implies" then some .implies else none
def behind : Op → Ex
  | .least => .needed
  | .once => .within
  | .always => .within
  | _ => .operand

/-- end_stronger over the pending (the top first), the parts, the depth -/
def settle (k : Nat) : List PM → List PM → Int → List PM × List PM × Int
  | [], ps, d => ([], ps, d)
  | p :: st, ps, d => if k < strength p.op then
      settle k st (ps ++ [{ p with ops := p.ops ++ [(ps.length : Int) - 1] }]) (if opened p.op = true then d - 1 else d)
    else (p :: st, ps, d)
def R.settle (s : R) (k : Nat) : R :=
  { s with pend := (Pm.settle k s.pend s.parts s.depth).1, parts := (Pm.settle k s.pend s.parts s.depth).2.1, depth := (Pm.settle k s.pend s.parts s.depth).2.2 }
def R.top (s : R) : Option Op := s.pend.head?.map PM.op

def R.begin_ (s : R) (p : PM) : Nat × R :=
  let s1 : R := { s with
    pend := (if remembers p.op = true then { p with slot := some s.beg.length } else p) :: s.pend
    beg := if remembers p.op = true then s.beg ++ [firstMem p.op] else s.beg
    depth := if opened p.op = true then s.depth + 1 else s.depth }
  (if 40 < s1.depth then 5 else 0, s1)
def R.put (s : R) (p : PM) : Nat × R := (0, { s with parts := s.parts ++ [p], exp := .joint })
def onTop (f : PM → PM) : List PM → List PM
  | [] => []
  | p :: r => f p :: r

def R.takeWatch (s : R) (w : Bytes) : Nat × R :=
  if isName w = false then (3, s) else if s.known.contains w = true ∨ s.watches.length = 16 then (4, s)
  else (0, { s with known := s.known ++ [w], exp := .colon })
def R.takeColon (s : R) (w : Bytes) : Nat × R :=
  if w ≠ ascii ":" then (3, s) else (0, { s with exp := .operand })
def R.takeNeeded (s : R) (w : Bytes) : Nat × R :=
  if headDigit w = false then (3, s) else if bounded w 1 64 = false then (4, s)
  else (0, { s with pend := onTop (fun p => { p with needed := num w }) s.pend, total := s.total + num w, exp := .within })
def R.takeSpan (s : R) (w : Bytes) : Nat × R :=
  if headDigit w = false then (3, s) else if bounded w 0 4294967295 = false then (4, s)
  else (0, { s with pend := onTop (fun p => { p with span := some (num w) }) s.pend, exp := .operand })
def R.takeOperand (s : R) (w : Bytes) : Nat × R :=
  if w = ascii "within" ∧ s.exp = .within then (0, { s with exp := .span })
  else match openOp w with
    | some op => R.begin_ { s with exp := behind op } { op := op, ops := [] }
    | none => if w = ascii "yes" then s.put { op := .yes, ops := [] } else if w = ascii "no" then s.put { op := .no, ops := [] }
      else if isName w = true then s.put { op := .name, ops := [], name := w } else (3, s)
def R.endBracket (s : R) : Nat × R :=
  if s.top ≠ some .paren then (3, s) else (0, { s with pend := s.pend.tail, depth := s.depth - 1 })
def R.endWatch (s : R) : Nat × R :=
  if s.top = some .paren then (3, s) else (0, { s with watches := s.watches ++ [(s.parts.length : Int) - 1], exp := .watch })
def R.joinOps (s : R) (op : Op) : Nat × R :=
  if op = .since ∧ s.top = some .since then (3, s)
  else if s.top = some op ∧ op ≠ .implies then
    (0, { s with exp := if op = .since then .within else .operand, pend := onTop (fun p => { p with ops := p.ops ++ [(s.parts.length : Int) - 1] }) s.pend })
  else R.begin_ { s with exp := if op = .since then .within else .operand } { op := op, ops := [(s.parts.length : Int) - 1] }
def R.takeJoint (s : R) (w : Bytes) : Nat × R :=
  if w = ascii ")" then (s.settle 0).endBracket else if w = ascii ";" then (s.settle 0).endWatch
  else match joinOp w with
    | none => (3, s)
    | some op => (s.settle (strength op)).joinOps op
def R.take (s : R) (w : Bytes) : Nat × R := match s.exp with
  | .watch => s.takeWatch w
  | .colon => s.takeColon w
  | .needed => s.takeNeeded w
  | .span => s.takeSpan w
  | .joint => s.takeJoint w
  | .operand => s.takeOperand w
  | .within => s.takeOperand w

def R.finish (s : R) (p : Nat) : Except Fault R :=
  if s.exp = .watch ∧ s.watches ≠ [] then
    if 256 < s.parts.length ∨ 1024 < s.total then .error ⟨6, 0⟩ else .ok s
  else .error ⟨1, p⟩

def run (s : R) : List Tok → Except Fault R
  | [] => .error ⟨1, 0⟩
  | t :: r => if t.kind = 6 then .error t.fault else if t.kind = 5 then s.finish t.from_
    else if t.glued = true then .error ⟨3, t.from_⟩
    else if (s.take t.text).1 = 0 then run (s.take t.text).2 r else .error ⟨(s.take t.text).1, t.from_⟩

/-! ## The rows of parts that rules become -/
mutual
def comp : F → Nat → Nat → List PM
  | .yes, _, _ => [{ op := .yes, ops := [] }]
  | .no, _, _ => [{ op := .no, ops := [] }]
  | .name n, _, _ => [{ op := .name, ops := [], name := n }]
  | .not_ f, b, m => comp f b m ++ [{ op := .not_, ops := [((b + f.parts : Nat) : Int) - 1] }]
  | .once w f, b, m => comp f b (m + 1) ++ [{ op := .once, ops := [((b + f.parts : Nat) : Int) - 1], span := w, slot := some m }]
  | .always w f, b, m => comp f b (m + 1) ++ [{ op := .always, ops := [((b + f.parts : Nat) : Int) - 1], span := w, slot := some m }]
  | .before f, b, m => comp f b (m + 1) ++ [{ op := .before, ops := [((b + f.parts : Nat) : Int) - 1], slot := some m }]
  | .least k w f, b, m => comp f b (m + 1) ++ [{ op := .least, ops := [((b + f.parts : Nat) : Int) - 1], needed := k, span := w, slot := some m }]
  | .since w x y, b, m => comp x b m ++ (comp y (b + x.parts) (m + x.fresh.length + 1) ++
      [{ op := .since, ops := [((b + x.parts : Nat) : Int) - 1, ((b + x.parts + y.parts : Nat) : Int) - 1], span := w, slot := some (m + x.fresh.length) }])
  | .and_ l, b, m => compL l b m ++ [{ op := .and_, ops := idxL l b }]
  | .or_ l, b, m => compL l b m ++ [{ op := .or_, ops := idxL l b }]
  | .implies x y, b, m => comp x b m ++ (comp y (b + x.parts) (m + x.fresh.length) ++
      [{ op := .implies, ops := [((b + x.parts : Nat) : Int) - 1, ((b + x.parts + y.parts : Nat) : Int) - 1] }])
def compL : Fs → Nat → Nat → List PM
  | .nil, _, _ => []
  | .cons f r, b, m => comp f b m ++ compL r (b + f.parts) (m + f.fresh.length)
def idxL : Fs → Nat → List Int
  | .nil, _ => []
  | .cons f r, b => (((b + f.parts : Nat) : Int) - 1) :: idxL r (b + f.parts)
end

mutual
theorem comp_length : ∀ (f : F) (b m : Nat), (comp f b m).length = f.parts
  | .yes, _, _ => rfl
  | .no, _, _ => rfl
  | .name n, _, _ => rfl
  | .not_ f, b, m => by simp [comp, F.parts, comp_length f]
  | .once w f, b, m => by simp [comp, F.parts, comp_length f]
  | .always w f, b, m => by simp [comp, F.parts, comp_length f]
  | .before f, b, m => by simp [comp, F.parts, comp_length f]
  | .least k w f, b, m => by simp [comp, F.parts, comp_length f]
  | .since w x y, b, m => by simp [comp, F.parts, comp_length x, comp_length y]; omega
  | .and_ l, b, m => by simp [comp, F.parts, compL_length l]
  | .or_ l, b, m => by simp [comp, F.parts, compL_length l]
  | .implies x y, b, m => by simp [comp, F.parts, comp_length x, comp_length y]; omega
theorem compL_length : ∀ (l : Fs) (b m : Nat), (compL l b m).length = l.parts
  | .nil, _, _ => rfl
  | .cons f r, b, m => by simp [compL, Fs.parts, comp_length f, compL_length r]
end
theorem parts_pos (f : F) : 0 < f.parts := by cases f <;> simp [F.parts]

def R.push (s : R) (f : F) : R := { s with
  exp := .joint, parts := s.parts ++ comp f s.parts.length s.beg.length, beg := s.beg ++ f.fresh, total := s.total + f.ks }

/-! ## Tokens that are well made -/
structure Good (t : Tok) : Prop where
  word : t.kind = 0 → headSmall t.text = true
  fig : t.kind = 1 → headDigit t.text = true ∧ t.num = num t.text ∧ (∀ x ∈ t.text, isDigit x = true) ∧ (t.text.head? = some 48 → t.text.length = 1)
  sgn : t.kind = 2 → ∃ c, t.text = [c] ∧ (ascii "():;").contains c = true
  fin : t.kind = 5 → t.fault = ⟨1, t.from_⟩
  nm : t.kind = 0 → ∀ c ∈ t.text, inName c = true
  any : t.kind = 0 ∨ t.kind = 1 ∨ t.kind = 2 ∨ t.kind = 5 ∨ t.kind = 6
def Ends : List Tok → Prop
  | [] => False
  | t :: r => if r = [] then t.kind = 5 ∨ t.kind = 6 else Ends r
def AllGood (l : List Tok) : Prop := (∀ t ∈ l, Good t) ∧ Ends l
end Pm

namespace Pm
open Pw

/-! ## Agreement of a parse with a run -/
def Ag {α : Type} (X : Except Fault (α × List Tok)) (Y : Except Fault R) (K : α → List Tok → Prop) : Prop :=
  match X with
  | .error e => Y = .error e
  | .ok (a, r) => K a r

theorem Ag.bind {α β : Type} {X : Except Fault (α × List Tok)} {Y : Except Fault R} {K : α → List Tok → Prop} {K' : β → List Tok → Prop}
    {g : α × List Tok → Except Fault (β × List Tok)} (h : Ag X Y K) (hg : ∀ a r, K a r → Ag (g (a, r)) Y K') : Ag (X >>= g) Y K' := by
  match X, h with
  | .error e, h => exact h
  | .ok (a, r), h => exact hg a r h
theorem Ag.mono {α : Type} {X : Except Fault (α × List Tok)} {Y : Except Fault R} {K K' : α → List Tok → Prop}
    (h : Ag X Y K) (hg : ∀ a r, K a r → K' a r) : Ag X Y K' := by
  match X, h with
  | .error e, h => exact h
  | .ok (a, r), h => exact hg a r h
theorem Ag.eq {α : Type} {X : Except Fault (α × List Tok)} {Y Y' : Except Fault R} {K : α → List Tok → Prop}
    (h : Ag X Y K) (e : Y' = Y) : Ag X Y' K := e ▸ h

/-- what a token does that is no fault, no end, and not glued -/
def stepT (s : R) (t : Tok) (r : List Tok) : Except Fault R :=
  if (s.take t.text).1 = 0 then run (s.take t.text).2 r else .error ⟨(s.take t.text).1, t.from_⟩

theorem run_step {s : R} {t : Tok} {r : List Tok} (h6 : ¬ t.kind = 6) (h5 : ¬ t.kind = 5) (hg : ¬ t.glued = true) : run s (t :: r) = stepT s t r := by
  rw [run, if_neg h6, if_neg h5, if_neg hg, stepT]

structure Due (s : R) (l : List Tok) (t : Tok) (r : List Tok) : Prop where
  eq : l = t :: r
  run : Pm.run s l = stepT s t r
  k5 : t.kind ≠ 5
  k6 : t.kind ≠ 6
  good : Good t
  rest : AllGood r

theorem due_ag {s : R} {l : List Tok} (g : AllGood l) (hw : s.exp = .watch → s.watches ≠ [] → ended l = false) : Ag (due l) (run s l) (fun t r => Due s l t r) := by
  cases l with
  | nil => rfl
  | cons t r =>
    have gt := g.1 t (List.mem_cons_self ..)
    simp only [due]
    by_cases h6 : t.kind = 6
    · rw [if_pos (Or.inl h6)]
      show run s (t :: r) = _
      simp [run, h6]
    · by_cases h5' : t.kind = 5
      · rw [if_pos (Or.inr h5')]
        show run s (t :: r) = _
        have hn : ¬ (s.exp = .watch ∧ s.watches ≠ []) := fun ⟨a, b⟩ => by
          have := hw a b
          simp [ended, h5'] at this
        rw [run, if_neg h6, if_pos h5', R.finish, if_neg hn, gt.fin h5']
      · rw [if_neg (by simp [h6, h5'])]
        by_cases hg : t.glued = true
        · rw [if_pos hg]
          show run s (t :: r) = _
          simp [run, h6, h5', hg]
        · rw [if_neg hg]
          have gr : AllGood r := by
            refine ⟨fun x hx => g.1 x (List.mem_cons_of_mem _ hx), ?_⟩
            have := g.2
            unfold Ends at this
            split at this
            · rcases this with a | a
              · exact absurd a h5'
              · exact absurd a h6
            · exact this
          exact ⟨rfl, by simp [run, h6, h5', hg, stepT], h5', h6, gt, gr⟩

/-! ## Texts of tokens -/
theorem isWord_iff {w : String} {t : Tok} : isWord w t = true ↔ t.kind = 0 ∧ t.text = ascii w := by
  simp [isWord]
theorem isSign_iff {w : String} {t : Tok} : isSign w t = true ↔ t.kind = 2 ∧ t.text = ascii w := by
  simp [isSign]
theorem text_word {t : Tok} (g : Good t) (k5 : t.kind ≠ 5) (k6 : t.kind ≠ 6) (h : headSmall t.text = true) : t.kind = 0 := by
  rcases g.any with a | a | a | a | a
  · exact a
  · have b := (g.fig a).1
    unfold headSmall at h
    unfold headDigit at b
    split at h
    · rename_i c _ e
      rw [e] at b
      simp [isSmall, isDigit] at h b
      omega
    · cases h
  · obtain ⟨c, e, b⟩ := g.sgn a
    rw [e] at h
    simp only [headSmall] at h
    exfalso
    have z : ∀ c : UInt8, (ascii "():;").contains c = true → isSmall c = false := by
      intro c hc
      have : ascii "():;" = [40, 41, 58, 59] := rfl
      rw [this] at hc
      simp at hc
      rcases hc with rfl | rfl | rfl | rfl <;> rfl
    rw [z c b] at h
    cases h
  · exact absurd a k5
  · exact absurd a k6
theorem text_sign {t : Tok} (g : Good t) (k5 : t.kind ≠ 5) (k6 : t.kind ≠ 6) (h1 : headSmall t.text = false) (h2 : headDigit t.text = false) : t.kind = 2 := by
  rcases g.any with a | a | a | a | a
  · rw [g.word a] at h1
    cases h1
  · rw [(g.fig a).1] at h2
    cases h2
  · exact a
  · exact absurd a k5
  · exact absurd a k6
theorem text_fig {t : Tok} (g : Good t) (k5 : t.kind ≠ 5) (k6 : t.kind ≠ 6) (h : headDigit t.text = true) : t.kind = 1 := by
  rcases g.any with a | a | a | a | a
  · have b := g.word a
    unfold headSmall at b
    unfold headDigit at h
    split at h
    · rename_i c _ e
      rw [e] at b
      simp [isSmall, isDigit] at h b
      omega
    · cases h
  · exact a
  · obtain ⟨c, e, b⟩ := g.sgn a
    rw [e] at h
    simp only [headDigit] at h
    exfalso
    have z : ∀ c : UInt8, (ascii "():;").contains c = true → isDigit c = false := by
      intro c hc
      have : ascii "():;" = [40, 41, 58, 59] := rfl
      rw [this] at hc
      simp at hc
      rcases hc with rfl | rfl | rfl | rfl <;> rfl
    rw [z c b] at h
    cases h
  · exact absurd a k5
  · exact absurd a k6
/-- a token whose text is a word is that word -/
theorem word_of {t : Tok} {w : String} (g : Good t) (k5 : t.kind ≠ 5) (k6 : t.kind ≠ 6) (hw : headSmall (ascii w) = true) (h : t.text = ascii w) : isWord w t = true :=
  isWord_iff.mpr ⟨text_word g k5 k6 (h ▸ hw), h⟩
theorem sign_of {t : Tok} {w : String} (g : Good t) (k5 : t.kind ≠ 5) (k6 : t.kind ≠ 6) (h1 : headSmall (ascii w) = false) (h2 : headDigit (ascii w) = false) (h : t.text = ascii w) : isSign w t = true :=
  isSign_iff.mpr ⟨text_sign g k5 k6 (h ▸ h1) (h ▸ h2), h⟩

/-! ## Two states behind an operand that go on alike -/
theorem nextIs_cons {w : String} {t : Tok} {r : List Tok} : nextIs w (t :: r) = isWord w t := rfl
theorem run_congr {s1 s2 : R} (K : Nat) {r : List Tok} (g : AllGood r) (e1 : s1.exp = .joint) (e2 : s2.exp = .joint)
    (hk : ∀ k, k ≤ K → s1.settle k = s2.settle k)
    (h4 : K < 4 → nextIs "since" r = false) (h3 : K < 3 → nextIs "and" r = false) (h2 : K < 2 → nextIs "or" r = false) (h1 : K < 1 → nextIs "implies" r = false) :
    run s1 r = run s2 r := by
  cases r with
  | nil => rfl
  | cons t r =>
    have gt := g.1 t (List.mem_cons_self ..)
    by_cases h6 : t.kind = 6
    · simp [run, h6]
    · by_cases h5 : t.kind = 5
      · simp [run, h5, R.finish, e1, e2]
      · by_cases hg : t.glued = true
        · simp [run, h6, h5, hg]
        · have key : (s1.take t.text).1 = (s2.take t.text).1 ∧ ((s1.take t.text).1 = 0 → s1.take t.text = s2.take t.text) := by
            simp only [R.take, e1, e2, R.takeJoint]
            split
            · rw [hk 0 (Nat.zero_le _)]
              exact ⟨rfl, fun _ => rfl⟩
            · split
              · rw [hk 0 (Nat.zero_le _)]
                exact ⟨rfl, fun _ => rfl⟩
              · cases hj : joinOp t.text with
                | none => exact ⟨rfl, fun z => by cases z⟩
                | some op =>
                  have hle : strength op ≤ K := by
                    unfold joinOp at hj
                    split at hj
                    · rename_i e
                      have w := word_of gt h5 h6 rfl e
                      cases hj
                      apply Classical.byContradiction
                      intro c
                      have := h4 (by simp [strength] at c; omega)
                      rw [nextIs_cons, w] at this
                      cases this
                    · split at hj
                      · rename_i e
                        have w := word_of gt h5 h6 rfl e
                        cases hj
                        apply Classical.byContradiction
                        intro c
                        have := h3 (by simp [strength] at c; omega)
                        rw [nextIs_cons, w] at this
                        cases this
                      · split at hj
                        · rename_i e
                          have w := word_of gt h5 h6 rfl e
                          cases hj
                          apply Classical.byContradiction
                          intro c
                          have := h2 (by simp [strength] at c; omega)
                          rw [nextIs_cons, w] at this
                          cases this
                        · split at hj
                          · rename_i e
                            have w := word_of gt h5 h6 rfl e
                            cases hj
                            apply Classical.byContradiction
                            intro c
                            have := h1 (by simp [strength] at c; omega)
                            rw [nextIs_cons, w] at this
                            cases this
                          · cases hj
                  simp only [hk _ hle]
                  exact ⟨trivial, fun _ => trivial⟩
          rw [run_step h6 h5 hg, run_step h6 h5 hg, stepT, stepT]
          by_cases z : (s1.take t.text).1 = 0
          · rw [if_pos z, if_pos (key.1 ▸ z), key.2 z]
          · rw [if_neg z, if_neg (key.1 ▸ z), key.1]
end Pm

namespace Pm
open Pw

/-! ## Numbers -/
theorem fold_ge : ∀ (w : Bytes) (m : Nat), m * 10 ^ w.length ≤ w.foldl (fun (m : Nat) (x : UInt8) => 10 * m + (x.toNat - 48)) m
  | [], m => by simp
  | c :: r, m => by
    have ih := fold_ge r (10 * m + (c.toNat - 48))
    rw [List.foldl_cons, List.length_cons, Nat.pow_succ]
    refine Nat.le_trans ?_ ih
    have : m * (10 ^ r.length * 10) = (10 * m) * 10 ^ r.length := by
      rw [Nat.mul_comm (10 ^ r.length) 10, ← Nat.mul_assoc, Nat.mul_comm m 10]
    rw [this]
    exact Nat.mul_le_mul_right _ (by omega)
theorem short_of {w : Bytes} (h0 : w.head? = some 48 → w.length = 1) (hd : ∀ x ∈ w, isDigit x = true) (h : num w < 10 ^ 10) : w.length ≤ 10 := by
  cases w with
  | nil => simp
  | cons c r =>
    apply Classical.byContradiction
    intro hl
    have hc : isDigit c = true := hd c (List.mem_cons_self ..)
    have h48 : c ≠ 48 := fun e => by
      have := h0 (by simp [e])
      omega
    have hn : 49 ≤ c.toNat := by
      simp [isDigit] at hc
      have : c.toNat ≠ 48 := fun e => h48 (UInt8.toNat_inj.mp (by rw [e]; rfl))
      omega
    have hf : num (c :: r) = r.foldl (fun (m : Nat) (x : UInt8) => 10 * m + (x.toNat - 48)) (10 * 0 + (c.toNat - 48)) := rfl
    have g := fold_ge r (10 * 0 + (c.toNat - 48))
    have : 10 ^ 10 ≤ 10 ^ r.length := Nat.pow_le_pow_right (by decide) (by simp at hl; omega)
    have : 1 * 10 ^ r.length ≤ (10 * 0 + (c.toNat - 48)) * 10 ^ r.length := Nat.mul_le_mul_right _ (by omega)
    omega
theorem bounded_iff {t : Tok} {lo hi : Nat} (g : Good t) (k : t.kind = 1) (hh : hi < 10 ^ 10) : bounded t.text lo hi = true ↔ ¬ (t.num < lo ∨ hi < t.num) := by
  obtain ⟨_, e, d, z⟩ := g.fig k
  rw [e]
  unfold bounded
  simp only [Bool.and_eq_true, decide_eq_true_eq]
  constructor
  · rintro ⟨_, a, b⟩
    omega
  · intro h
    exact ⟨short_of z d (by omega), by omega, by omega⟩

/-! ## Popping -/
def R.pop1 (u : R) : R := match u.pend with
  | [] => u
  | p :: st => { u with pend := st, parts := u.parts ++ [{ p with ops := p.ops ++ [(u.parts.length : Int) - 1] }], depth := if opened p.op = true then u.depth - 1 else u.depth }
theorem settle_pop {u : R} {p : PM} {st : List PM} {k : Nat} (e : u.pend = p :: st) (h : k < strength p.op) : u.settle k = u.pop1.settle k := by
  unfold R.settle R.pop1
  rw [e]
  simp only [Pm.settle, if_pos h]
theorem settle_id {u : R} {k : Nat} (h : ∀ p st, u.pend = p :: st → strength p.op ≤ k) : u.settle k = u := by
  unfold R.settle
  cases e : u.pend with
  | nil => cases u; cases e; rfl
  | cons p st =>
    have := h p st e
    simp only [Pm.settle, if_neg (show ¬ k < strength p.op by omega)]
    cases u; cases e; rfl
structure Next (K : Nat) (r : List Tok) : Prop where
  h4 : K < 4 → nextIs "since" r = false
  h3 : K < 3 → nextIs "and" r = false
  h2 : K < 2 → nextIs "or" r = false
  h1 : K < 1 → nextIs "implies" r = false
theorem run_pop {u : R} {p : PM} {st : List PM} (K : Nat) {r : List Tok} (g : AllGood r) (e1 : u.exp = .joint) (e : u.pend = p :: st) (h : K < strength p.op) (n : Next K r) :
    run u r = run u.pop1 r := by
  refine run_congr K g e1 ?_ (fun k hk => settle_pop e (by omega)) n.h4 n.h3 n.h2 n.h1
  unfold R.pop1
  rw [e]
  exact e1

/-! ## Taking in a state that wants an operand -/
def Wants (s : R) (l : List Tok) : Prop := s.exp = .operand ∨ (s.exp = .within ∧ nextIs "within" l = false)
theorem Wants.exp {s : R} {l : List Tok} (h : Wants s l) : s.exp = .operand ∨ s.exp = .within := by
  rcases h with h | h
  · exact Or.inl h
  · exact Or.inr h.1
theorem take_want {s : R} {w : Bytes} (h : s.exp = .operand ∨ s.exp = .within) : s.take w = s.takeOperand w := by
  unfold R.take
  rcases h with h | h <;> rw [h]
theorem take_want' {s : R} {t : Tok} {r l : List Tok} (h : Wants s l) (d : Due s l t r) : ¬ (t.text = ascii "within" ∧ s.exp = .within) := by
  rintro ⟨a, b⟩
  rcases h with h | h
  · rw [h] at b
    cases b
  · have := h.2
    rw [d.eq, nextIs_cons, word_of d.good d.k5 d.k6 rfl a] at this
    cases this
theorem take_open {s : R} {t : Tok} {r l : List Tok} {op : Op} (h : Wants s l) (d : Due s l t r) (ho : openOp t.text = some op) :
    s.take t.text = R.begin_ { s with exp := behind op } { op := op, ops := [] } := by
  rw [take_want h.exp, R.takeOperand, if_neg (take_want' h d), ho]

theorem run_due0 {s s' : R} {t : Tok} {r l : List Tok} (d : Due s l t r) (h : s.take t.text = (0, s')) : run s l = run s' r := by
  rw [d.run, stepT, h, if_pos rfl]
theorem run_dueF {s : R} {t : Tok} {r l : List Tok} {k : Nat} (d : Due s l t r) (h : (s.take t.text).1 = k) (hk : k ≠ 0) : run s l = .error ⟨k, t.from_⟩ := by
  rw [d.run, stepT, h, if_neg hk]
theorem Due.len {s : R} {t : Tok} {r l : List Tok} (d : Due s l t r) : r.length + 1 = l.length := by
  rw [d.eq, List.length_cons]

/-! ## Numbers and windows -/
theorem needed_ag {s : R} {l : List Tok} (g : AllGood l) (he : s.exp = .needed) : Ag (number 1 KMOST l) (run s l)
    (fun k r => run s l = run { s with pend := onTop (fun p => { p with needed := k }) s.pend, total := s.total + k, exp := .within } r ∧ r.length < l.length ∧ AllGood r) := by
  unfold number
  refine (due_ag g (fun e => by rw [he] at e; cases e)).bind fun t r d => ?_
  have ht : s.take t.text = s.takeNeeded t.text := by unfold R.take; rw [he]
  show Ag (if t.kind ≠ 1 then _ else _) _ _
  by_cases k1 : t.kind = 1
  · rw [if_neg (by simp [k1])]
    have hd : headDigit t.text = true := (d.good.fig k1).1
    by_cases hb : t.num < 1 ∨ KMOST < t.num
    · rw [if_pos hb]
      have : bounded t.text 1 64 = false := by
        rw [← Bool.not_eq_true, bounded_iff d.good k1 (by decide)]
        exact fun z => z hb
      exact run_dueF d (by rw [ht, R.takeNeeded, hd, this]; rfl) (by decide)
    · rw [if_neg hb]
      have : bounded t.text 1 64 = true := (bounded_iff d.good k1 (by decide)).mpr hb
      refine ⟨?_, by have := d.len; omega, d.rest⟩
      rw [(d.good.fig k1).2.1]
      exact run_due0 d (by rw [ht, R.takeNeeded, hd, this]; rfl)
  · rw [if_pos k1]
    have hd : headDigit t.text = false := by
      rw [← Bool.not_eq_true]
      exact fun z => k1 (text_fig d.good d.k5 d.k6 z)
    exact run_dueF d (by rw [ht, R.takeNeeded, hd]; rfl) (by decide)
theorem span_ag {s : R} {l : List Tok} (g : AllGood l) (he : s.exp = .span) : Ag (number 0 SECONDS l) (run s l)
    (fun k r => run s l = run { s with pend := onTop (fun p => { p with span := some k }) s.pend, exp := .operand } r ∧ r.length < l.length ∧ AllGood r) := by
  unfold number
  refine (due_ag g (fun e => by rw [he] at e; cases e)).bind fun t r d => ?_
  have ht : s.take t.text = s.takeSpan t.text := by unfold R.take; rw [he]
  show Ag (if t.kind ≠ 1 then _ else _) _ _
  by_cases k1 : t.kind = 1
  · rw [if_neg (by simp [k1])]
    have hd : headDigit t.text = true := (d.good.fig k1).1
    by_cases hb : t.num < 0 ∨ SECONDS < t.num
    · rw [if_pos hb]
      have : bounded t.text 0 4294967295 = false := by
        rw [← Bool.not_eq_true, bounded_iff d.good k1 (by decide)]
        exact fun z => z hb
      exact run_dueF d (by rw [ht, R.takeSpan, hd, this]; rfl) (by decide)
    · rw [if_neg hb]
      have : bounded t.text 0 4294967295 = true := (bounded_iff d.good k1 (by decide)).mpr hb
      refine ⟨?_, by have := d.len; omega, d.rest⟩
      rw [(d.good.fig k1).2.1]
      exact run_due0 d (by rw [ht, R.takeSpan, hd, this]; rfl)
  · rw [if_pos k1]
    have hd : headDigit t.text = false := by
      rw [← Bool.not_eq_true]
      exact fun z => k1 (text_fig d.good d.k5 d.k6 z)
    exact run_dueF d (by rw [ht, R.takeSpan, hd]; rfl) (by decide)
def setSpan (s : R) : Option Nat → R
  | none => s
  | some n => { s with pend := onTop (fun p => { p with span := some n }) s.pend, exp := .operand }
theorem window_ag {s : R} {l : List Tok} (g : AllGood l) (he : s.exp = .within) : Ag (window l) (run s l)
    (fun w r => run s l = run (setSpan s w) r ∧ Wants (setSpan s w) r ∧ r.length ≤ l.length ∧ AllGood r) := by
  unfold window
  by_cases hn : nextIs "within" l = true
  · rw [if_pos hn]
    refine (due_ag g (fun e => by rw [he] at e; cases e)).bind fun t r d => ?_
    rw [d.eq, nextIs_cons] at hn
    have ht : t.text = ascii "within" := (isWord_iff.mp hn).2
    have h1 : run s l = run { s with exp := .span } r := run_due0 d (by rw [take_want (Or.inr he), R.takeOperand, if_pos ⟨ht, he⟩])
    show Ag (number 0 SECONDS r >>= _) _ _
    refine Ag.bind ((span_ag d.rest rfl).eq h1) fun n r2 q => ?_
    refine ⟨h1.trans (q.1.trans ?_), Or.inl rfl, by have := d.len; omega, q.2.2⟩
    rfl
  · rw [if_neg hn]
    exact ⟨rfl, Or.inr ⟨he, Bool.not_eq_true _ ▸ hn⟩, Nat.le_refl _, g⟩
end Pm

namespace Pm
open Pw

/-- what stands behind a since-level piece: a second since is a fault, else it goes on -/
def After (Y : Except Fault R) (s' : R) (r : List Tok) : Prop :=
  (nextIs "since" r = true → ∃ t r', r = t :: r' ∧ Y = .error ⟨3, t.from_⟩) ∧ (nextIs "since" r = false → Y = run s' r)
theorem other_word {a b : String} {r : List Tok} (hab : ascii a ≠ ascii b) (h : nextIs a r = true) : nextIs b r = false := by
  cases r with
  | nil => cases h
  | cons t r =>
    rw [nextIs_cons] at h ⊢
    rw [← Bool.not_eq_true]
    intro z
    exact hab ((isWord_iff.mp h).2.symm.trans (isWord_iff.mp z).2)

structure Post (l r : List Tok) : Prop where
  len : r.length < l.length
  good : AllGood r

def topLe (s : R) (k : Nat) : Prop := ∀ p st, s.pend = p :: st → strength p.op ≤ k

def finL (op : Op) (u : R) (idx : List Int) (st : List PM) (m : Fs) : R := { u with
  exp := .joint, pend := st, parts := u.parts ++ (compL m u.parts.length u.beg.length ++ [{ op := op, ops := idx ++ idxL m u.parts.length }]),
  beg := u.beg ++ m.fresh, total := u.total + m.ks }

structure All (n : Nat) : Prop where
  U : ∀ (o : Nat) (l : List Tok) (s : R), Wants s l → s.depth = (o : Int) → o ≤ 40 → AllGood l → 5 * l.length + 1 ≤ n →
    Ag (uP n o l) (run s l) (fun a r => run s l = run (s.push a) r ∧ Post l r)
  S : ∀ (o : Nat) (l : List Tok) (s : R), Wants s l → s.depth = (o : Int) → o ≤ 40 → AllGood l → topLe s 3 → 5 * l.length + 2 ≤ n →
    Ag (sP n o l) (run s l) (fun a r => After (run s l) (s.push a) r ∧ Post l r)
  T : ∀ (o : Nat) (l : List Tok) (s : R) (idx : List Int) (st : List PM), Wants s l → s.depth = (o : Int) → o ≤ 40 → AllGood l →
    s.pend = { op := .and_, ops := idx } :: st → 5 * l.length + 2 ≤ n →
    Ag (sP n o l >>= fun x => andsP n o x.2 >>= fun y => .ok (Fs.cons x.1 y.1, y.2)) (run s l)
      (fun m r => After (run s l) (finL .and_ s idx st m) r ∧ Post l r ∧ nextIs "and" r = false)
  A : ∀ (o : Nat) (l : List Tok) (s : R), Wants s l → s.depth = (o : Int) → o ≤ 40 → AllGood l → topLe s 2 → 5 * l.length + 3 ≤ n →
    Ag (aP n o l) (run s l) (fun a r => After (run s l) (s.push a) r ∧ Post l r ∧ nextIs "and" r = false)
  V : ∀ (o : Nat) (l : List Tok) (s : R) (idx : List Int) (st : List PM), Wants s l → s.depth = (o : Int) → o ≤ 40 → AllGood l →
    s.pend = { op := .or_, ops := idx } :: st → 5 * l.length + 3 ≤ n →
    Ag (aP n o l >>= fun x => orsP n o x.2 >>= fun y => .ok (Fs.cons x.1 y.1, y.2)) (run s l)
      (fun m r => After (run s l) (finL .or_ s idx st m) r ∧ Post l r ∧ nextIs "and" r = false ∧ nextIs "or" r = false)
  O : ∀ (o : Nat) (l : List Tok) (s : R), Wants s l → s.depth = (o : Int) → o ≤ 40 → AllGood l → topLe s 1 → 5 * l.length + 4 ≤ n →
    Ag (oP n o l) (run s l) (fun a r => After (run s l) (s.push a) r ∧ Post l r ∧ nextIs "and" r = false ∧ nextIs "or" r = false)
  F : ∀ (o : Nat) (l : List Tok) (s : R), Wants s l → s.depth = (o : Int) → o ≤ 40 → AllGood l → topLe s 1 → 5 * l.length + 5 ≤ n →
    Ag (fP n o l) (run s l) (fun a r => After (run s l) (s.push a) r ∧ Post l r ∧ nextIs "and" r = false ∧ nextIs "or" r = false ∧ nextIs "implies" r = false)

/-! ### U -/
/-- the state behind a word that opens -/
def opn (s : R) (op : Op) : R := { s with
  exp := behind op
  pend := (if remembers op = true then { op := op, ops := [], slot := some s.beg.length } else { op := op, ops := [] }) :: s.pend
  beg := if remembers op = true then s.beg ++ [firstMem op] else s.beg
  depth := s.depth + 1 }
theorem open_deep {s : R} {t : Tok} {r l : List Tok} {op : Op} {o : Nat} (h : Wants s l) (d : Due s l t r) (ho : openOp t.text = some op) (hop : opened op = true) (hd : s.depth = (o : Int)) (h40 : 40 ≤ o) :
    run s l = .error ⟨5, t.from_⟩ := by
  refine run_dueF d ?_ (by decide)
  rw [take_open h d ho, R.begin_]
  simp only [hop, if_true, hd]
  rw [if_pos (by omega)]
theorem open_ok {s : R} {t : Tok} {r l : List Tok} {op : Op} {o : Nat} (h : Wants s l) (d : Due s l t r) (ho : openOp t.text = some op) (hop : opened op = true) (hd : s.depth = (o : Int)) (h40 : ¬ 40 ≤ o) :
    run s l = run (opn s op) r := by
  refine run_due0 d ?_
  rw [take_open h d ho, R.begin_]
  simp only [hop, if_true, hd]
  rw [if_neg (by omega)]
  simp only [opn, hd]
/-- behind an operand of a word that stands ahead: it is one part more -/
theorem pre_end {s u : R} {f g : F} {p : PM} {r : List Tok} (gr : AllGood r) (hp : u.pend = p :: s.pend) (h5 : strength p.op = 5)
    (e : (u.push f).pop1 = s.push g) : run (u.push f) r = run (s.push g) r := by
  rw [← e]
  exact run_pop 4 gr rfl hp (by rw [h5]; decide) ⟨by omega, by omega, by omega, by omega⟩
theorem len_idx (a b : Nat) : ((a + b : Nat) : Int) - 1 = (a : Int) + (b : Int) - 1 := by omega
end Pm

namespace Pm
open Pw

theorem word_ne {a b : String} {t : Tok} (h : isWord a t = true) (hab : ascii a ≠ ascii b) : isWord b t = false := by
  rw [← Bool.not_eq_true]
  intro z
  exact hab ((isWord_iff.mp h).2.symm.trans (isWord_iff.mp z).2)
theorem word_no_sign {a b : String} {t : Tok} (h : isWord a t = true) : isSign b t = false := by
  rw [← Bool.not_eq_true]
  intro z
  have := (isWord_iff.mp h).1.symm.trans (isSign_iff.mp z).1
  cases this
theorem sign_no_word {a b : String} {t : Tok} (h : isSign a t = true) : isWord b t = false := by
  rw [← Bool.not_eq_true]
  intro z
  have := (isSign_iff.mp h).1.symm.trans (isWord_iff.mp z).1
  cases this
theorem sign_ne {a b : String} {t : Tok} (h : isSign a t = true) (hab : ascii a ≠ ascii b) : isSign b t = false := by
  rw [← Bool.not_eq_true]
  intro z
  exact hab ((isSign_iff.mp h).2.symm.trans (isSign_iff.mp z).2)

theorem Post.one {s : R} {t : Tok} {l r r2 : List Tok} (d : Due s l t r) (h : r2.length < r.length) (g : AllGood r2) : Post l r2 := ⟨by have := d.len; omega, g⟩

/-- a plain operand: yes, no, a name -/
theorem put_ok {s : R} {t : Tok} {r l : List Tok} {f : F} {p : PM} (h : Wants s l) (d : Due s l t r) (ho : openOp t.text = none)
    (e : (if t.text = ascii "yes" then s.put { op := .yes, ops := [] } else if t.text = ascii "no" then s.put { op := .no, ops := [] }
      else if isName t.text = true then s.put { op := .name, ops := [], name := t.text } else (3, s)) = s.put p)
    (hf : f.fresh = []) (hk : f.ks = 0) (hc : comp f s.parts.length s.beg.length = [p]) : run s l = run (s.push f) r := by
  refine run_due0 d ?_
  rw [take_want h.exp, R.takeOperand, if_neg (take_want' h d), ho]
  refine e.trans ?_
  simp only [R.put, R.push, hf, hk, hc, List.append_nil, Nat.add_zero]

/-- the state behind a bracket -/
theorem bracket_ok {s u : R} {a : F} {t : Tok} {r l : List Tok} (d : Due (u.push a) l t r) (hp : u.pend = { op := .paren, ops := [] } :: s.pend)
    (hd : u.depth = s.depth + 1) (hu : { u with pend := s.pend, depth := s.depth, exp := s.exp } = s) (ht : t.text = ascii ")") :
    run (u.push a) l = run (s.push a) r := by
  refine run_due0 d ?_
  have e1 : (u.push a).take t.text = ((u.push a).settle 0).endBracket := by
    show R.takeJoint _ _ = _
    rw [R.takeJoint, if_pos ht]
  rw [e1, settle_id (by intro p st e; rw [show (u.push a).pend = u.pend from rfl, hp] at e; cases e; exact Nat.le_refl _), R.endBracket]
  have e2 : (u.push a).top = some .paren := by
    unfold R.top
    rw [show (u.push a).pend = u.pend from rfl, hp]
    rfl
  rw [e2, if_neg (by simp)]
  refine congrArg (Prod.mk 0) ?_
  rw [← hu]
  simp only [R.push, hp, List.tail_cons, hd]
  congr 1
  omega
/-- a sign that isn't due behind an operand within a bracket, or at a watch's end -/
theorem joint_bad {v : R} {t : Tok} {r l : List Tok} (d : Due v l t r) (he : v.exp = .joint) (hn : Next 0 l)
    (h1 : isSign ")" t = false ∨ v.settle 0 = v ∧ v.top ≠ some .paren) (h2 : isSign ";" t = false ∨ v.settle 0 = v ∧ v.top = some .paren) : run v l = .error ⟨3, t.from_⟩ := by
  refine run_dueF d ?_ (by decide)
  have e1 : v.take t.text = v.takeJoint t.text := by unfold R.take; rw [he]
  rw [e1, R.takeJoint]
  by_cases c1 : t.text = ascii ")"
  · rw [if_pos c1]
    rcases h1 with h | ⟨h, q⟩
    · rw [sign_of d.good d.k5 d.k6 rfl rfl c1] at h
      cases h
    · rw [h, R.endBracket, if_pos q]
  · rw [if_neg c1]
    by_cases c2 : t.text = ascii ";"
    · rw [if_pos c2]
      rcases h2 with h | ⟨h, q⟩
      · rw [sign_of d.good d.k5 d.k6 rfl rfl c2] at h
        cases h
      · rw [h, R.endWatch, if_pos q]
    · rw [if_neg c2]
      have nn : ∀ w : String, headSmall (ascii w) = true → nextIs w l = false → t.text ≠ ascii w := by
        intro w hw hl e
        rw [d.eq, nextIs_cons, word_of d.good d.k5 d.k6 hw e] at hl
        cases hl
      have : joinOp t.text = none := by
        unfold joinOp
        rw [if_neg (nn "since" rfl (hn.h4 (by decide))), if_neg (nn "and" rfl (hn.h3 (by decide))), if_neg (nn "or" rfl (hn.h2 (by decide))), if_neg (nn "implies" rfl (hn.h1 (by decide)))]
      rw [this]
/-- sign ")" behind a rule within a bracket -/
theorem close_ag {s u : R} {a : F} {l : List Tok} {Y : Except Fault R} (g : AllGood l) (hp : u.pend = { op := .paren, ops := [] } :: s.pend)
    (hd : u.depth = s.depth + 1) (hu : { u with pend := s.pend, depth := s.depth, exp := s.exp } = s) (ha : After Y (u.push a) l)
    (h3 : nextIs "and" l = false) (h2 : nextIs "or" l = false) (h1 : nextIs "implies" l = false) :
    Ag (sign ")" l) Y (fun _ r => Y = run (s.push a) r ∧ r.length < l.length ∧ AllGood r) := by
  by_cases hs : nextIs "since" l = true
  · obtain ⟨t, r', e, y⟩ := ha.1 hs
    subst e
    rw [nextIs_cons] at hs
    have k0 := (isWord_iff.mp hs).1
    unfold sign due
    simp only [k0]
    rw [if_neg (by decide)]
    by_cases hg : t.glued = true
    · rw [if_pos hg]
      exact y
    · rw [if_neg hg]
      show Ag (if isSign ")" t = true then _ else _) Y _
      rw [word_no_sign hs, if_neg (by decide)]
      exact y
  · have hs' : nextIs "since" l = false := Bool.not_eq_true _ ▸ hs
    have y := ha.2 hs'
    refine Ag.eq ?_ y
    unfold sign
    refine (due_ag (s := u.push a) g (fun e => by cases e)).bind fun t r d => ?_
    show Ag (if isSign ")" t = true then _ else _) _ _
    by_cases c : isSign ")" t = true
    · rw [if_pos c]
      exact ⟨y.trans (bracket_ok d hp hd hu (isSign_iff.mp c).2), by have := d.len; omega, d.rest⟩
    · rw [if_neg c]
      refine joint_bad d rfl ⟨fun _ => hs', fun _ => h3, fun _ => h2, fun _ => h1⟩ (Or.inl (Bool.not_eq_true _ ▸ c)) (Or.inr ⟨settle_id ?_, ?_⟩)
      · intro p st e
        rw [show (u.push a).pend = u.pend from rfl, hp] at e
        cases e
        exact Nat.le_refl _
      · unfold R.top
        rw [show (u.push a).pend = u.pend from rfl, hp]
        rfl

theorem opn_wants {s : R} {op : Op} {r : List Tok} (h : behind op = .operand) : Wants (opn s op) r := Or.inl h
theorem open_none {t : Tok} (g : Good t) (k5 : t.kind ≠ 5) (k6 : t.kind ≠ 6) (h1 : isSign "(" t = false) (h2 : isWord "not" t = false) (h3 : isWord "once" t = false)
    (h4 : isWord "always" t = false) (h5 : isWord "before" t = false) (h6 : isWord "least" t = false) : openOp t.text = none := by
  have nn : ∀ w : String, headSmall (ascii w) = true → isWord w t = false → t.text ≠ ascii w := by
    intro w hw hl e
    rw [word_of g k5 k6 hw e] at hl
    cases hl
  have n1 : t.text ≠ ascii "(" := fun e => by
    rw [sign_of g k5 k6 rfl rfl e] at h1
    cases h1
  unfold openOp
  rw [if_neg n1, if_neg (nn "not" rfl h2), if_neg (nn "once" rfl h3), if_neg (nn "always" rfl h4), if_neg (nn "before" rfl h5), if_neg (nn "least" rfl h6)]

theorem U_step {n : Nat} (ih : All n) : ∀ (o : Nat) (l : List Tok) (s : R), Wants s l → s.depth = (o : Int) → o ≤ 40 → AllGood l → 5 * l.length + 1 ≤ n + 1 →
    Ag (uP (n + 1) o l) (run s l) (fun a r => run s l = run (s.push a) r ∧ Post l r) := by
  intro o l s hw hd ho g hn
  rw [uP]
  refine (due_ag g (fun e => by rcases hw.exp with h | h <;> rw [h] at e <;> cases e)).bind fun t r d => ?_
  have hlen := d.len
  show Ag (if _ then _ else _) _ _
  by_cases w1 : isWord "not" t = true
  · have ho' : openOp t.text = some .not_ := by rw [(isWord_iff.mp w1).2]; rfl
    by_cases h40 : 40 ≤ o
    · rw [if_pos (by simp [w1, OPENED, h40])]
      exact open_deep hw d ho' rfl hd h40
    · rw [if_neg (by intro z; rw [Bool.and_eq_true, decide_eq_true_eq] at z; exact h40 z.2), if_pos w1]
      have e1 := open_ok hw d ho' rfl hd h40
      refine Ag.bind ((ih.U (o + 1) r (opn s .not_) (opn_wants rfl) (by simp [opn, hd]) (by omega) d.rest (by omega)).eq e1) fun a r2 q => ?_
      refine ⟨e1.trans (q.1.trans (pre_end q.2.good rfl rfl ?_)), Post.one d q.2.len q.2.good⟩
      simp [R.pop1, R.push, opn, remembers, opened, behind, comp, F.fresh, F.ks, comp_length]
  by_cases w2 : isWord "once" t = true
  · have ho' : openOp t.text = some .once := by rw [(isWord_iff.mp w2).2]; rfl
    by_cases h40 : 40 ≤ o
    · rw [if_pos (by simp [w2, OPENED, h40])]
      exact open_deep hw d ho' rfl hd h40
    · rw [if_neg (by intro z; rw [Bool.and_eq_true, decide_eq_true_eq] at z; exact h40 z.2), if_neg w1, if_pos w2]
      have e1 := open_ok hw d ho' rfl hd h40
      refine Ag.bind ((window_ag (s := opn s .once) d.rest rfl).eq e1) fun w r1 q1 => ?_
      show Ag (uP n (o + 1) r1 >>= _) _ _
      have e2 := e1.trans q1.1
      refine Ag.bind ((ih.U (o + 1) r1 _ q1.2.1 (by cases w <;> simp [setSpan, opn, hd]) (by omega) q1.2.2.2 (by have := q1.2.2.1; omega)).eq e2) fun a r2 q => ?_
      refine ⟨e2.trans (q.1.trans (pre_end (p := { op := .once, ops := [], span := w, slot := some s.beg.length }) q.2.good ?_ rfl ?_)), Post.one d (by have := q.2.len; have := q1.2.2.1; omega) q.2.good⟩
      · cases w <;> rfl
      · cases w <;>
        · simp [R.pop1, R.push, setSpan, onTop, opn, remembers, firstMem, opened, behind, comp, F.fresh, F.ks, comp_length]
  by_cases w3 : isWord "always" t = true
  · have ho' : openOp t.text = some .always := by rw [(isWord_iff.mp w3).2]; rfl
    by_cases h40 : 40 ≤ o
    · rw [if_pos (by simp [w3, OPENED, h40])]
      exact open_deep hw d ho' rfl hd h40
    · rw [if_neg (by intro z; rw [Bool.and_eq_true, decide_eq_true_eq] at z; exact h40 z.2), if_neg w1, if_neg w2, if_pos w3]
      have e1 := open_ok hw d ho' rfl hd h40
      refine Ag.bind ((window_ag (s := opn s .always) d.rest rfl).eq e1) fun w r1 q1 => ?_
      show Ag (uP n (o + 1) r1 >>= _) _ _
      have e2 := e1.trans q1.1
      refine Ag.bind ((ih.U (o + 1) r1 _ q1.2.1 (by cases w <;> simp [setSpan, opn, hd]) (by omega) q1.2.2.2 (by have := q1.2.2.1; omega)).eq e2) fun a r2 q => ?_
      refine ⟨e2.trans (q.1.trans (pre_end (p := { op := .always, ops := [], span := w, slot := some s.beg.length }) q.2.good ?_ rfl ?_)), Post.one d (by have := q.2.len; have := q1.2.2.1; omega) q.2.good⟩
      · cases w <;> rfl
      · cases w <;>
        · simp [R.pop1, R.push, setSpan, onTop, opn, remembers, firstMem, opened, behind, comp, F.fresh, F.ks, comp_length]
  by_cases w4 : isWord "before" t = true
  · have ho' : openOp t.text = some .before := by rw [(isWord_iff.mp w4).2]; rfl
    by_cases h40 : 40 ≤ o
    · rw [if_pos (by simp [w4, OPENED, h40])]
      exact open_deep hw d ho' rfl hd h40
    · rw [if_neg (by intro z; rw [Bool.and_eq_true, decide_eq_true_eq] at z; exact h40 z.2), if_neg w1, if_neg w2, if_neg w3, if_pos w4]
      have e1 := open_ok hw d ho' rfl hd h40
      refine Ag.bind ((ih.U (o + 1) r (opn s .before) (opn_wants rfl) (by simp [opn, hd]) (by omega) d.rest (by omega)).eq e1) fun a r2 q => ?_
      refine ⟨e1.trans (q.1.trans (pre_end q.2.good rfl rfl ?_)), Post.one d q.2.len q.2.good⟩
      simp [R.pop1, R.push, opn, remembers, firstMem, opened, behind, comp, F.fresh, F.ks, comp_length]
  by_cases w5 : isWord "least" t = true
  · have ho' : openOp t.text = some .least := by rw [(isWord_iff.mp w5).2]; rfl
    by_cases h40 : 40 ≤ o
    · rw [if_pos (by simp [w5, OPENED, h40])]
      exact open_deep hw d ho' rfl hd h40
    · rw [if_neg (by intro z; rw [Bool.and_eq_true, decide_eq_true_eq] at z; exact h40 z.2), if_neg w1, if_neg w2, if_neg w3, if_neg w4, if_pos w5]
      have e1 := open_ok hw d ho' rfl hd h40
      refine Ag.bind ((needed_ag (s := opn s .least) d.rest rfl).eq e1) fun k r0 q0 => ?_
      show Ag (window r0 >>= _) _ _
      have e0 := e1.trans q0.1
      refine Ag.bind ((window_ag (s := _) q0.2.2 rfl).eq e0) fun w r1 q1 => ?_
      show Ag (uP n (o + 1) r1 >>= _) _ _
      have e2 := e0.trans q1.1
      refine Ag.bind ((ih.U (o + 1) r1 _ q1.2.1 (by cases w <;> simp [setSpan, opn, hd]) (by omega) q1.2.2.2 (by have := q1.2.2.1; have := q0.2.1; omega)).eq e2) fun a r2 q => ?_
      refine ⟨e2.trans (q.1.trans (pre_end (p := { op := .least, ops := [], needed := k, span := w, slot := some s.beg.length }) q.2.good ?_ rfl ?_)), Post.one d (by have := q.2.len; have := q1.2.2.1; have := q0.2.1; omega) q.2.good⟩
      · cases w <;> rfl
      · cases w <;>
        · simp [R.pop1, R.push, setSpan, onTop, opn, remembers, firstMem, opened, behind, comp, F.fresh, F.ks, comp_length]
          omega
  by_cases w6 : isSign "(" t = true
  · have ho' : openOp t.text = some .paren := by rw [(isSign_iff.mp w6).2]; rfl
    by_cases h40 : 40 ≤ o
    · rw [if_pos (by simp [w6, OPENED, h40])]
      exact open_deep hw d ho' rfl hd h40
    · rw [if_neg (by intro z; rw [Bool.and_eq_true, decide_eq_true_eq] at z; exact h40 z.2), if_neg w1, if_neg w2, if_neg w3, if_neg w4, if_neg w5, if_pos w6]
      have e1 := open_ok hw d ho' rfl hd h40
      refine Ag.bind ((ih.F (o + 1) r (opn s .paren) (opn_wants rfl) (by simp [opn, hd]) (by omega) d.rest (by intro p st e; cases e; exact Nat.zero_le _) (by omega)).eq e1) fun a r1 q => ?_
      show Ag (sign ")" r1 >>= _) _ _
      refine Ag.bind (close_ag (s := s) (u := opn s .paren) (a := a) q.2.1.good rfl rfl (by cases s; rfl) (e1 ▸ q.1) q.2.2.1 q.2.2.2.1 q.2.2.2.2) fun _ r2 z => ?_
      exact ⟨z.1, Post.one d (by have := z.2.1; have := q.2.1.len; omega) z.2.2⟩
  rw [Bool.not_eq_true] at w1 w2 w3 w4 w5 w6
  rw [if_neg (by simp [w1, w2, w3, w4, w5, w6]), if_neg (by simp [w1]), if_neg (by simp [w2]), if_neg (by simp [w3]), if_neg (by simp [w4]), if_neg (by simp [w5]), if_neg (by simp [w6])]
  have hon := open_none d.good d.k5 d.k6 w6 w1 w2 w3 w4 w5
  by_cases w7 : isWord "yes" t = true
  · rw [if_pos w7]
    refine ⟨put_ok (p := { op := .yes, ops := [] }) hw d hon ?_ rfl rfl rfl, ⟨by omega, d.rest⟩⟩
    rw [if_pos (isWord_iff.mp w7).2]
  rw [if_neg w7]
  have n7 : t.text ≠ ascii "yes" := fun e => w7 (word_of d.good d.k5 d.k6 rfl e)
  by_cases w8 : isWord "no" t = true
  · rw [if_pos w8]
    refine ⟨put_ok (p := { op := .no, ops := [] }) hw d hon ?_ rfl rfl rfl, ⟨by omega, d.rest⟩⟩
    rw [if_neg n7, if_pos (isWord_iff.mp w8).2]
  rw [if_neg w8]
  have n8 : t.text ≠ ascii "no" := fun e => w8 (word_of d.good d.k5 d.k6 rfl e)
  by_cases w9 : t.kind = 0 ∧ words.contains t.text = false
  · rw [if_pos w9]
    refine ⟨put_ok (p := { op := .name, ops := [], name := t.text }) hw d hon ?_ rfl rfl rfl, ⟨by omega, d.rest⟩⟩
    rw [if_neg n7, if_neg n8, if_pos (by unfold isName; rw [d.good.word w9.1, w9.2]; rfl)]
  · rw [if_neg w9]
    refine run_dueF d ?_ (by decide)
    rw [take_want hw.exp, R.takeOperand, if_neg (take_want' hw d), hon]
    show (if t.text = ascii "yes" then _ else _ : Nat × R).1 = 3
    have : ¬ isName t.text = true := by
      intro z
      unfold isName at z
      rw [Bool.and_eq_true] at z
      exact w9 ⟨text_word d.good d.k5 d.k6 z.1, by simpa using z.2⟩
    rw [if_neg n7, if_neg n8, if_neg this]
end Pm

namespace Pm
open Pw

theorem nx_true {w : String} {l : List Tok} {s : R} {t : Tok} {r : List Tok} (d : Due s l t r) (h : nextIs w l = true) : isWord w t = true := by
  rw [d.eq, nextIs_cons] at h
  exact h
theorem joint_watch {s : R} {l : List Tok} (he : s.exp = .joint) : s.exp = .watch → s.watches ≠ [] → ended l = false := fun e => by
  rw [he] at e
  cases e

/-- a word between two operands, where none such is pending: the state behind it -/
def jn (s : R) (op : Op) (idx : List Int) : R := { s with
  exp := if op = .since then .within else .operand
  pend := (if remembers op = true then { op := op, ops := idx, slot := some s.beg.length } else { op := op, ops := idx }) :: s.pend
  beg := if remembers op = true then s.beg ++ [firstMem op] else s.beg
  depth := if opened op = true then s.depth + 1 else s.depth }
theorem join_new {v : R} {t : Tok} {r l : List Tok} {op : Op} (d : Due v l t r) (he : v.exp = .joint) (hw : headSmall t.text = true) (hj : joinOp t.text = some op)
    (ht : topLe v (strength op)) (hn : v.top ≠ some op ∨ op = .implies) :
    v.take t.text = (if 40 < (jn v op [(v.parts.length : Int) - 1]).depth then 5 else 0, jn v op [(v.parts.length : Int) - 1]) := by
  have e1 : v.take t.text = v.takeJoint t.text := by unfold R.take; rw [he]
  have n1 : t.text ≠ ascii ")" := fun e => by rw [e] at hw; cases hw
  have n2 : t.text ≠ ascii ";" := fun e => by rw [e] at hw; cases hw
  rw [e1, R.takeJoint, if_neg n1, if_neg n2, hj]
  show (v.settle (strength op)).joinOps op = _
  rw [settle_id ht, R.joinOps]
  have c1 : ¬ (op = .since ∧ v.top = some .since) := by
    rintro ⟨a, b⟩
    subst a
    rcases hn with h | h
    · exact h b
    · cases h
  have c2 : ¬ (v.top = some op ∧ op ≠ .implies) := by
    rintro ⟨a, b⟩
    rcases hn with h | h
    · exact h a
    · exact b h
  rw [if_neg c1, if_neg c2, R.begin_]
  rfl
theorem join_more {v : R} {t : Tok} {r l : List Tok} {op : Op} {idx : List Int} {st : List PM} (d : Due v l t r) (he : v.exp = .joint) (hw : headSmall t.text = true) (hj : joinOp t.text = some op)
    (hp : v.pend = { op := op, ops := idx } :: st) (h1 : op ≠ .since) (h2 : op ≠ .implies) :
    v.take t.text = (0, { v with exp := .operand, pend := { op := op, ops := idx ++ [(v.parts.length : Int) - 1] } :: st }) := by
  have e1 : v.take t.text = v.takeJoint t.text := by unfold R.take; rw [he]
  have n1 : t.text ≠ ascii ")" := fun e => by rw [e] at hw; cases hw
  have n2 : t.text ≠ ascii ";" := fun e => by rw [e] at hw; cases hw
  rw [e1, R.takeJoint, if_neg n1, if_neg n2, hj]
  show (v.settle (strength op)).joinOps op = _
  rw [settle_id (by intro p st e; rw [hp] at e; cases e; exact Nat.le_refl _), R.joinOps]
  have ht : v.top = some op := by unfold R.top; rw [hp]; rfl
  rw [if_neg (fun z => h1 z.1), if_pos ⟨ht, h2⟩]
  simp only [hp, onTop, if_neg h1]

theorem not_top {s : R} {k : Nat} {op : Op} (h : topLe s k) (hk : k < strength op) : s.top ≠ some op := by
  unfold R.top
  cases e : s.pend with
  | nil => simp
  | cons p st =>
    have := h p st e
    simp only [List.head?_cons, Option.map_some, ne_eq, Option.some.injEq]
    intro z
    rw [z] at this
    omega

theorem S_step {n : Nat} (ih : All n) : ∀ (o : Nat) (l : List Tok) (s : R), Wants s l → s.depth = (o : Int) → o ≤ 40 → AllGood l → topLe s 3 → 5 * l.length + 2 ≤ n + 1 →
    Ag (sP (n + 1) o l) (run s l) (fun a r => After (run s l) (s.push a) r ∧ Post l r) := by
  intro o l s hw hd ho g ht hn
  rw [sP]
  refine (ih.U o l s hw hd ho g (by omega)).bind fun a r q => ?_
  show Ag (if nextIs "since" r = true then _ else _) _ _
  by_cases hs : nextIs "since" r = true
  · rw [if_pos hs]
    refine Ag.bind ((due_ag (s := s.push a) q.2.good (joint_watch rfl)).eq q.1) fun t r1 d => ?_
    have tw := nx_true d hs
    have tx := (isWord_iff.mp tw).2
    have e0 := join_new (op := .since) d rfl (by rw [tx]; rfl) (by rw [tx]; rfl) (fun p st e => Nat.le_succ_of_le (ht p st e)) (Or.inl (not_top (s := s.push a) ht (by decide)))
    have dp : (jn (s.push a) .since [((s.push a).parts.length : Int) - 1]).depth = (o : Int) := hd
    rw [if_neg (by rw [dp]; omega)] at e0
    have e1 := q.1.trans (run_due0 d e0)
    show Ag (window r1 >>= _) _ _
    refine Ag.bind ((window_ag d.rest rfl).eq e1) fun w r2 q2 => ?_
    have e2 := e1.trans q2.1
    show Ag (uP n o r2 >>= _) _ _
    have hl := d.len
    have hl2 := q.2.len
    refine Ag.bind ((ih.U o r2 _ q2.2.1 (by cases w <;> exact hd) ho q2.2.2.2 (by have := q2.2.2.1; omega)).eq e2) fun b r3 q3 => ?_
    refine ⟨⟨fun h => ?_, fun h => ?_⟩, ⟨by have := q3.2.len; have := q2.2.2.1; omega, q3.2.good⟩⟩
    · cases r3 with
      | nil => cases h
      | cons t3 r4 =>
        refine ⟨t3, r4, rfl, ?_⟩
        rw [e2, q3.1]
        rw [nextIs_cons] at h
        have tx3 := isWord_iff.mp h
        by_cases hg : t3.glued = true
        · rw [run, if_neg (by rw [tx3.1]; decide), if_neg (by rw [tx3.1]; decide), if_pos hg]
        · rw [run_step (by rw [tx3.1]; decide) (by rw [tx3.1]; decide) hg, stepT]
          have z : (R.take (R.push (setSpan (jn (s.push a) .since [((s.push a).parts.length : Int) - 1]) w) b) t3.text).1 = 3 := by
            show (R.takeJoint _ _).1 = 3
            rw [tx3.2]
            show (R.joinOps (R.settle _ 4) .since).1 = 3
            rw [settle_id (by intro p st e; cases w <;> (cases e; exact Nat.le_refl _))]
            rw [R.joinOps, if_pos ⟨rfl, by cases w <;> rfl⟩]
          rw [z, if_neg (by decide)]
    · rw [e2, q3.1]
      rw [run_pop (p := { op := .since, ops := [((s.push a).parts.length : Int) - 1], span := w, slot := some (s.push a).beg.length }) (st := s.pend) 3 q3.2.good rfl (by cases w <;> rfl) (by decide : 3 < 4) ⟨fun _ => h, by omega, by omega, by omega⟩]
      refine congrArg (fun z => run z r3) ?_
      cases w <;>
      · simp [R.pop1, R.push, jn, setSpan, onTop, remembers, firstMem, opened, comp, F.fresh, F.ks, comp_length, Nat.add_assoc]
        try omega
  · rw [if_neg hs]
    exact ⟨⟨fun h => absurd h hs, fun _ => q.1⟩, q.2⟩
end Pm

namespace Pm
open Pw

theorem After.since {Y : Except Fault R} {a b : R} {r : List Tok} (h : After Y a r) (hs : nextIs "since" r = true) : After Y b r :=
  ⟨fun _ => h.1 hs, fun z => by rw [hs] at z; cases z⟩

/-- one item more, or the end, of a row of and (or of or) -/
theorem tail_end {op : Op} {s : R} {idx : List Int} {st : List PM} {a : F} {r : List Tok} (g : AllGood r) (K : Nat) (hk : K < strength op) (ho : opened op = false) (hp : s.pend = { op := op, ops := idx } :: st) (n : Next K r) :
    run (s.push a) r = run (finL op s idx st (.cons a .nil)) r := by
  rw [run_pop (u := s.push a) K g rfl hp hk n]
  refine congrArg (fun z => run z r) ?_
  simp [R.pop1, R.push, hp, finL, compL, idxL, Fs.fresh, Fs.ks, ho, comp_length]
theorem finL_more {op : Op} {s : R} {idx : List Int} {st : List PM} {a : F} {m : Fs} :
    finL op { s.push a with exp := .operand, pend := { op := op, ops := idx ++ [((s.push a).parts.length : Int) - 1] } :: st } (idx ++ [((s.push a).parts.length : Int) - 1]) st m = finL op s idx st (.cons a m) := by
  simp [finL, R.push, compL, idxL, Fs.fresh, Fs.ks, comp_length, Nat.add_assoc]
theorem finL_first {op : Op} {s : R} {a : F} {m : Fs} {f : F} (hr : remembers op = false) (ho : opened op = false)
    (hf : f.fresh = a.fresh ++ m.fresh) (hk : f.ks = a.ks + m.ks) (hc : ∀ b k, comp f b k = compL (.cons a m) b k ++ [{ op := op, ops := idxL (.cons a m) b }]) :
    finL op (jn (s.push a) op [((s.push a).parts.length : Int) - 1]) [((s.push a).parts.length : Int) - 1] s.pend m = s.push f := by
  simp [finL, R.push, jn, hr, ho, hf, hk, hc, compL, idxL, comp_length, Nat.add_assoc]

theorem T_step {n : Nat} (ih : All n) (hS : ∀ (o : Nat) (l : List Tok) (s : R), Wants s l → s.depth = (o : Int) → o ≤ 40 → AllGood l → topLe s 3 → 5 * l.length + 2 ≤ n + 1 →
    Ag (sP (n + 1) o l) (run s l) (fun a r => After (run s l) (s.push a) r ∧ Post l r)) :
    ∀ (o : Nat) (l : List Tok) (s : R) (idx : List Int) (st : List PM), Wants s l → s.depth = (o : Int) → o ≤ 40 → AllGood l →
    s.pend = { op := .and_, ops := idx } :: st → 5 * l.length + 2 ≤ n + 1 →
    Ag (sP (n + 1) o l >>= fun x => andsP (n + 1) o x.2 >>= fun y => .ok (Fs.cons x.1 y.1, y.2)) (run s l)
      (fun m r => After (run s l) (finL .and_ s idx st m) r ∧ Post l r ∧ nextIs "and" r = false) := by
  intro o l s idx st hw hd ho g hp hn
  refine (hS o l s hw hd ho g (by intro p st' e; rw [hp] at e; cases e; exact Nat.le_refl _) hn).bind fun a r q => ?_
  show Ag (andsP (n + 1) o r >>= _) _ _
  rw [andsP]
  by_cases ha : nextIs "and" r = true
  · rw [if_pos ha]
    have hs := other_word (b := "since") (by decide) ha
    have e0 := q.1.2 hs
    have hl2 := q.2.len
    rw [show ∀ (X : Except Fault (Tok × List Tok)) (f : Tok × List Tok → Except Fault (Fs × List Tok)) (h : Fs × List Tok → Except Fault (Fs × List Tok)), ((X >>= f) >>= h) = (X >>= fun x => f x >>= h) from fun X f h => by cases X <;> rfl]
    refine Ag.bind ((due_ag (s := s.push a) q.2.good (joint_watch rfl)).eq e0) fun t r1 d => ?_
    have tx := (isWord_iff.mp (nx_true d ha)).2
    have e1 := e0.trans (run_due0 d (join_more (op := .and_) (idx := idx) (st := st) d rfl (by rw [tx]; rfl) (by rw [tx]; rfl) hp (by decide) (by decide)))
    have hl := d.len
    have key := (ih.T o r1 { s.push a with exp := .operand, pend := { op := .and_, ops := idx ++ [((s.push a).parts.length : Int) - 1] } :: st } (idx ++ [((s.push a).parts.length : Int) - 1]) st (Or.inl rfl) hd ho d.rest rfl (by omega)).eq e1
    have e3 : ∀ (X : Except Fault (F × List Tok)) (k : Fs × List Tok → Except Fault (Fs × List Tok)), ((X >>= fun x => andsP n o x.2 >>= fun y => .ok (Fs.cons x.1 y.1, y.2)) >>= k) = (X >>= fun x => match x with | (a, r) => (andsP n o r >>= fun y => match y with | (m, r) => .ok (Fs.cons a m, r)) >>= k) := by
      intro X k
      cases X with
      | error e => rfl
      | ok x =>
        obtain ⟨a, r⟩ := x
        show ((andsP n o r >>= _) >>= k) = ((andsP n o r >>= _) >>= k)
        cases andsP n o r <;> rfl
    have e4 : ∀ (X : Except Fault (F × List Tok)) (k : Fs × List Tok → Except Fault (Fs × List Tok)), ((X >>= fun x => match x with | (a, r) => (andsP n o r >>= fun y => match y with | (m, r) => .ok (Fs.cons a m, r))) >>= k) = (X >>= fun x => match x with | (a, r) => (andsP n o r >>= fun y => match y with | (m, r) => .ok (Fs.cons a m, r)) >>= k) := by
      intro X k
      cases X with
      | error e => rfl
      | ok x => rfl
    refine (show Ag ((sP n o r1 >>= fun x => match x with | (a, r) => (andsP n o r >>= fun y => match y with | (m, r) => .ok (Fs.cons a m, r))) >>= fun y => .ok (Fs.cons a y.1, y.2)) _ _ from ?_)
    rw [e4, ← e3]
    refine key.bind fun m r2 z => ?_
    rw [← e1] at z
    rw [finL_more] at z
    exact ⟨z.1, ⟨(show r2.length < l.length by have := z.2.1.len; omega), z.2.1.good⟩, z.2.2⟩
  · rw [if_neg ha]
    have ha' : nextIs "and" r = false := Bool.not_eq_true _ ▸ ha
    refine ⟨⟨q.1.1, fun hs => ?_⟩, q.2, ha'⟩
    rw [q.1.2 hs]
    exact tail_end q.2.good 2 (by decide) rfl hp ⟨fun _ => hs, fun _ => ha', by omega, by omega⟩
theorem V_step {n : Nat} (ih : All n) (hS : ∀ (o : Nat) (l : List Tok) (s : R), Wants s l → s.depth = (o : Int) → o ≤ 40 → AllGood l → topLe s 2 → 5 * l.length + 3 ≤ n + 1 →
    Ag (aP (n + 1) o l) (run s l) (fun a r => After (run s l) (s.push a) r ∧ Post l r ∧ nextIs "and" r = false)) :
    ∀ (o : Nat) (l : List Tok) (s : R) (idx : List Int) (st : List PM), Wants s l → s.depth = (o : Int) → o ≤ 40 → AllGood l →
    s.pend = { op := .or_, ops := idx } :: st → 5 * l.length + 3 ≤ n + 1 →
    Ag (aP (n + 1) o l >>= fun x => orsP (n + 1) o x.2 >>= fun y => .ok (Fs.cons x.1 y.1, y.2)) (run s l)
      (fun m r => After (run s l) (finL .or_ s idx st m) r ∧ Post l r ∧ nextIs "and" r = false ∧ nextIs "or" r = false) := by
  intro o l s idx st hw hd ho g hp hn
  refine (hS o l s hw hd ho g (by intro p st' e; rw [hp] at e; cases e; exact Nat.le_refl _) hn).bind fun a r q => ?_
  show Ag (orsP (n + 1) o r >>= _) _ _
  rw [orsP]
  by_cases ha : nextIs "or" r = true
  · rw [if_pos ha]
    have hs := other_word (b := "since") (by decide) ha
    have e0 := q.1.2 hs
    have hl2 := q.2.1.len
    rw [show ∀ (X : Except Fault (Tok × List Tok)) (f : Tok × List Tok → Except Fault (Fs × List Tok)) (h : Fs × List Tok → Except Fault (Fs × List Tok)), ((X >>= f) >>= h) = (X >>= fun x => f x >>= h) from fun X f h => by cases X <;> rfl]
    refine Ag.bind ((due_ag (s := s.push a) q.2.1.good (joint_watch rfl)).eq e0) fun t r1 d => ?_
    have tx := (isWord_iff.mp (nx_true d ha)).2
    have e1 := e0.trans (run_due0 d (join_more (op := .or_) (idx := idx) (st := st) d rfl (by rw [tx]; rfl) (by rw [tx]; rfl) hp (by decide) (by decide)))
    have hl := d.len
    have key := (ih.V o r1 { s.push a with exp := .operand, pend := { op := .or_, ops := idx ++ [((s.push a).parts.length : Int) - 1] } :: st } (idx ++ [((s.push a).parts.length : Int) - 1]) st (Or.inl rfl) hd ho d.rest rfl (by omega)).eq e1
    have e3 : ∀ (X : Except Fault (F × List Tok)) (k : Fs × List Tok → Except Fault (Fs × List Tok)), ((X >>= fun x => orsP n o x.2 >>= fun y => .ok (Fs.cons x.1 y.1, y.2)) >>= k) = (X >>= fun x => match x with | (a, r) => (orsP n o r >>= fun y => match y with | (m, r) => .ok (Fs.cons a m, r)) >>= k) := by
      intro X k
      cases X with
      | error e => rfl
      | ok x =>
        obtain ⟨a, r⟩ := x
        show ((orsP n o r >>= _) >>= k) = ((orsP n o r >>= _) >>= k)
        cases orsP n o r <;> rfl
    have e4 : ∀ (X : Except Fault (F × List Tok)) (k : Fs × List Tok → Except Fault (Fs × List Tok)), ((X >>= fun x => match x with | (a, r) => (orsP n o r >>= fun y => match y with | (m, r) => .ok (Fs.cons a m, r))) >>= k) = (X >>= fun x => match x with | (a, r) => (orsP n o r >>= fun y => match y with | (m, r) => .ok (Fs.cons a m, r)) >>= k) := by
      intro X k
      cases X with
      | error e => rfl
      | ok x => rfl
    refine (show Ag ((aP n o r1 >>= fun x => match x with | (a, r) => (orsP n o r >>= fun y => match y with | (m, r) => .ok (Fs.cons a m, r))) >>= fun y => .ok (Fs.cons a y.1, y.2)) _ _ from ?_)
    rw [e4, ← e3]
    refine key.bind fun m r2 z => ?_
    rw [← e1] at z
    rw [finL_more] at z
    exact ⟨z.1, ⟨(show r2.length < l.length by have := z.2.1.len; omega), z.2.1.good⟩, z.2.2⟩
  · rw [if_neg ha]
    have ha' : nextIs "or" r = false := Bool.not_eq_true _ ▸ ha
    refine ⟨⟨q.1.1, fun hs => ?_⟩, q.2.1, q.2.2, ha'⟩
    rw [q.1.2 hs]
    exact tail_end q.2.1.good 1 (by decide) rfl hp ⟨fun _ => hs, fun _ => q.2.2, fun _ => ha', by omega⟩

theorem assoc_due {α : Type} (X : Except Fault (Tok × List Tok)) (f : Tok × List Tok → Except Fault (Fs × List Tok)) (h : Fs × List Tok → Except Fault α) : ((X >>= f) >>= h) = (X >>= fun x => f x >>= h) := by cases X <;> rfl

theorem A_step {n : Nat} (ih : ∀ m, m < n + 1 → All m) : ∀ (o : Nat) (l : List Tok) (s : R), Wants s l → s.depth = (o : Int) → o ≤ 40 → AllGood l → topLe s 2 → 5 * l.length + 3 ≤ n + 1 →
    Ag (aP (n + 1) o l) (run s l) (fun a r => After (run s l) (s.push a) r ∧ Post l r ∧ nextIs "and" r = false) := by
  intro o l s hw hd ho g ht hn
  rw [aP]
  refine ((ih n (by omega)).S o l s hw hd ho g (fun p st e => Nat.le_succ_of_le (ht p st e)) (by omega)).bind fun a r q => ?_
  show Ag (if nextIs "and" r = true then _ else _) _ _
  by_cases ha : nextIs "and" r = true
  · rw [if_pos ha]
    have hs := other_word (b := "since") (by decide) ha
    have e0 := q.1.2 hs
    have hl2 := q.2.len
    obtain ⟨k, rfl⟩ : ∃ k, n = k + 1 := ⟨n - 1, by omega⟩
    rw [andsP, if_pos ha, assoc_due]
    refine Ag.bind ((due_ag (s := s.push a) q.2.good (joint_watch rfl)).eq e0) fun t r1 d => ?_
    have tx := (isWord_iff.mp (nx_true d ha)).2
    have ej := join_new (op := .and_) d rfl (by rw [tx]; rfl) (by rw [tx]; rfl) (fun p st e => Nat.le_succ_of_le (ht p st e)) (Or.inl (not_top (s := s.push a) ht (by decide)))
    have dp : (jn (s.push a) .and_ [((s.push a).parts.length : Int) - 1]).depth = (o : Int) := hd
    rw [if_neg (by rw [dp]; omega)] at ej
    have e1 := e0.trans (run_due0 d ej)
    have hl := d.len
    have key := ((ih k (by omega)).T o r1 (jn (s.push a) .and_ [((s.push a).parts.length : Int) - 1]) [((s.push a).parts.length : Int) - 1] s.pend (Or.inl rfl) hd ho d.rest rfl (by omega)).eq e1
    refine (show Ag ((sP k o r1 >>= fun x => andsP k o x.2 >>= fun y => .ok (Fs.cons x.1 y.1, y.2)) >>= fun y => .ok (F.and_ (.cons a y.1), y.2)) _ _ from ?_)
    refine key.bind fun m r2 z => ?_
    rw [← e1, finL_first (f := .and_ (.cons a m)) rfl rfl (by simp [F.fresh, Fs.fresh]) (by simp [F.ks, Fs.ks]) (fun b k => by simp [comp])] at z
    exact ⟨z.1, ⟨(show r2.length < l.length by have := z.2.1.len; omega), z.2.1.good⟩, z.2.2⟩
  · rw [if_neg ha]
    exact ⟨q.1, q.2, Bool.not_eq_true _ ▸ ha⟩

theorem O_step {n : Nat} (ih : ∀ m, m < n + 1 → All m) : ∀ (o : Nat) (l : List Tok) (s : R), Wants s l → s.depth = (o : Int) → o ≤ 40 → AllGood l → topLe s 1 → 5 * l.length + 4 ≤ n + 1 →
    Ag (oP (n + 1) o l) (run s l) (fun a r => After (run s l) (s.push a) r ∧ Post l r ∧ nextIs "and" r = false ∧ nextIs "or" r = false) := by
  intro o l s hw hd ho g ht hn
  rw [oP]
  refine ((ih n (by omega)).A o l s hw hd ho g (fun p st e => Nat.le_succ_of_le (ht p st e)) (by omega)).bind fun a r q => ?_
  show Ag (if nextIs "or" r = true then _ else _) _ _
  by_cases ha : nextIs "or" r = true
  · rw [if_pos ha]
    have hs := other_word (b := "since") (by decide) ha
    have e0 := q.1.2 hs
    have hl2 := q.2.1.len
    obtain ⟨k, rfl⟩ : ∃ k, n = k + 1 := ⟨n - 1, by omega⟩
    rw [orsP, if_pos ha, assoc_due]
    refine Ag.bind ((due_ag (s := s.push a) q.2.1.good (joint_watch rfl)).eq e0) fun t r1 d => ?_
    have tx := (isWord_iff.mp (nx_true d ha)).2
    have ej := join_new (op := .or_) d rfl (by rw [tx]; rfl) (by rw [tx]; rfl) (fun p st e => Nat.le_succ_of_le (ht p st e)) (Or.inl (not_top (s := s.push a) ht (by decide)))
    have dp : (jn (s.push a) .or_ [((s.push a).parts.length : Int) - 1]).depth = (o : Int) := hd
    rw [if_neg (by rw [dp]; omega)] at ej
    have e1 := e0.trans (run_due0 d ej)
    have hl := d.len
    have key := ((ih k (by omega)).V o r1 (jn (s.push a) .or_ [((s.push a).parts.length : Int) - 1]) [((s.push a).parts.length : Int) - 1] s.pend (Or.inl rfl) hd ho d.rest rfl (by omega)).eq e1
    refine (show Ag ((aP k o r1 >>= fun x => orsP k o x.2 >>= fun y => .ok (Fs.cons x.1 y.1, y.2)) >>= fun y => .ok (F.or_ (.cons a y.1), y.2)) _ _ from ?_)
    refine key.bind fun m r2 z => ?_
    rw [← e1, finL_first (f := .or_ (.cons a m)) rfl rfl (by simp [F.fresh, Fs.fresh]) (by simp [F.ks, Fs.ks]) (fun b k => by simp [comp])] at z
    exact ⟨z.1, ⟨(show r2.length < l.length by have := z.2.1.len; omega), z.2.1.good⟩, z.2.2⟩
  · rw [if_neg ha]
    exact ⟨q.1, q.2.1, q.2.2, Bool.not_eq_true _ ▸ ha⟩

theorem F_step {n : Nat} (ih : All n) : ∀ (o : Nat) (l : List Tok) (s : R), Wants s l → s.depth = (o : Int) → o ≤ 40 → AllGood l → topLe s 1 → 5 * l.length + 5 ≤ n + 1 →
    Ag (fP (n + 1) o l) (run s l) (fun a r => After (run s l) (s.push a) r ∧ Post l r ∧ nextIs "and" r = false ∧ nextIs "or" r = false ∧ nextIs "implies" r = false) := by
  intro o l s hw hd ho g ht hn
  rw [fP]
  refine (ih.O o l s hw hd ho g ht (by omega)).bind fun a r q => ?_
  show Ag (if nextIs "implies" r = true then _ else _) _ _
  by_cases ha : nextIs "implies" r = true
  · rw [if_pos ha]
    have hs := other_word (b := "since") (by decide) ha
    have e0 := q.1.2 hs
    have hl2 := q.2.1.len
    refine Ag.bind ((due_ag (s := s.push a) q.2.1.good (joint_watch rfl)).eq e0) fun t r1 d => ?_
    have tx := (isWord_iff.mp (nx_true d ha)).2
    have ej := join_new (op := .implies) d rfl (by rw [tx]; rfl) (by rw [tx]; rfl) ht (Or.inr rfl)
    have dp : (jn (s.push a) .implies [((s.push a).parts.length : Int) - 1]).depth = (o : Int) + 1 := by rw [← hd]; rfl
    have hl := d.len
    show Ag (if OPENED ≤ o then _ else _) _ _
    by_cases h40 : OPENED ≤ o
    · rw [if_pos h40]
      rw [if_pos (by rw [dp]; have : (40 : Nat) ≤ o := h40; omega)] at ej
      exact e0.trans (run_dueF d (by rw [ej]) (by decide))
    · rw [if_neg h40]
      have h40' : ¬ (40 : Nat) ≤ o := h40
      rw [if_neg (by rw [dp]; omega)] at ej
      have e1 := e0.trans (run_due0 d ej)
      have key := (ih.F (o + 1) r1 (jn (s.push a) .implies [((s.push a).parts.length : Int) - 1]) (Or.inl rfl) (by rw [dp]; omega) (by omega) d.rest (by intro p st e; cases e; exact Nat.le_refl _) (by omega)).eq e1
      refine Ag.bind key fun b r2 z => ?_
      refine ⟨?_, ⟨(show r2.length < l.length by have := z.2.1.len; omega), z.2.1.good⟩, z.2.2⟩
      rw [← e1] at z
      refine ⟨z.1.1, fun hs2 => ?_⟩
      rw [z.1.2 hs2]
      rw [run_pop (p := { op := .implies, ops := [((s.push a).parts.length : Int) - 1] }) (st := s.pend) 0 z.2.1.good rfl rfl (show (0 : Nat) < 1 by decide) ⟨fun _ => hs2, fun _ => z.2.2.1, fun _ => z.2.2.2.1, fun _ => z.2.2.2.2⟩]
      refine congrArg (fun z => run z r2) ?_
      simp [R.pop1, R.push, jn, remembers, opened, comp, F.fresh, F.ks, comp_length, Nat.add_assoc]
  · rw [if_neg ha]
    exact ⟨q.1, q.2.1, q.2.2.1, q.2.2.2, Bool.not_eq_true _ ▸ ha⟩

theorem all (n : Nat) : All n := by
  induction n using Nat.strongRecOn with
  | ind n ih =>
    cases n with
    | zero => exact ⟨fun _ _ _ _ _ _ _ h => by omega, fun _ _ _ _ _ _ _ _ h => by omega, fun _ _ _ _ _ _ _ _ _ _ h => by omega, fun _ _ _ _ _ _ _ _ h => by omega, fun _ _ _ _ _ _ _ _ _ _ h => by omega, fun _ _ _ _ _ _ _ _ h => by omega, fun _ _ _ _ _ _ _ _ h => by omega⟩
    | succ n =>
      have i := ih n (by omega)
      have hS := S_step i
      have hA := A_step ih
      exact ⟨U_step i, hS, T_step i hS, hA, V_step i hA, O_step ih, F_step i⟩
end Pm

namespace Pm
open Pw

def R.addW (s : R) (n : Bytes) (a : F) : R := { s.push a with
  exp := .watch, known := s.known ++ [n], watches := s.watches ++ [((s.push a).parts.length : Int) - 1] }
def stateOf (ws : Watches) : R := ws.foldl (fun s w => s.addW w.1 w.2) R.new
theorem stateOf_snoc (ws : Watches) (n : Bytes) (a : F) : stateOf (ws ++ [(n, a)]) = (stateOf ws).addW n a := by
  unfold stateOf
  rw [List.foldl_append]
  rfl
theorem addW_facts : ∀ (ws : Watches) (s : R), s.exp = .watch → s.pend = [] → s.depth = 0 →
    (ws.foldl (fun s w => s.addW w.1 w.2) s).exp = .watch ∧ (ws.foldl (fun s w => s.addW w.1 w.2) s).pend = [] ∧ (ws.foldl (fun s w => s.addW w.1 w.2) s).depth = 0 ∧
    (ws.foldl (fun s w => s.addW w.1 w.2) s).known = s.known ++ ws.map Prod.fst ∧ (ws.foldl (fun s w => s.addW w.1 w.2) s).watches.length = s.watches.length + ws.length ∧
    (ws.foldl (fun s w => s.addW w.1 w.2) s).parts.length = s.parts.length + (ws.map fun w => w.2.parts).foldl (fun (a b : Nat) => a + b) 0 ∧
    (ws.foldl (fun s w => s.addW w.1 w.2) s).total = s.total + (ws.map fun w => w.2.ks).foldl (fun (a b : Nat) => a + b) 0 ∧
    (ws.foldl (fun s w => s.addW w.1 w.2) s).beg = s.beg ++ freshOf ws
  | [], s, h1, h2, h3 => by simp [h1, h2, h3, freshOf]
  | w :: r, s, h1, h2, h3 => by
    have ih := addW_facts r (s.addW w.1 w.2) rfl h2 h3
    rw [List.foldl_cons]
    refine ⟨ih.1, ih.2.1, ih.2.2.1, ?_, ?_, ?_, ?_, ?_⟩
    · rw [ih.2.2.2.1]
      simp [R.addW]
    · rw [ih.2.2.2.2.1]
      simp [R.addW, R.push]
      omega
    · rw [ih.2.2.2.2.2.1]
      have : ∀ (l : List Nat) (k : Nat), l.foldl (fun (a b : Nat) => a + b) k = k + l.foldl (fun (a b : Nat) => a + b) 0 := by
        intro l
        induction l with
        | nil => simp
        | cons x l ih => intro k; rw [List.foldl_cons, ih, List.foldl_cons, ih (0 + x)]; omega
      rw [List.map_cons, List.foldl_cons, this _ (0 + w.2.parts)]
      simp [R.addW, R.push, comp_length]
      omega
    · rw [ih.2.2.2.2.2.2.1]
      have : ∀ (l : List Nat) (k : Nat), l.foldl (fun (a b : Nat) => a + b) k = k + l.foldl (fun (a b : Nat) => a + b) 0 := by
        intro l
        induction l with
        | nil => simp
        | cons x l ih => intro k; rw [List.foldl_cons, ih, List.foldl_cons, ih (0 + x)]; omega
      rw [List.map_cons, List.foldl_cons, this _ (0 + w.2.ks)]
      simp [R.addW, R.push]
      omega
    · rw [ih.2.2.2.2.2.2.2]
      simp [R.addW, R.push, freshOf]
structure SOf (ws : Watches) : Prop where
  exp : (stateOf ws).exp = .watch
  pend : (stateOf ws).pend = []
  depth : (stateOf ws).depth = 0
  known : (stateOf ws).known = ws.map Prod.fst
  wlen : (stateOf ws).watches.length = ws.length
  plen : (stateOf ws).parts.length = (ws.map fun w => w.2.parts).foldl (fun (a b : Nat) => a + b) 0
  tot : (stateOf ws).total = (ws.map fun w => w.2.ks).foldl (fun (a b : Nat) => a + b) 0
  beg : (stateOf ws).beg = freshOf ws
theorem sOf (ws : Watches) : SOf ws := by
  have h := addW_facts ws R.new rfl rfl rfl
  refine ⟨h.1, h.2.1, h.2.2.1, ?_, ?_, ?_, ?_, ?_⟩
  · exact h.2.2.2.1
  · exact h.2.2.2.2.1.trans (Nat.zero_add _)
  · exact h.2.2.2.2.2.1.trans (Nat.zero_add _)
  · exact h.2.2.2.2.2.2.1.trans (Nat.zero_add _)
  · exact h.2.2.2.2.2.2.2

def six (s : R) : Except Fault R := if 256 < s.parts.length ∨ 1024 < s.total then .error ⟨6, 0⟩ else .ok s

/-- sign ";" behind a watch's rule -/
theorem semi_ag {s : R} {a : F} {l : List Tok} {Y : Except Fault R} (g : AllGood l) (hp : s.pend = []) (ha : After Y (s.push a) l)
    (h3 : nextIs "and" l = false) (h2 : nextIs "or" l = false) (h1 : nextIs "implies" l = false) :
    Ag (sign ";" l) Y (fun _ r => Y = run { s.push a with watches := s.watches ++ [((s.push a).parts.length : Int) - 1], exp := .watch } r ∧ r.length < l.length ∧ AllGood r) := by
  by_cases hs : nextIs "since" l = true
  · obtain ⟨t, r', e, y⟩ := ha.1 hs
    subst e
    rw [nextIs_cons] at hs
    have k0 := (isWord_iff.mp hs).1
    unfold sign due
    simp only [k0]
    rw [if_neg (by decide)]
    by_cases hg : t.glued = true
    · rw [if_pos hg]
      exact y
    · rw [if_neg hg]
      show Ag (if isSign ";" t = true then _ else _) Y _
      rw [word_no_sign hs, if_neg (by decide)]
      exact y
  · have hs' : nextIs "since" l = false := Bool.not_eq_true _ ▸ hs
    have y := ha.2 hs'
    refine Ag.eq ?_ y
    unfold sign
    refine (due_ag (s := s.push a) g (fun e => by cases e)).bind fun t r d => ?_
    have hid : (s.push a).settle 0 = s.push a := settle_id (by intro p st e; rw [show (s.push a).pend = s.pend from rfl, hp] at e; cases e)
    have htop : (s.push a).top = none := by unfold R.top; rw [show (s.push a).pend = s.pend from rfl, hp]; rfl
    show Ag (if isSign ";" t = true then _ else _) _ _
    by_cases c : isSign ";" t = true
    · rw [if_pos c]
      refine ⟨y.trans (run_due0 d ?_), by have := d.len; omega, d.rest⟩
      have e1 : (s.push a).take t.text = (s.push a).takeJoint t.text := rfl
      rw [e1, (isSign_iff.mp c).2, R.takeJoint, if_neg (by decide), if_pos rfl, hid, R.endWatch, htop, if_neg (by decide)]
      rfl
    · rw [if_neg c]
      exact joint_bad d rfl ⟨fun _ => hs', fun _ => h3, fun _ => h2, fun _ => h1⟩ (Or.inr ⟨hid, by rw [htop]; decide⟩) (Or.inl (Bool.not_eq_true _ ▸ c))

theorem colon_ag {s : R} {l : List Tok} (g : AllGood l) (he : s.exp = .colon) :
    Ag (sign ":" l) (run s l) (fun _ r => run s l = run { s with exp := .operand } r ∧ r.length < l.length ∧ AllGood r) := by
  unfold sign
  refine (due_ag g (fun e => by rw [he] at e; cases e)).bind fun t r d => ?_
  have e1 : s.take t.text = s.takeColon t.text := by unfold R.take; rw [he]
  show Ag (if isSign ":" t = true then _ else _) _ _
  by_cases c : isSign ":" t = true
  · rw [if_pos c]
    refine ⟨run_due0 d ?_, by have := d.len; omega, d.rest⟩
    rw [e1, R.takeColon, if_neg (by rw [(isSign_iff.mp c).2]; exact fun z => z rfl)]
  · rw [if_neg c]
    refine run_dueF d ?_ (by decide)
    rw [e1, R.takeColon, if_pos (fun z => c (sign_of d.good d.k5 d.k6 rfl rfl z))]

theorem any_fst : ∀ (ws : Watches) (x : Bytes), (ws.map Prod.fst).contains x = ws.any fun (w : Bytes × F) => w.1 == x
  | [], _ => rfl
  | w :: r, x => by
    rw [List.map_cons, List.contains_cons, List.any_cons, any_fst r x]
    have : (x == w.1) = (w.1 == x) := by
      rw [Bool.eq_iff_iff]
      simp only [beq_iff_eq]
      exact ⟨Eq.symm, Eq.symm⟩
    rw [this]
/-- a parse of the watches agrees with the run -/
theorem watches_run (f : Nat) : ∀ (k : Nat) (ws : Watches) (l : List Tok), AllGood l → (ws ≠ [] → ended l = false) → ws.length ≤ 16 → l.length < k → 5 * l.length + 5 ≤ f →
    match watchesP f k ws l with
    | .error e => run (stateOf ws) l = .error e
    | .ok ws' => run (stateOf ws) l = six (stateOf ws')
  | 0, _, _, _, _, _, h, _ => by omega
  | k + 1, ws, l, g, hw, h16, hk, hf => by
    have S := sOf ws
    rw [watchesP]
    have hd := due_ag (s := stateOf ws) g (fun _ hn => hw (fun e => hn (by subst e; rfl)))
    cases e : due l with
    | error x =>
      rw [e] at hd
      exact hd
    | ok tr =>
      obtain ⟨t, r⟩ := tr
      rw [e] at hd
      have d : Due (stateOf ws) l t r := hd
      have hl := d.len
      have e1 : (stateOf ws).take t.text = (stateOf ws).takeWatch t.text := by unfold R.take; rw [S.exp]
      show (match (if _ then _ else _ : Except Fault Watches) with | .error e => _ | .ok ws' => _)
      have nm : isName t.text = true ↔ ¬ (t.kind ≠ 0 ∨ words.contains t.text = true) := by
        unfold isName
        constructor
        · intro z
          rw [Bool.and_eq_true] at z
          have := text_word d.good d.k5 d.k6 z.1
          simp at z
          simp [this, z.2]
        · intro z
          have k0 : t.kind = 0 := Classical.byContradiction fun h => z (Or.inl h)
          have c0 : words.contains t.text = false := Bool.not_eq_true _ ▸ fun h => z (Or.inr h)
          rw [d.good.word k0, c0]
          rfl
      by_cases c1 : t.kind ≠ 0 ∨ words.contains t.text = true
      · rw [if_pos c1]
        refine run_dueF d ?_ (by decide)
        rw [e1, R.takeWatch, if_pos (by rw [← Bool.not_eq_true]; exact fun z => nm.mp z c1)]
      · rw [if_neg c1]
        have hn := nm.mpr c1
        have hc : ((stateOf ws).known.contains t.text = true ∨ (stateOf ws).watches.length = 16) ↔ ((ws.any fun (w : Bytes × F) => w.1 == t.text) = true ∨ WATCHES ≤ ws.length) := by
          rw [S.known, S.wlen]
          have : (ws.map Prod.fst).contains t.text = ws.any fun (w : Bytes × F) => w.1 == t.text := by
            exact any_fst ws t.text
          rw [this]
          unfold WATCHES
          constructor
          · rintro (h | h)
            · exact Or.inl h
            · exact Or.inr (by omega)
          · rintro (h | h)
            · exact Or.inl h
            · exact Or.inr (by omega)
        by_cases c2 : (ws.any fun (w : Bytes × F) => w.1 == t.text) = true ∨ WATCHES ≤ ws.length
        · rw [if_pos c2]
          refine run_dueF d ?_ (by decide)
          rw [e1, R.takeWatch, if_neg (by rw [hn]; decide), if_pos (hc.mpr c2)]
        · rw [if_neg c2]
          have e2 : run (stateOf ws) l = run { stateOf ws with known := (stateOf ws).known ++ [t.text], exp := .colon } r :=
            run_due0 d (by rw [e1, R.takeWatch, if_neg (by rw [hn]; decide), if_neg (fun z => c2 (hc.mp z))])
          have e3 := (colon_ag (s := { stateOf ws with known := (stateOf ws).known ++ [t.text], exp := .colon }) d.rest rfl).eq e2
          cases x3 : sign ":" r with
          | error y =>
            rw [x3] at e3
            exact e3
          | ok tr =>
            obtain ⟨t3, r3⟩ := tr
            rw [x3] at e3
            obtain ⟨q3, l3, g3⟩ := e3
            have q3' := e2.trans q3
            have e4 := ((all f).F 0 r3 { stateOf ws with known := (stateOf ws).known ++ [t.text], exp := .operand } (Or.inl rfl) S.depth (by omega) g3 (by intro p st z; rw [show ({ stateOf ws with known := (stateOf ws).known ++ [t.text], exp := .operand } : R).pend = (stateOf ws).pend from rfl, S.pend] at z; cases z) (by omega)).eq q3'
            show (match (fP f 0 r3 >>= _ : Except Fault Watches) with | .error e => _ | .ok ws' => _)
            cases x4 : fP f 0 r3 with
            | error y =>
              rw [x4] at e4
              exact e4
            | ok ar =>
              obtain ⟨a, r4⟩ := ar
              rw [x4] at e4
              obtain ⟨q4, p4, n1, n2, n3⟩ := e4
              rw [← q3'] at q4
              have e5 := semi_ag (s := { stateOf ws with known := (stateOf ws).known ++ [t.text], exp := .operand }) p4.good S.pend q4 n1 n2 n3
              show (match (sign ";" r4 >>= _ : Except Fault Watches) with | .error e => _ | .ok ws' => _)
              cases x5 : sign ";" r4 with
              | error y =>
                rw [x5] at e5
                exact e5
              | ok tr =>
                obtain ⟨t5, r5⟩ := tr
                rw [x5] at e5
                obtain ⟨q5, l5, g5⟩ := e5
                have e6 : run (stateOf ws) l = run (stateOf (ws ++ [(t.text, a)])) r5 := by
                  rw [q5, stateOf_snoc]
                  rfl
                show (match (if ended r5 = true then _ else _ : Except Fault Watches) with | .error e => _ | .ok ws' => _)
                by_cases c6 : ended r5 = true
                · rw [if_pos c6]
                  show run (stateOf ws) l = six _
                  rw [e6]
                  have S2 := sOf (ws ++ [(t.text, a)])
                  cases r5 with
                  | nil => exact (g5.2 : False).elim
                  | cons t6 r6 =>
                    have k5 : t6.kind = 5 := by simpa [ended] using c6
                    have hne : (stateOf (ws ++ [(t.text, a)])).watches ≠ [] := by
                      intro z
                      have := S2.wlen
                      rw [z] at this
                      simp at this
                    rw [run, if_neg (by rw [k5]; decide), if_pos k5, R.finish, if_pos ⟨S2.exp, hne⟩, six]
                · rw [if_neg c6]
                  have ih := watches_run f k (ws ++ [(t.text, a)]) r5 g5 (fun _ => Bool.not_eq_true _ ▸ c6) (by
                    have : ¬ 16 ≤ ws.length := fun z => c2 (Or.inr z)
                    simp; omega) (by have := p4.len; omega) (by have := p4.len; omega)
                  show (match watchesP f k (ws ++ [(t.text, a)]) r5 with | .error e => _ | .ok ws' => _)
                  rw [e6]
                  exact ih
end Pm

namespace Pm
open Pw

/-! ## Tokens are well made -/
theorem takeWhile_all {p : UInt8 → Bool} : ∀ (l : Bytes), ∀ x ∈ l.takeWhile p, p x = true
  | [], x, h => by cases h
  | c :: r, x, h => by
    rw [List.takeWhile_cons] at h
    split at h
    · rcases List.mem_cons.mp h with e | e
      · subst e
        assumption
      · exact takeWhile_all r x e
    · cases h
theorem good_cons {t : Tok} {r : List Tok} (h : Good t) (g : AllGood r) : AllGood (t :: r) := by
  refine ⟨fun x hx => ?_, ?_⟩
  · rcases List.mem_cons.mp hx with e | e
    · exact e ▸ h
    · exact g.1 x e
  · unfold Ends
    rw [if_neg (by intro z; have := g.2; rw [z] at this; exact this)]
    exact g.2
theorem good_one {t : Tok} (h : Good t) (k : t.kind = 5 ∨ t.kind = 6) : AllGood [t] := by
  refine ⟨fun x hx => ?_, ?_⟩
  · rw [List.mem_singleton.mp hx]
    exact h
  · unfold Ends
    rw [if_pos rfl]
    exact k
theorem good6 (p : Nat) (x : Fault) : AllGood [⟨6, p, [], 0, false, x⟩] :=
  good_one ⟨by simp, by simp, by simp, by simp, by simp, by simp⟩ (Or.inr rfl)
theorem tokens_good : ∀ (f : Nat) (word : Bool) (p : Nat) (b : Bytes), AllGood (tokensFrom f word p b)
  | 0, _, p, _ => good6 p _
  | f + 1, word, p, b => by
    cases b with
    | nil => exact good_one ⟨by simp, by simp, by simp, by simp, by simp, by simp⟩ (Or.inl rfl)
    | cons c r =>
      rw [tokensFrom]
      split
      · exact tokens_good f false (p + 1) r
      · split
        · rename_i hs
          dsimp only
          split
          · exact good6 p _
          · refine good_cons ⟨fun _ => ?_, by simp, by simp, by simp, fun _ => takeWhile_all _, by simp⟩ (tokens_good f _ _ _)
            show headSmall ((c :: r).takeWhile inName) = true
            rw [List.takeWhile_cons, if_pos (by simp [inName, hs])]
            exact hs
        · split
          · rename_i hs
            dsimp only
            split
            · exact good6 p _
            · rename_i hz
              refine good_cons ⟨by simp, fun _ => ⟨?_, rfl, takeWhile_all _, ?_⟩, by simp, by simp, by simp, by simp⟩ (tokens_good f _ _ _)
              · show headDigit ((c :: r).takeWhile isDigit) = true
                rw [List.takeWhile_cons, if_pos hs]
                exact hs
              · show ((c :: r).takeWhile isDigit).head? = some 48 → ((c :: r).takeWhile isDigit).length = 1
                intro h
                have hc : c = 48 := by
                  rw [List.takeWhile_cons, if_pos hs] at h
                  simpa using h
                have hl : 0 < ((c :: r).takeWhile isDigit).length := by
                  rw [List.takeWhile_cons, if_pos hs]
                  simp
                have : ¬ 1 < ((c :: r).takeWhile isDigit).length := fun z => hz ⟨hc, z⟩
                omega
          · split
            · rename_i hs
              exact good_cons ⟨by simp, by simp, fun _ => ⟨c, rfl, hs⟩, by simp, by simp, by simp⟩ (tokens_good f _ _ _)
            · exact good6 p _

/-- **the machine over the tokens gives what the specification reads** -/
theorem read_run (b : Bytes) : run R.new (tokens b) = match Pw.read b with
    | .error e => .error e
    | .ok ws => .ok (stateOf ws) := by
  have h := watches_run (12 * ((tokens b).length + 4)) ((tokens b).length + 2) [] (tokens b) (tokens_good _ _ _ _) (fun z => absurd rfl z) (by simp) (by omega) (by omega)
  unfold Pw.read
  cases e : watchesP (12 * ((tokens b).length + 4)) ((tokens b).length + 2) [] (tokens b) with
  | error x =>
    rw [e] at h
    simp only [e]
    exact h
  | ok ws =>
    rw [e] at h
    simp only [e]
    refine Eq.trans h ?_
    have S := sOf ws
    unfold six
    rw [S.plen, S.tot]
    show _ = match (if _ then _ else _ : Except Fault Watches) with | .error e => _ | .ok ws => _
    rw [List.map_map, List.map_map]
    show (if 256 < (ws.map fun w => w.2.parts).foldl (fun (a b : Nat) => a + b) 0 ∨ 1024 < (ws.map fun w => w.2.ks).foldl (fun (a b : Nat) => a + b) 0 then _ else _) = match (if 256 < (ws.map fun w => w.2.parts).foldl (fun (a b : Nat) => a + b) 0 ∨ 1024 < (ws.map fun w => w.2.ks).foldl (fun (a b : Nat) => a + b) 0 then (.error ⟨6, 0⟩) else (.ok ws) : Except Fault Watches) with | .error e => _ | .ok ws => _
    split <;> rfl

/-! ## The loop over the text's bytes -/
def isBlank (c : UInt8) : Bool := c == 32 || c == 10
def isSgn (c : UInt8) : Bool := (ascii "():;").contains c
def skipB (bs : Bytes) (p : Nat) : Nat := p + ((bs.drop p).takeWhile isBlank).length
def endT (bs : Bytes) (p : Nat) : Nat := match bs.drop p with
  | [] => p
  | c :: r => if isSmall c = true then p + ((c :: r).takeWhile inName).length else if isDigit c = true then p + ((c :: r).takeWhile isDigit).length
    else if isSgn c = true then p + 1 else p
def faultT (bs : Bytes) (s : R) (p e : Nat) : Except Fault R :=
  if e = p then .error ⟨2, p⟩
  else if bs.getD p 0 = 48 ∧ p + 1 < e then .error ⟨2, p + 1⟩
  else if isSmall (bs.getD p 0) = true ∧ 64 < e - p then .error ⟨4, p⟩
  else if isSmall (bs.getD p 0) = true ∧ 0 < p ∧ isDigit (bs.getD (p - 1) 0) = true then .error ⟨3, p⟩
  else if (s.take ((bs.drop p).take (e - p))).1 = 0 then .ok (s.take ((bs.drop p).take (e - p))).2 else .error ⟨(s.take ((bs.drop p).take (e - p))).1, p⟩
def loopM (bs : Bytes) : Nat → Nat → R → Except Fault R
  | 0, _, _ => .error ⟨1, 0⟩
  | k + 1, p, s => if p < bs.length then
      match faultT bs s p (endT bs p) with
      | .error e => .error e
      | .ok s' => loopM bs k (skipB bs (endT bs p)) s'
    else s.finish bs.length

def Glue (bs : Bytes) (word : Bool) (p : Nat) : Prop := ∀ c r, bs.drop p = c :: r →
  (isSmall c = true → word = (decide (0 < p) && isDigit (bs.getD (p - 1) 0))) ∧ (isDigit c = true → word = false)
theorem drop_get {bs : Bytes} {p : Nat} {c : UInt8} {r : Bytes} (h : bs.drop p = c :: r) : bs.getD p 0 = c ∧ p < bs.length ∧ bs.drop (p + 1) = r := by
  have hp : p < bs.length := by
    apply Classical.byContradiction
    intro z
    rw [List.drop_eq_nil_of_le (by omega)] at h
    cases h
  rw [List.drop_eq_getElem_cons hp] at h
  injection h with h1 h2
  exact ⟨by simp [List.getD, hp, h1], hp, h2⟩
theorem Glue.behind {bs : Bytes} {p : Nat} {c : UInt8} {r : Bytes} (h : bs.drop p = c :: r) (hc : isDigit c = false) : Glue bs false (p + 1) := by
  intro c' r' _
  refine ⟨fun _ => ?_, fun _ => rfl⟩
  have := (drop_get h).1
  rw [Nat.add_sub_cancel, this, hc, Bool.and_false]
theorem takeWhile_drop {q : UInt8 → Bool} : ∀ (l : Bytes) (c : UInt8) (r : Bytes), l.drop (l.takeWhile q).length = c :: r → q c = false
  | [], c, r, h => by cases h
  | x :: l, c, r, h => by
    rw [List.takeWhile_cons] at h
    split at h
    · exact takeWhile_drop l c r (by simpa using h)
    · simp at h
      rw [← h.1, ← Bool.not_eq_true]
      assumption
theorem takeWhile_take {q : UInt8 → Bool} : ∀ (l : Bytes), l.take (l.takeWhile q).length = l.takeWhile q
  | [] => rfl
  | x :: l => by
    rw [List.takeWhile_cons]
    split
    · simp [takeWhile_take l]
    · rfl
theorem skip_blank {bs : Bytes} {p : Nat} {c : UInt8} {r : Bytes} (h : bs.drop p = c :: r) (hb : isBlank c = true) : skipB bs p = skipB bs (p + 1) := by
  unfold skipB
  rw [h, (drop_get h).2.2, List.takeWhile_cons, if_pos hb]
  simp
  omega
theorem skip_none {bs : Bytes} {p : Nat} {c : UInt8} {r : Bytes} (h : bs.drop p = c :: r) (hb : isBlank c = false) : skipB bs p = p := by
  unfold skipB
  rw [h, List.takeWhile_cons, if_neg (by rw [hb]; decide)]
  rfl
theorem skip_end {bs : Bytes} {p : Nat} (h : bs.drop p = []) : skipB bs p = p := by
  unfold skipB
  rw [h]
  rfl
theorem last_digit (bs : Bytes) (p : Nat) (c : UInt8) (r : Bytes) (h : bs.drop p = c :: r) (hd : isDigit c = true) :
    isDigit (bs.getD (p + ((c :: r).takeWhile isDigit).length - 1) 0) = true ∧ 0 < ((c :: r).takeWhile isDigit).length := by
  have hl : 0 < ((c :: r).takeWhile isDigit).length := by
    rw [List.takeWhile_cons, if_pos hd]
    simp
  refine ⟨?_, hl⟩
  have e1 : ((c :: r).takeWhile isDigit) = (bs.drop p).take ((c :: r).takeWhile isDigit).length := by rw [h, takeWhile_take]
  have hlen : ((c :: r).takeWhile isDigit).length ≤ (bs.drop p).length := by
    have := congrArg List.length e1
    rw [List.length_take] at this
    omega
  have hi : ((c :: r).takeWhile isDigit).length - 1 < ((c :: r).takeWhile isDigit).length := by omega
  have hm := takeWhile_all (p := isDigit) (c :: r) _ (List.getElem_mem hi)
  have e2 : ((c :: r).takeWhile isDigit)[((c :: r).takeWhile isDigit).length - 1] = bs.getD (p + ((c :: r).takeWhile isDigit).length - 1) 0 := by
    have e3 : ((c :: r).takeWhile isDigit)[((c :: r).takeWhile isDigit).length - 1]? = bs[p + ((c :: r).takeWhile isDigit).length - 1]? := by
      conv => lhs; rw [e1]
      rw [List.getElem?_take]
      rw [if_pos (by rw [← e1]; omega), List.getElem?_drop]
      congr 1
      rw [← e1]
      omega
    rw [List.getElem?_eq_getElem hi] at e3
    unfold List.getD
    rw [← e3]
    rfl
  rw [← e2]
  exact hm
end Pm

namespace Pm
open Pw

theorem isBlank_iff {c : UInt8} : isBlank c = true ↔ (c = 32 ∨ c = 10) := by simp [isBlank]
theorem small_not_digit {c : UInt8} (h : isSmall c = true) : isDigit c = false := by
  rw [← Bool.not_eq_true]
  intro z
  simp [isSmall, isDigit] at h z
  omega
theorem small_not48 {c : UInt8} (h : isSmall c = true) : c ≠ 48 := by
  intro z
  subst z
  cases h
theorem sgn_facts {c : UInt8} (h : isSgn c = true) : isSmall c = false ∧ isDigit c = false ∧ c ≠ 48 := by
  unfold isSgn at h
  have : ascii "():;" = [40, 41, 58, 59] := rfl
  rw [this] at h
  simp at h
  rcases h with rfl | rfl | rfl | rfl <;> exact ⟨rfl, rfl, by decide⟩

theorem tw_pos {q : UInt8 → Bool} {c : UInt8} {r : Bytes} (h : q c = true) : 0 < ((c :: r).takeWhile q).length := by
  rw [List.takeWhile_cons, if_pos h]
  simp
theorem tw_le {q : UInt8 → Bool} (l : Bytes) : (l.takeWhile q).length ≤ l.length := by
  have := congrArg List.length (takeWhile_take (q := q) l)
  rw [List.length_take] at this
  omega

theorem loop_run (bs : Bytes) : ∀ (f k : Nat) (word : Bool) (p : Nat) (s : R), Glue bs word p → p ≤ bs.length → bs.length - p < f → bs.length - p < k →
    run s (tokensFrom f word p (bs.drop p)) = loopM bs k (skipB bs p) s
  | 0, _, _, _, _, _, _, h, _ => by omega
  | f + 1, 0, _, _, _, _, _, _, h => by omega
  | f + 1, k + 1, word, p, s, hG, hp, hf, hk => by
    cases e : bs.drop p with
    | nil =>
      have hpl : bs.length ≤ p := by
        apply Classical.byContradiction
        intro z
        have := congrArg List.length e
        rw [List.length_drop] at this
        simp at this
        omega
      have : p = bs.length := by omega
      subst this
      rw [skip_end e, tokensFrom, loopM, if_neg (by omega)]
      rfl
    | cons c r =>
      obtain ⟨hc, hpl, hr⟩ := drop_get e
      rw [tokensFrom]
      by_cases hb : c = 32 ∨ c = 10
      · rw [if_pos hb]
        have hb' := isBlank_iff.mpr hb
        rw [skip_blank e hb', ← hr]
        have hcd : isDigit c = false := by rcases hb with rfl | rfl <;> rfl
        exact loop_run bs f (k + 1) false (p + 1) s (Glue.behind e hcd) (by omega) (by omega) (by omega)
      · rw [if_neg hb]
        have hb' : isBlank c = false := by rw [← Bool.not_eq_true, isBlank_iff]; exact hb
        rw [skip_none e hb', loopM, if_pos hpl]
        have hlr : (bs.drop p).length = bs.length - p := List.length_drop ..
        rw [e] at hlr
        have ed : ∀ n, (c :: r).drop n = bs.drop (p + n) := fun n => by rw [← e, List.drop_drop]
        by_cases hs : isSmall c = true
        · rw [if_pos hs]
          dsimp only
          have hin : inName c = true := by simp [inName, hs]
          have he : endT bs p = p + ((c :: r).takeWhile inName).length := by unfold endT; rw [e]; simp only [hs, if_true]
          have hpos := tw_pos (r := r) hin
          have hle := tw_le (q := inName) (c :: r)
          rw [he]
          unfold faultT
          rw [if_neg (show ¬ p + ((c :: r).takeWhile inName).length = p by omega), hc, if_neg (show ¬ (c = 48 ∧ p + 1 < p + ((c :: r).takeWhile inName).length) from fun z => small_not48 hs z.1)]
          by_cases hw : WORD < ((c :: r).takeWhile inName).length
          · rw [if_pos hw, if_pos ⟨hs, by rw [Nat.add_sub_cancel_left]; exact hw⟩]
            simp [run]
          · rw [if_neg hw, if_neg (fun z => hw (by have := z.2; rw [Nat.add_sub_cancel_left] at this; exact this))]
            have hgl := ((hG c r e).1 hs)
            by_cases hg : 0 < p ∧ isDigit (bs.getD (p - 1) 0) = true
            · have : word = true := by rw [hgl, hg.2]; simp [hg.1]
              rw [if_pos ⟨hs, hg⟩, this]
              simp [run]
            · have : word = false := by
                rw [hgl, ← Bool.not_eq_true]
                intro z
                simp at z
                exact hg ⟨z.1, z.2⟩
              rw [if_neg (fun z => hg z.2), this, run_step (by simp) (by simp) (by simp), stepT]
              simp only [Nat.add_sub_cancel_left, e, takeWhile_take]
              by_cases hz : (s.take ((c :: r).takeWhile inName)).1 = 0
              · simp only [hz, if_true]
                rw [ed]
                refine loop_run bs f k true _ _ ?_ (by omega) (by omega) (by omega)
                intro c' r' e'
                have : inName c' = false := takeWhile_drop (c :: r) c' r' (by rw [ed]; exact e')
                simp [inName] at this
                exact ⟨fun z => (by rw [this.1] at z; cases z), fun z => (by rw [this.2.1] at z; cases z)⟩
              · simp only [hz, if_false]
        · rw [if_neg hs]
          by_cases hd : isDigit c = true
          · rw [if_pos hd]
            dsimp only
            have he : endT bs p = p + ((c :: r).takeWhile isDigit).length := by unfold endT; rw [e]; simp only [hs, hd, if_true]; rfl
            have hpos := tw_pos (r := r) hd
            have hle := tw_le (q := isDigit) (c :: r)
            rw [he]
            unfold faultT
            rw [if_neg (show ¬ p + ((c :: r).takeWhile isDigit).length = p by omega), hc]
            by_cases hz : c = 48 ∧ 1 < ((c :: r).takeWhile isDigit).length
            · rw [if_pos hz, if_pos ⟨hz.1, by omega⟩]
              simp [run]
            · rw [if_neg hz, if_neg (fun z => hz ⟨z.1, by omega⟩), if_neg (fun z => hs z.1), if_neg (fun z => hs z.1)]
              have : word = false := (hG c r e).2 hd
              rw [this, run_step (by simp) (by simp) (by simp), stepT]
              simp only [Nat.add_sub_cancel_left, e, takeWhile_take]
              by_cases hz : (s.take ((c :: r).takeWhile isDigit)).1 = 0
              · simp only [hz, if_true]
                rw [ed]
                refine loop_run bs f k true _ _ ?_ (by omega) (by omega) (by omega)
                intro c' r' e'
                have hq : isDigit c' = false := takeWhile_drop (c :: r) c' r' (by rw [ed]; exact e')
                refine ⟨fun _ => ?_, fun z => by rw [hq] at z; cases z⟩
                have := last_digit bs p c r e hd
                rw [this.1]
                simp
                omega
              · simp only [hz, if_false]
          · rw [if_neg hd]
            by_cases hg : (ascii "():;").contains c = true
            · rw [if_pos hg]
              have hg' : isSgn c = true := hg
              have F := sgn_facts hg'
              have he : endT bs p = p + 1 := by unfold endT; rw [e]; simp only [hs, hd, hg', if_true]; rfl
              rw [he]
              unfold faultT
              rw [if_neg (show ¬ p + 1 = p by omega), hc, if_neg (fun z => F.2.2 z.1), if_neg (fun z => hs z.1), if_neg (fun z => hs z.1), run_step (by simp) (by simp) (by simp), stepT]
              simp only [Nat.add_sub_cancel_left, e, List.take_succ_cons, List.take_zero]
              by_cases hz : (s.take [c]).1 = 0
              · simp only [hz, if_true]
                rw [← hr]
                exact loop_run bs f k false (p + 1) _ (Glue.behind e F.2.1) (by omega) (by omega) (by omega)
              · simp only [hz, if_false]
            · rw [if_neg hg]
              have he : endT bs p = p := by
                unfold endT
                rw [e]
                simp only [hs, hd]
                rw [if_neg (by decide), if_neg (by decide), if_neg (show ¬ isSgn c = true from hg)]
              rw [he]
              unfold faultT
              rw [if_pos rfl]
              simp [run]
/-- **the loop over the bytes gives what the specification reads** -/
theorem read_loop (bs : Bytes) : loopM bs (bs.length + 1) (skipB bs 0) R.new = match Pw.read bs with
    | .error e => .error e
    | .ok ws => .ok (stateOf ws) := by
  have h := loop_run bs (bs.length + 2) (bs.length + 1) false 0 R.new (fun c r _ => ⟨fun _ => by simp, fun _ => rfl⟩) (by omega) (by omega) (by omega)
  rw [List.drop_zero] at h
  exact h.symm.trans (read_run bs)
end Pm

namespace Pm
open Pw

/-! ## Members by kind -/
inductive MK where
  | at_ | was | times (k : Nat)
mutual
def kinds : F → List MK
  | .not_ f => kinds f
  | .once _ f => .at_ :: kinds f
  | .always _ f => .at_ :: kinds f
  | .before f => .was :: kinds f
  | .least k _ f => .times k :: kinds f
  | .since _ a b => kinds a ++ (.at_ :: kinds b)
  | .and_ l => kindsL l
  | .or_ l => kindsL l
  | .implies a b => kinds a ++ kinds b
  | .yes => []
  | .no => []
  | .name _ => []
def kindsL : Fs → List MK
  | .nil => []
  | .cons f r => kinds f ++ kindsL r
end
def Sorted : List Int → Prop
  | [] => True
  | x :: r => (∀ y ∈ r, x ≤ y) ∧ Sorted r
def fits1 (t : Int) : MK → Mem → Prop
  | .at_, .at_ _ => True
  | .was, .was _ => True
  | .times k, .times l => l.length ≤ k ∧ Sorted l ∧ ∀ u ∈ l, u ≤ t
  | _, _ => False
def FitL (t : Int) : List MK → List Mem → Prop
  | [], [] => True
  | k :: ks, m :: ms => fits1 t k m ∧ FitL t ks ms
  | _, _ => False
theorem FitL.len {t : Int} : ∀ {ks : List MK} {ms : List Mem}, FitL t ks ms → ms.length = ks.length
  | [], [], _ => rfl
  | k :: ks, m :: ms, h => by rw [List.length_cons, List.length_cons, FitL.len h.2]
  | [], m :: ms, h => h.elim
  | k :: ks, [], h => h.elim
theorem FitL.append {t : Int} : ∀ {k1 k2 : List MK} {m1 m2 : List Mem}, FitL t k1 m1 → FitL t k2 m2 → FitL t (k1 ++ k2) (m1 ++ m2)
  | [], _, [], _, _, h => h
  | k :: ks, _, m :: ms, _, h, h2 => ⟨h.1, FitL.append h.2 h2⟩
  | [], _, m :: ms, _, h, _ => h.elim
  | k :: ks, _, [], _, h, _ => h.elim
theorem FitL.split {t : Int} : ∀ {k1 k2 : List MK} {ms : List Mem}, FitL t (k1 ++ k2) ms → ∃ m1 m2, ms = m1 ++ m2 ∧ FitL t k1 m1 ∧ FitL t k2 m2
  | [], _, ms, h => ⟨[], ms, rfl, trivial, h⟩
  | k :: ks, k2, m :: ms, h => by
    obtain ⟨m1, m2, e, a, b⟩ := FitL.split (k1 := ks) h.2
    exact ⟨m :: m1, m2, by rw [e]; rfl, ⟨h.1, a⟩, b⟩
  | k :: ks, k2, [], h => (h : False).elim
theorem fits1.mono {t t' : Int} (h : t ≤ t') : ∀ {k : MK} {m : Mem}, fits1 t k m → fits1 t' k m
  | .at_, .at_ _, _ => trivial
  | .was, .was _, _ => trivial
  | .times k, .times l, ⟨a, b, c⟩ => ⟨a, b, fun u hu => Int.le_trans (c u hu) h⟩
  | .at_, .was _, z => z.elim
  | .at_, .times _, z => z.elim
  | .was, .at_ _, z => z.elim
  | .was, .times _, z => z.elim
  | .times _, .at_ _, z => z.elim
  | .times _, .was _, z => z.elim
theorem FitL.mono {t t' : Int} (h : t ≤ t') : ∀ {ks : List MK} {ms : List Mem}, FitL t ks ms → FitL t' ks ms
  | [], [], _ => trivial
  | k :: ks, m :: ms, z => ⟨z.1.mono h, FitL.mono h z.2⟩
  | [], m :: ms, z => z.elim
  | k :: ks, [], z => z.elim
mutual
theorem fresh_fit (t : Int) : ∀ f : F, FitL t (kinds f) f.fresh
  | .yes => trivial
  | .no => trivial
  | .name _ => trivial
  | .not_ f => fresh_fit t f
  | .once _ f => ⟨trivial, fresh_fit t f⟩
  | .always _ f => ⟨trivial, fresh_fit t f⟩
  | .before f => ⟨trivial, fresh_fit t f⟩
  | .least k _ f => ⟨⟨Nat.zero_le _, trivial, fun _ h => (nomatch h)⟩, fresh_fit t f⟩
  | .since _ a b => (fresh_fit t a).append (k2 := .at_ :: kinds b) (m2 := .at_ none :: b.fresh) ⟨trivial, fresh_fit t b⟩
  | .and_ l => fresh_fitL t l
  | .or_ l => fresh_fitL t l
  | .implies a b => (fresh_fit t a).append (fresh_fit t b)
theorem fresh_fitL (t : Int) : ∀ l : Fs, FitL t (kindsL l) l.fresh
  | .nil => trivial
  | .cons f r => (fresh_fit t f).append (fresh_fitL t r)
end
theorem kinds_len (f : F) : (kinds f).length = f.fresh.length := (fresh_fit 0 f).len.symm
theorem kindsL_len (l : Fs) : (kindsL l).length = l.fresh.length := (fresh_fitL 0 l).len.symm

/-! ## Rules with their Ks at least 1 -/
mutual
def OkF : F → Prop
  | .not_ f => OkF f
  | .once _ f => OkF f
  | .always _ f => OkF f
  | .before f => OkF f
  | .least k _ f => (1 ≤ k ∧ k ≤ 64) ∧ OkF f
  | .since _ a b => OkF a ∧ OkF b
  | .and_ l => OkFs l
  | .or_ l => OkFs l
  | .implies a b => OkF a ∧ OkF b
  | .yes => True
  | .no => True
  | .name n => ∀ c ∈ n, inName c = true
def OkFs : Fs → Prop
  | .nil => True
  | .cons f r => OkF f ∧ OkFs r
end

/-! ## The mirror of one entry -/
def atOf : Mem → Option Int
  | .at_ t => t
  | _ => none
def wasOf : Mem → Bool
  | .was b => b
  | _ => false
def timesOf : Mem → List Int
  | .times l => l
  | _ => []
def lastK (k : Nat) (l : List Int) : List Int := l.drop (l.length - k)
def byItself (here : List Bytes) (p : PM) (vals : List Bool) : Bool := match p.op with
  | .yes => true
  | .no => false
  | .name => here.contains p.name
  | .not_ => !vals.getD 0 false
  | .and_ => vals.all id
  | .or_ => vals.any id
  | _ => !vals.getD 0 false || vals.getD 1 false
def nextMem (now : Int) (p : PM) (vals : List Bool) (e : Mem) : Mem := match p.op with
  | .before => .was (vals.getLastD false)
  | .always => if vals.getLastD false = true then e else .at_ (some now)
  | .least => if vals.getLastD false = true then .times (lastK p.needed (timesOf e ++ [now])) else e
  | .since => if vals.getLastD false = true then .at_ (some now) else if vals.getD 0 false = true then e else .at_ none
  | _ => if vals.getLastD false = true then .at_ (some now) else e
def byMemory (now : Int) (p : PM) (e m : Mem) : Bool := match p.op with
  | .before => wasOf e
  | .least => decide ((timesOf m).length = p.needed) && Pw.within p.span now ((timesOf m).headD 0)
  | .always => !lately p.span now (atOf m)
  | _ => lately p.span now (atOf m)
def valsOf (hs : List Bool) (p : PM) : List Bool := p.ops.map fun o => hs.getD o.toNat false
def evalStep (here : List Bytes) (now : Int) (st : List Bool × List Mem) (p : PM) : List Bool × List Mem := match p.slot with
  | none => (st.1 ++ [byItself here p (valsOf st.1 p)], st.2)
  | some j => (st.1 ++ [byMemory now p (st.2.getD j (.at_ none)) (nextMem now p (valsOf st.1 p) (st.2.getD j (.at_ none)))],
      st.2.set j (nextMem now p (valsOf st.1 p) (st.2.getD j (.at_ none))))
def evalAll (here : List Bytes) (now : Int) (st : List Bool × List Mem) (ps : List PM) : List Bool × List Mem := ps.foldl (evalStep here now) st
theorem evalAll_append {here : List Bytes} {now : Int} {st : List Bool × List Mem} {a b : List PM} : evalAll here now st (a ++ b) = evalAll here now (evalAll here now st a) b := List.foldl_append ..

theorem sorted_append {now : Int} : ∀ {l : List Int}, Sorted l → (∀ u ∈ l, u ≤ now) → Sorted (l ++ [now])
  | [], _, _ => ⟨fun _ h => (nomatch h), trivial⟩
  | x :: r, h, k => by
    refine ⟨fun y hy => ?_, sorted_append h.2 fun u hu => k u (List.mem_cons_of_mem _ hu)⟩
    rcases List.mem_append.mp hy with z | z
    · exact h.1 y z
    · rw [List.mem_singleton.mp z]
      exact k x (List.mem_cons_self ..)
theorem sorted_drop : ∀ {l : List Int} (n : Nat), Sorted l → Sorted (l.drop n)
  | [], n, _ => by rw [List.drop_nil]; trivial
  | x :: r, 0, h => h
  | x :: r, n + 1, h => sorted_drop (l := r) n h.2
theorem lastK_len {k : Nat} {l : List Int} : (lastK k l).length ≤ k := by
  unfold lastK
  rw [List.length_drop]
  omega
theorem lastK_short {k : Nat} {l : List Int} (h : l.length ≤ k) : lastK k l = l := by
  unfold lastK
  rw [Nat.sub_eq_zero_of_le h]
  rfl
theorem filter_all {w : Option Nat} {now : Int} : ∀ {l : List Int} {x : Int}, Pw.within w now x = true → (∀ y ∈ l, x ≤ y) → l.filter (fun u => Pw.within w now u) = l
  | [], _, _, _ => rfl
  | y :: r, x, h, k => by
    have hy : Pw.within w now y = true := by
      have := k y (List.mem_cons_self ..)
      cases w with
      | none => rfl
      | some n =>
        simp [Pw.within] at h ⊢
        omega
    rw [List.filter_cons, if_pos hy, filter_all h fun z hz => k z (List.mem_cons_of_mem _ hz)]
/-- at least K of the last K lie within the window just if there are K and the oldest does -/
theorem least_iff {k : Nat} {w : Option Nat} {now : Int} {l : List Int} (hk : 1 ≤ k) (hl : l.length ≤ k) (hs : Sorted l) :
    decide (k ≤ (l.filter fun (u : Int) => Pw.within w now u).length) = (decide (l.length = k) && Pw.within w now (l.headD 0)) := by
  cases l with
  | nil =>
    have : ¬ k ≤ 0 := by omega
    have h2 : ¬ 0 = k := by omega
    simp [h2]
    omega
  | cons x r =>
    rw [List.headD_cons]
    by_cases hx : Pw.within w now x = true
    · have : (x :: r).filter (fun u => Pw.within w now u) = x :: r := by
        rw [List.filter_cons, if_pos hx, filter_all hx hs.1]
      rw [this, hx, Bool.and_true]
      by_cases e : (x :: r).length = k
      · simp [e]
      · simp [e]
        simp at hl e
        omega
    · rw [Bool.not_eq_true] at hx
      rw [hx, Bool.and_false, List.filter_cons, if_neg (by rw [hx]; decide)]
      have := List.length_filter_le (fun u => Pw.within w now u) r
      simp
      simp at hl
      omega
end Pm

namespace Pm
open Pw

theorem at_last {hs nv rest : List Bool} {n : Nat} {v : Bool} (hn : 0 < n) (hl : nv.length = n) (hv : nv[n - 1]? = some v) :
    (hs ++ nv ++ rest).getD ((((hs.length + n : Nat) : Int) - 1).toNat) false = v := by
  have e : (((hs.length + n : Nat) : Int) - 1).toNat = hs.length + (n - 1) := by omega
  rw [e, List.getD, List.append_assoc, List.getElem?_append_right (by omega), Nat.add_sub_cancel_left, List.getElem?_append_left (by omega), hv]
  rfl
structure Evl (here : List Bytes) (now : Int) (f : F) (hs : List Bool) (M1 own M2 : List Mem) (nv : List Bool) (x : List Mem) (v : Bool) : Prop where
  eq : evalAll here now (hs, M1 ++ (own ++ M2)) (comp f hs.length M1.length) = (hs ++ nv, M1 ++ (x ++ M2))
  len : nv.length = f.parts
  last : nv[f.parts - 1]? = some v
  step : F.step here now f (own ++ M2) = (v, x, M2)
  fit : FitL now (kinds f) x
structure EvlL (here : List Bytes) (now : Int) (l : Fs) (hs : List Bool) (M1 own M2 : List Mem) (nv : List Bool) (x : List Mem) (vs : List Bool) : Prop where
  eq : evalAll here now (hs, M1 ++ (own ++ M2)) (compL l hs.length M1.length) = (hs ++ nv, M1 ++ (x ++ M2))
  len : nv.length = l.parts
  vals : ∀ rest, (idxL l hs.length).map (fun o => (hs ++ nv ++ rest).getD o.toNat false) = vs
  all : Fs.stepAll here now l (own ++ M2) = (vs.all id, x, M2)
  some : Fs.stepSome here now l (own ++ M2) = (vs.any id, x, M2)
  fit : FitL now (kindsL l) x

/-- a leaf -/
theorem leaf {here : List Bytes} {now : Int} {f : F} {hs : List Bool} {M1 M2 : List Mem} {p : PM} {v : Bool} (hc : comp f hs.length M1.length = [p]) (hp : f.parts = 1) (hk : kinds f = [])
    (hsl : p.slot = none) (hv : byItself here p (valsOf hs p) = v) (hst : F.step here now f M2 = (v, [], M2)) : Evl here now f hs M1 [] M2 [v] [] v := by
  refine ⟨?_, hp.symm, by rw [hp]; rfl, hst, by rw [hk]; trivial⟩
  rw [hc]
  simp only [evalAll, List.foldl_cons, List.foldl_nil, evalStep, hsl, hv]
/-- a word ahead that keeps a member -/
theorem mem_un {here : List Bytes} {now : Int} {f g : F} {hs : List Bool} {M1 own M2 : List Mem} {m0 m1 : Mem} {p : PM} {nv x} {v u : Bool}
    (h : Evl here now f hs (M1 ++ [m0]) own M2 nv x v) (hc : comp g hs.length M1.length = comp f hs.length (M1.length + 1) ++ [p]) (hp : g.parts = f.parts + 1)
    (hsl : p.slot = some M1.length) (hops : p.ops = [((hs.length + f.parts : Nat) : Int) - 1]) (hm : nextMem now p [v] m0 = m1) (hb : byMemory now p m0 m1 = u)
    (hst : F.step here now g (m0 :: own ++ M2) = (u, m1 :: x, M2)) (hf : FitL now (kinds g) (m1 :: x)) : Evl here now g hs M1 (m0 :: own) M2 (nv ++ [u]) (m1 :: x) u := by
  refine ⟨?_, by rw [List.length_append, h.len, hp]; rfl, ?_, hst, hf⟩
  · have e := h.eq
    rw [List.length_append, List.append_assoc, List.append_assoc] at e
    rw [hc, evalAll_append]
    refine Eq.trans (congrArg (fun z => evalAll here now z [p]) e) ?_
    have hv : valsOf (hs ++ nv) p = [v] := by
      unfold valsOf
      rw [hops]
      have := at_last (hs := hs) (rest := []) (parts_pos f) h.len h.last
      rw [List.append_nil] at this
      rw [List.map_cons, List.map_nil, this]
    have hg : (M1 ++ (m0 :: (x ++ M2))).getD M1.length (.at_ none) = m0 := by
      rw [List.getD, List.getElem?_append_right (Nat.le_refl _), Nat.sub_self]
      rfl
    have hset : (M1 ++ (m0 :: (x ++ M2))).set M1.length m1 = M1 ++ (m1 :: (x ++ M2)) := by
      rw [List.set_append_right _ _ (Nat.le_refl _), Nat.sub_self]
      rfl
    simp only [evalAll, List.foldl_cons, List.foldl_nil, evalStep, hsl, hv]
    show (hs ++ nv ++ [byMemory now p ((M1 ++ (m0 :: (x ++ M2))).getD M1.length (.at_ none)) (nextMem now p [v] ((M1 ++ (m0 :: (x ++ M2))).getD M1.length (.at_ none)))], (M1 ++ (m0 :: (x ++ M2))).set M1.length (nextMem now p [v] ((M1 ++ (m0 :: (x ++ M2))).getD M1.length (.at_ none)))) = _
    rw [hg, hm, hb, hset, List.append_assoc]
    rfl
  · rw [hp, Nat.add_sub_cancel, List.getElem?_append_right (by rw [h.len]; exact Nat.le_refl _), h.len, Nat.sub_self]
    rfl

theorem evl_eq {here : List Bytes} {now : Int} {f : F} {hs hs' : List Bool} {M1 M1' own M2 : List Mem} {nv x v} (h : Evl here now f hs M1 own M2 nv x v) (e1 : hs' = hs) (e2 : M1' = M1) : Evl here now f hs' M1' own M2 nv x v := e1 ▸ e2 ▸ h

mutual
theorem eval_comp (here : List Bytes) (now : Int) : ∀ (f : F) (hs : List Bool) (M1 own M2 : List Mem), OkF f → FitL now (kinds f) own → ∃ nv x v, Evl here now f hs M1 own M2 nv x v
  | .yes, hs, M1, [], M2, _, _ => ⟨_, _, _, leaf rfl rfl rfl rfl rfl rfl⟩
  | .yes, hs, M1, _ :: _, M2, _, h => (h : False).elim
  | .no, hs, M1, [], M2, _, _ => ⟨_, _, _, leaf rfl rfl rfl rfl rfl rfl⟩
  | .no, hs, M1, _ :: _, M2, _, h => (h : False).elim
  | .name n, hs, M1, [], M2, _, _ => ⟨_, _, _, leaf rfl rfl rfl rfl rfl rfl⟩
  | .name n, hs, M1, _ :: _, M2, _, h => (h : False).elim
  | .not_ f, hs, M1, own, M2, ok, h => by
    obtain ⟨nv, x, v, e⟩ := eval_comp here now f hs M1 own M2 ok h
    refine ⟨nv ++ [!v], x, !v, ?_, ?_, ?_, ?_, e.fit⟩
    · rw [comp, evalAll_append, e.eq]
      have hv : valsOf (hs ++ nv) { op := .not_, ops := [((hs.length + f.parts : Nat) : Int) - 1] } = [v] := by
        have := at_last (hs := hs) (rest := []) (parts_pos f) e.len e.last
        rw [List.append_nil] at this
        simp only [valsOf, List.map_cons, List.map_nil, this]
      simp only [evalAll, List.foldl_cons, List.foldl_nil, evalStep, hv, List.append_assoc]
      rfl
    · rw [List.length_append, e.len]; rfl
    · rw [F.parts, Nat.add_sub_cancel, List.getElem?_append_right (by rw [e.len]; exact Nat.le_refl _), e.len, Nat.sub_self]; rfl
    · simp only [F.step, e.step]
  | .once w f, hs, M1, m0 :: own, M2, ok, h => by
    obtain ⟨nv, x, v, e⟩ := eval_comp here now f hs (M1 ++ [m0]) own M2 ok h.2
    obtain ⟨t, rfl⟩ : ∃ t, m0 = .at_ t := match m0, h.1 with | .at_ t, _ => ⟨t, rfl⟩
    refine ⟨_, _, _, mem_un (m1 := .at_ (if v = true then some now else t)) e rfl rfl rfl rfl ?_ rfl ?_ ⟨trivial, e.fit⟩⟩
    · cases v <;> rfl
    · simp only [F.step, List.cons_append, List.drop_succ_cons, List.drop_zero, e.step]
      rfl
  | .always w f, hs, M1, m0 :: own, M2, ok, h => by
    obtain ⟨nv, x, v, e⟩ := eval_comp here now f hs (M1 ++ [m0]) own M2 ok h.2
    obtain ⟨t, rfl⟩ : ∃ t, m0 = .at_ t := match m0, h.1 with | .at_ t, _ => ⟨t, rfl⟩
    refine ⟨_, _, _, mem_un (m1 := .at_ (if v = true then t else some now)) e rfl rfl rfl rfl ?_ rfl ?_ ⟨trivial, e.fit⟩⟩
    · cases v <;> rfl
    · simp only [F.step, List.cons_append, List.drop_succ_cons, List.drop_zero, e.step]
      rfl
  | .before f, hs, M1, m0 :: own, M2, ok, h => by
    obtain ⟨nv, x, v, e⟩ := eval_comp here now f hs (M1 ++ [m0]) own M2 ok h.2
    obtain ⟨t, rfl⟩ : ∃ t, m0 = .was t := match m0, h.1 with | .was t, _ => ⟨t, rfl⟩
    refine ⟨_, _, _, mem_un (m1 := .was v) e rfl rfl rfl rfl rfl rfl ?_ ⟨trivial, e.fit⟩⟩
    simp only [F.step, List.cons_append, List.drop_succ_cons, List.drop_zero, e.step]
    rfl
  | .least k w f, hs, M1, m0 :: own, M2, ok, h => by
    obtain ⟨nv, x, v, e⟩ := eval_comp here now f hs (M1 ++ [m0]) own M2 ok.2 h.2
    obtain ⟨l, rfl⟩ : ∃ t, m0 = .times t := match m0, h.1 with | .times t, _ => ⟨t, rfl⟩
    obtain ⟨hl, hso, hle⟩ : l.length ≤ k ∧ Sorted l ∧ ∀ u ∈ l, u ≤ now := h.1
    have e1 : (if v = true then l ++ [now] else l).drop ((if v = true then l ++ [now] else l).length - k) = if v = true then lastK k (l ++ [now]) else l := by
      cases v with
      | true => rfl
      | false => exact lastK_short hl
    have hf1 : fits1 now (.times k) (.times (if v = true then lastK k (l ++ [now]) else l)) := by
      cases v with
      | true =>
        refine ⟨lastK_len, sorted_drop _ (sorted_append hso hle), fun u hu => ?_⟩
        rcases List.mem_append.mp (List.mem_of_mem_drop hu) with z | z
        · exact hle u z
        · rw [List.mem_singleton.mp z]; exact Int.le_refl _
      | false => exact h.1
    refine ⟨_, _, _, mem_un (m1 := .times (if v = true then lastK k (l ++ [now]) else l)) e rfl rfl rfl rfl ?_ rfl ?_ ⟨hf1, e.fit⟩⟩
    · cases v <;> rfl
    · simp only [F.step, List.cons_append, List.drop_succ_cons, List.drop_zero, e.step]
      show (decide (k ≤ (List.filter (fun u => Pw.within w now u) ((if v = true then l ++ [now] else l).drop ((if v = true then l ++ [now] else l).length - k))).length), Mem.times ((if v = true then l ++ [now] else l).drop ((if v = true then l ++ [now] else l).length - k)) :: x, M2) = _
      rw [e1, least_iff ok.1.1 hf1.1 hf1.2.1]
      rfl
  | .once _ _, hs, M1, [], M2, _, h => (h : False).elim
  | .always _ _, hs, M1, [], M2, _, h => (h : False).elim
  | .before _, hs, M1, [], M2, _, h => (h : False).elim
  | .least _ _ _, hs, M1, [], M2, _, h => (h : False).elim
  | .since w a b, hs, M1, own, M2, ok, h => by
    obtain ⟨oa, ob, rfl, ha, hb⟩ := FitL.split (k1 := kinds a) (k2 := .at_ :: kinds b) h
    cases ob with
    | nil => exact (hb : False).elim
    | cons m0 ob =>
      obtain ⟨t, rfl⟩ : ∃ t, m0 = .at_ t := match m0, hb.1 with | .at_ t, _ => ⟨t, rfl⟩
      obtain ⟨nv, x, v, e⟩ := eval_comp here now a hs M1 oa (.at_ t :: (ob ++ M2)) ok.1 ha
      obtain ⟨nu, y, u, q⟩ := eval_comp here now b (hs ++ nv) (M1 ++ (x ++ [.at_ t])) ob M2 ok.2 hb.2
      have hxl : x.length = a.fresh.length := by rw [e.fit.len, kinds_len]
      have hst : F.step here now (.since w a b) ((oa ++ (.at_ t :: ob)) ++ M2) = (lately w now (if u = true then some now else if v = true then t else none), x ++ (.at_ (if u = true then some now else if v = true then t else none) :: y), M2) := by
        have h1 : a.step here now ((oa ++ (Mem.at_ t :: ob)) ++ M2) = (v, x, .at_ t :: (ob ++ M2)) := by
          rw [show (oa ++ (Mem.at_ t :: ob)) ++ M2 = oa ++ (.at_ t :: (ob ++ M2)) by simp, e.step]
        simp only [F.step, h1, List.drop_succ_cons, List.drop_zero, q.step]
        rfl
      refine ⟨nv ++ (nu ++ [lately w now (if u = true then some now else if v = true then t else none)]), _, _, ?_, ?_, ?_, hst, e.fit.append (k2 := .at_ :: kinds b) (m2 := _ :: y) ⟨trivial, q.fit⟩⟩
      · have e1 := e.eq
        have q1 := q.eq
        rw [show (hs ++ nv).length = hs.length + a.parts by rw [List.length_append, e.len], show (M1 ++ (x ++ [Mem.at_ t])).length = M1.length + a.fresh.length + 1 by simp [hxl]; omega] at q1
        rw [comp, evalAll_append, show M1 ++ ((oa ++ (Mem.at_ t :: ob)) ++ M2) = M1 ++ (oa ++ (.at_ t :: (ob ++ M2))) by simp, e1, evalAll_append]
        rw [show M1 ++ (x ++ (Mem.at_ t :: (ob ++ M2))) = (M1 ++ (x ++ [.at_ t])) ++ (ob ++ M2) by simp, q1]
        have hv : valsOf (hs ++ nv ++ nu) { op := .since, ops := [((hs.length + a.parts : Nat) : Int) - 1, ((hs.length + a.parts + b.parts : Nat) : Int) - 1], span := w, slot := some (M1.length + a.fresh.length) } = [v, u] := by
          have h1 := at_last (hs := hs) (rest := nu) (parts_pos a) e.len e.last
          have h2 := at_last (hs := hs ++ nv) (rest := []) (parts_pos b) q.len q.last
          rw [List.append_nil, List.length_append, e.len] at h2
          simp only [valsOf, List.map_cons, List.map_nil, h1, h2]
        have hg : ((M1 ++ (x ++ [Mem.at_ t])) ++ (y ++ M2)).getD (M1.length + a.fresh.length) (.at_ none) = .at_ t := by
          rw [show (M1 ++ (x ++ [Mem.at_ t])) ++ (y ++ M2) = (M1 ++ x) ++ (.at_ t :: (y ++ M2)) by simp, List.getD, List.getElem?_append_right (by simp [hxl])]
          simp [hxl]
        have hset : ∀ z, ((M1 ++ (x ++ [Mem.at_ t])) ++ (y ++ M2)).set (M1.length + a.fresh.length) z = M1 ++ ((x ++ (z :: y)) ++ M2) := by
          intro z
          rw [show (M1 ++ (x ++ [Mem.at_ t])) ++ (y ++ M2) = (M1 ++ x) ++ (.at_ t :: (y ++ M2)) by simp, List.set_append_right _ _ (by simp [hxl])]
          simp [hxl]
        simp only [evalAll, List.foldl_cons, List.foldl_nil, evalStep, hv, hg, hset]
        have hm : nextMem now { op := .since, ops := [((hs.length + a.parts : Nat) : Int) - 1, ((hs.length + a.parts + b.parts : Nat) : Int) - 1], span := w, slot := some (M1.length + a.fresh.length) } [v, u] (.at_ t) = .at_ (if u = true then some now else if v = true then t else none) := by
          cases u <;> cases v <;> rfl
        rw [hm]
        simp [byMemory, atOf]
      · simp [e.len, q.len, F.parts]; omega
      · rw [← List.append_assoc, F.parts, Nat.add_sub_cancel, List.getElem?_append_right (by simp [e.len, q.len])]
        simp [e.len, q.len]
  | .and_ l, hs, M1, own, M2, ok, h => by
    obtain ⟨nv, x, vs, e⟩ := eval_compL here now l hs M1 own M2 ok h
    refine ⟨nv ++ [vs.all id], x, vs.all id, ?_, ?_, ?_, ?_, e.fit⟩
    · rw [comp, evalAll_append, e.eq]
      have hv : valsOf (hs ++ nv) { op := .and_, ops := idxL l hs.length } = vs := by
        have := e.vals []
        rw [List.append_nil] at this
        exact this
      simp only [evalAll, List.foldl_cons, List.foldl_nil, evalStep, hv, List.append_assoc]
      rfl
    · rw [List.length_append, e.len]; rfl
    · rw [F.parts, Nat.add_sub_cancel, List.getElem?_append_right (by rw [e.len]; exact Nat.le_refl _), e.len, Nat.sub_self]; rfl
    · simp only [F.step, e.all]
  | .or_ l, hs, M1, own, M2, ok, h => by
    obtain ⟨nv, x, vs, e⟩ := eval_compL here now l hs M1 own M2 ok h
    refine ⟨nv ++ [vs.any id], x, vs.any id, ?_, ?_, ?_, ?_, e.fit⟩
    · rw [comp, evalAll_append, e.eq]
      have hv : valsOf (hs ++ nv) { op := .or_, ops := idxL l hs.length } = vs := by
        have := e.vals []
        rw [List.append_nil] at this
        exact this
      simp only [evalAll, List.foldl_cons, List.foldl_nil, evalStep, hv, List.append_assoc]
      rfl
    · rw [List.length_append, e.len]; rfl
    · rw [F.parts, Nat.add_sub_cancel, List.getElem?_append_right (by rw [e.len]; exact Nat.le_refl _), e.len, Nat.sub_self]; rfl
    · simp only [F.step, e.some]
  | .implies a b, hs, M1, own, M2, ok, h => by
    obtain ⟨oa, ob, rfl, ha, hb⟩ := FitL.split (k1 := kinds a) (k2 := kinds b) h
    obtain ⟨nv, x, v, e⟩ := eval_comp here now a hs M1 oa (ob ++ M2) ok.1 ha
    obtain ⟨nu, y, u, q⟩ := eval_comp here now b (hs ++ nv) (M1 ++ x) ob M2 ok.2 hb
    have hxl : x.length = a.fresh.length := by rw [e.fit.len, kinds_len]
    refine ⟨nv ++ (nu ++ [!v || u]), x ++ y, !v || u, ?_, ?_, ?_, ?_, e.fit.append q.fit⟩
    · have q1 := q.eq
      rw [show (hs ++ nv).length = hs.length + a.parts by rw [List.length_append, e.len], show (M1 ++ x).length = M1.length + a.fresh.length by simp [hxl]] at q1
      rw [comp, evalAll_append, List.append_assoc oa, e.eq, evalAll_append, ← List.append_assoc M1 x, q1]
      have hv : valsOf (hs ++ nv ++ nu) { op := .implies, ops := [((hs.length + a.parts : Nat) : Int) - 1, ((hs.length + a.parts + b.parts : Nat) : Int) - 1] } = [v, u] := by
        have h1 := at_last (hs := hs) (rest := nu) (parts_pos a) e.len e.last
        have h2 := at_last (hs := hs ++ nv) (rest := []) (parts_pos b) q.len q.last
        rw [List.append_nil, List.length_append, e.len] at h2
        simp only [valsOf, List.map_cons, List.map_nil, h1, h2]
      simp only [evalAll, List.foldl_cons, List.foldl_nil, evalStep, hv]
      simp [byItself]
    · simp [e.len, q.len, F.parts]; omega
    · rw [← List.append_assoc, F.parts, Nat.add_sub_cancel, List.getElem?_append_right (by simp [e.len, q.len])]
      simp [e.len, q.len]
    · simp only [F.step]
      rw [List.append_assoc, e.step]
      show (let (q, y, s) := b.step here now (ob ++ M2); _) = _
      rw [q.step]
theorem eval_compL (here : List Bytes) (now : Int) : ∀ (l : Fs) (hs : List Bool) (M1 own M2 : List Mem), OkFs l → FitL now (kindsL l) own → ∃ nv x vs, EvlL here now l hs M1 own M2 nv x vs
  | .nil, hs, M1, own, M2, _, h => by
    cases own with
    | cons m o => exact (h : False).elim
    | nil => exact ⟨[], [], [], by simp [compL, evalAll], rfl, fun _ => rfl, rfl, rfl, trivial⟩
  | .cons f r, hs, M1, own, M2, ok, h => by
    obtain ⟨oa, ob, rfl, ha, hb⟩ := FitL.split (k1 := kinds f) (k2 := kindsL r) h
    obtain ⟨nv, x, v, e⟩ := eval_comp here now f hs M1 oa (ob ++ M2) ok.1 ha
    obtain ⟨nu, y, us, q⟩ := eval_compL here now r (hs ++ nv) (M1 ++ x) ob M2 ok.2 hb
    have hxl : x.length = f.fresh.length := by rw [e.fit.len, kinds_len]
    refine ⟨nv ++ nu, x ++ y, v :: us, ?_, ?_, ?_, ?_, ?_, e.fit.append q.fit⟩
    · have q1 := q.eq
      rw [show (hs ++ nv).length = hs.length + f.parts by rw [List.length_append, e.len], show (M1 ++ x).length = M1.length + f.fresh.length by simp [hxl]] at q1
      rw [compL, evalAll_append, List.append_assoc oa, e.eq, ← List.append_assoc M1 x, q1]
      simp
    · rw [List.length_append, e.len, q.len]; rfl
    · intro rest
      have h1 := at_last (hs := hs) (rest := nu ++ rest) (parts_pos f) e.len e.last
      have h2 := q.vals rest
      rw [List.length_append, e.len] at h2
      rw [idxL, List.map_cons]
      rw [show hs ++ (nv ++ nu) ++ rest = hs ++ nv ++ (nu ++ rest) by simp, h1]
      rw [show hs ++ nv ++ (nu ++ rest) = hs ++ nv ++ nu ++ rest by simp, h2]
    · simp only [Fs.stepAll]
      rw [List.append_assoc, e.step]
      show (let (q, y, s) := r.stepAll here now (ob ++ M2); _) = _
      rw [q.all]
      rfl
    · simp only [Fs.stepSome]
      rw [List.append_assoc, e.step]
      show (let (q, y, s) := r.stepSome here now (ob ++ M2); _) = _
      rw [q.some]
      rfl
end
end Pm

namespace Pm
open Pw

/-! ## What is read has its Ks at least 1, its names of signs of names -/
def Ok {α : Type} (X : Except Fault (α × List Tok)) (K : α → Prop) : Prop := ∀ a r, X = .ok (a, r) → K a ∧ AllGood r
theorem Ok.bind {α β : Type} {X : Except Fault (α × List Tok)} {K : α → Prop} {K' : β → Prop} {g : α × List Tok → Except Fault (β × List Tok)}
    (h : Ok X K) (hg : ∀ a r, K a → AllGood r → Ok (g (a, r)) K') : Ok (X >>= g) K' := by
  match X, h with
  | .error e, h => exact fun a r z => by cases z
  | .ok (a, r), h => exact hg a r (h a r rfl).1 (h a r rfl).2
theorem Ok.err {α : Type} {K : α → Prop} {e : Fault} : Ok (.error e : Except Fault (α × List Tok)) K := fun _ _ z => by cases z
theorem Ok.ok {α : Type} {K : α → Prop} {a : α} {r : List Tok} (h : K a) (g : AllGood r) : Ok (.ok (a, r) : Except Fault (α × List Tok)) K := fun _ _ z => by cases z; exact ⟨h, g⟩
theorem ok_due {l : List Tok} (g : AllGood l) : Ok (due l) Good := by
  cases l with
  | nil => exact Ok.err
  | cons t r =>
    simp only [due]
    by_cases h : t.kind = 6 ∨ t.kind = 5
    · rw [if_pos h]; exact Ok.err
    · rw [if_neg h]
      split
      · exact Ok.err
      · refine Ok.ok (g.1 t (List.mem_cons_self ..)) ⟨fun x hx => g.1 x (List.mem_cons_of_mem _ hx), ?_⟩
        have := g.2
        unfold Ends at this
        split at this
        · rcases this with a | a
          · exact absurd (.inr a) h
          · exact absurd (.inl a) h
        · exact this
theorem ok_number {lo hi : Nat} {l : List Tok} (g : AllGood l) : Ok (number lo hi l) (fun k => lo ≤ k ∧ k ≤ hi) := by
  unfold number
  refine (ok_due g).bind fun t r _ gr => ?_
  show Ok (if _ then _ else _) _
  split
  · exact Ok.err
  · split
    · exact Ok.err
    · rename_i h
      exact Ok.ok (by omega) gr
theorem ok_window {l : List Tok} (g : AllGood l) : Ok (window l) (fun _ => True) := by
  unfold window
  split
  · exact (ok_due g).bind fun _ r _ gr => (ok_number gr).bind fun n r _ gr => Ok.ok trivial gr
  · exact Ok.ok trivial g
theorem ok_sign {s : String} {l : List Tok} (g : AllGood l) : Ok (sign s l) (fun _ => True) := by
  unfold sign
  refine (ok_due g).bind fun t r _ gr => ?_
  show Ok (if _ then _ else _) _
  split
  · exact Ok.ok trivial gr
  · exact Ok.err
structure OkAll (n : Nat) : Prop where
  U : ∀ o l, AllGood l → Ok (uP n o l) OkF
  S : ∀ o l, AllGood l → Ok (sP n o l) OkF
  T : ∀ o l, AllGood l → Ok (andsP n o l) OkFs
  A : ∀ o l, AllGood l → Ok (aP n o l) OkF
  V : ∀ o l, AllGood l → Ok (orsP n o l) OkFs
  O : ∀ o l, AllGood l → Ok (oP n o l) OkF
  F : ∀ o l, AllGood l → Ok (fP n o l) OkF
theorem okAll : ∀ n, OkAll n
  | 0 => ⟨fun _ _ _ => by rw [uP]; exact Ok.err, fun _ _ _ => by rw [sP]; exact Ok.err, fun _ _ _ => by rw [andsP]; exact Ok.err, fun _ _ _ => by rw [aP]; exact Ok.err,
      fun _ _ _ => by rw [orsP]; exact Ok.err, fun _ _ _ => by rw [oP]; exact Ok.err, fun _ _ _ => by rw [fP]; exact Ok.err⟩
  | n + 1 => by
    have ih := okAll n
    refine ⟨fun o l g => ?_, fun o l g => ?_, fun o l g => ?_, fun o l g => ?_, fun o l g => ?_, fun o l g => ?_, fun o l g => ?_⟩
    · rw [uP]
      refine (ok_due g).bind fun t r gt gr => ?_
      show Ok (if _ then _ else _) _
      split
      · exact Ok.err
      split
      · exact (ih.U _ _ gr).bind fun a r h gr => Ok.ok (K := OkF) h gr
      split
      · exact (ok_window gr).bind fun w r _ gr => (ih.U _ _ gr).bind fun a r h gr => Ok.ok (K := OkF) h gr
      split
      · exact (ok_window gr).bind fun w r _ gr => (ih.U _ _ gr).bind fun a r h gr => Ok.ok (K := OkF) h gr
      split
      · exact (ih.U _ _ gr).bind fun a r h gr => Ok.ok (K := OkF) h gr
      split
      · exact (ok_number gr).bind fun k r hk gr => (ok_window gr).bind fun w r _ gr => (ih.U _ _ gr).bind fun a r h gr => Ok.ok (K := OkF) ⟨hk, h⟩ gr
      split
      · exact (ih.F _ _ gr).bind fun a r h gr => (ok_sign gr).bind fun _ r _ gr => Ok.ok (K := OkF) h gr
      split
      · exact Ok.ok (K := OkF) trivial gr
      split
      · exact Ok.ok (K := OkF) trivial gr
      split
      · rename_i h9
        exact Ok.ok (K := OkF) (gt.nm h9.1) gr
      · exact Ok.err
    · rw [sP]
      refine (ih.U _ _ g).bind fun a r h gr => ?_
      show Ok (if _ then _ else _) _
      split
      · exact (ok_due gr).bind fun _ r _ gr => (ok_window gr).bind fun w r _ gr => (ih.U _ _ gr).bind fun b r hb gr => Ok.ok (K := OkF) ⟨h, hb⟩ gr
      · exact Ok.ok h gr
    · rw [andsP]
      split
      · exact (ok_due g).bind fun _ r _ gr => (ih.S _ _ gr).bind fun a r ha gr => (ih.T _ _ gr).bind fun m r hm gr => Ok.ok (K := OkFs) ⟨ha, hm⟩ gr
      · exact Ok.ok (K := OkFs) trivial g
    · rw [aP]
      refine (ih.S _ _ g).bind fun a r h gr => ?_
      show Ok (if _ then _ else _) _
      split
      · exact (ih.T _ _ gr).bind fun m r hm gr => Ok.ok (K := OkF) ⟨h, hm⟩ gr
      · exact Ok.ok h gr
    · rw [orsP]
      split
      · exact (ok_due g).bind fun _ r _ gr => (ih.A _ _ gr).bind fun a r ha gr => (ih.V _ _ gr).bind fun m r hm gr => Ok.ok (K := OkFs) ⟨ha, hm⟩ gr
      · exact Ok.ok (K := OkFs) trivial g
    · rw [oP]
      refine (ih.A _ _ g).bind fun a r h gr => ?_
      show Ok (if _ then _ else _) _
      split
      · exact (ih.V _ _ gr).bind fun m r hm gr => Ok.ok (K := OkF) ⟨h, hm⟩ gr
      · exact Ok.ok h gr
    · rw [fP]
      refine (ih.O _ _ g).bind fun a r h gr => ?_
      show Ok (if _ then _ else _) _
      split
      · refine (ok_due gr).bind fun t r _ gr => ?_
        show Ok (if _ then _ else _) _
        split
        · exact Ok.err
        · exact (ih.F _ _ gr).bind fun b r hb gr => Ok.ok (K := OkF) ⟨h, hb⟩ gr
      · exact Ok.ok h gr
def OkW (ws : Watches) : Prop := ∀ w ∈ ws, OkF w.2
theorem ok_watches (f : Nat) : ∀ (k : Nat) (ws : Watches) (l : List Tok) (ws' : Watches), AllGood l → OkW ws → watchesP f k ws l = .ok ws' → OkW ws'
  | 0, ws, l, ws', _, _, h => by rw [watchesP] at h; cases h
  | k + 1, ws, l, ws', g, hw, h => by
    rw [watchesP] at h
    cases e1 : due l with
    | error x => rw [e1] at h; cases h
    | ok tr =>
      obtain ⟨t, r⟩ := tr
      have g1 := (ok_due g t r e1).2
      rw [e1] at h
      change (if _ then _ else _ : Except Fault Watches) = _ at h
      split at h
      · cases h
      split at h
      · cases h
      cases e2 : sign ":" r with
      | error x => rw [e2] at h; cases h
      | ok tr =>
        obtain ⟨t2, r2⟩ := tr
        have g2 := (ok_sign g1 t2 r2 e2).2
        rw [e2] at h
        change (fP f 0 r2 >>= _) = _ at h
        cases e3 : fP f 0 r2 with
        | error x => rw [e3] at h; cases h
        | ok tr =>
          obtain ⟨a, r3⟩ := tr
          have g3 := (okAll f).F 0 r2 g2 a r3 e3
          rw [e3] at h
          change (sign ";" r3 >>= _) = _ at h
          cases e4 : sign ";" r3 with
          | error x => rw [e4] at h; cases h
          | ok tr =>
            obtain ⟨t4, r4⟩ := tr
            have g4 := (ok_sign g3.2 t4 r4 e4).2
            rw [e4] at h
            change (if ended r4 = true then _ else _ : Except Fault Watches) = _ at h
            have hn : OkW (ws ++ [(t.text, a)]) := by
              intro w hm
              rcases List.mem_append.mp hm with z | z
              · exact hw w z
              · rw [List.mem_singleton.mp z]
                exact g3.1
            split at h
            · cases h
              exact hn
            · exact ok_watches f k _ r4 ws' g4 hn h
theorem ok_read {b : Bytes} {ws : Watches} (h : Pw.read b = .ok ws) : OkW ws := by
  unfold Pw.read at h
  cases e : watchesP (12 * ((tokens b).length + 4)) ((tokens b).length + 2) [] (tokens b) with
  | error x => simp only [e] at h; cases h
  | ok ws1 =>
    simp only [e] at h
    change (if _ then _ else _ : Except Fault Watches) = _ at h
    split at h
    · cases h
    · cases h
      exact ok_watches _ _ [] _ _ (tokens_good _ _ _ _) (fun w hm => by cases hm) e

/-! ## The parts of all watches -/
def compW : Watches → Nat → Nat → List PM
  | [], _, _ => []
  | w :: r, b, m => comp w.2 b m ++ compW r (b + w.2.parts) (m + w.2.fresh.length)
def idxW : Watches → Nat → List Int
  | [], _ => []
  | w :: r, b => (((b + w.2.parts : Nat) : Int) - 1) :: idxW r (b + w.2.parts)
def kindsW : Watches → List MK
  | [] => []
  | w :: r => kinds w.2 ++ kindsW r
theorem fold_parts : ∀ (ws : Watches) (s : R), (ws.foldl (fun s w => s.addW w.1 w.2) s).parts = s.parts ++ compW ws s.parts.length s.beg.length ∧
    (ws.foldl (fun s w => s.addW w.1 w.2) s).watches = s.watches ++ idxW ws s.parts.length
  | [], s => by simp [compW, idxW]
  | w :: r, s => by
    have ih := fold_parts r (s.addW w.1 w.2)
    rw [List.foldl_cons, ih.1, ih.2]
    simp [R.addW, R.push, compW, idxW, comp_length]
theorem stateOf_parts (ws : Watches) : (stateOf ws).parts = compW ws 0 0 := (fold_parts ws R.new).1
theorem stateOf_watches (ws : Watches) : (stateOf ws).watches = idxW ws 0 := (fold_parts ws R.new).2
theorem freshOf_fit (t : Int) : ∀ ws : Watches, FitL t (kindsW ws) (freshOf ws)
  | [] => trivial
  | w :: r => (fresh_fit t w.2).append (freshOf_fit t r)
theorem eval_compW (here : List Bytes) (now : Int) : ∀ (ws : Watches) (hs : List Bool) (M1 own : List Mem), OkW ws → FitL now (kindsW ws) own →
    ∃ nv, evalAll here now (hs, M1 ++ own) (compW ws hs.length M1.length) = (hs ++ nv, M1 ++ (stepOf here now ws own).2) ∧
      (∀ rest, (idxW ws hs.length).map (fun o => (hs ++ nv ++ rest).getD o.toNat false) = (stepOf here now ws own).1) ∧ FitL now (kindsW ws) (stepOf here now ws own).2
  | [], hs, M1, own, _, h => by
    cases own with
    | cons m o => exact (h : False).elim
    | nil => exact ⟨[], by simp [compW, evalAll, stepOf], fun _ => rfl, trivial⟩
  | w :: r, hs, M1, own, ok, h => by
    obtain ⟨oa, ob, rfl, ha, hb⟩ := FitL.split (k1 := kinds w.2) (k2 := kindsW r) h
    obtain ⟨nv, x, v, e⟩ := eval_comp here now w.2 hs M1 oa ob (ok w (List.mem_cons_self ..)) ha
    obtain ⟨nu, q1, q2, q3⟩ := eval_compW here now r (hs ++ nv) (M1 ++ x) ob (fun z hz => ok z (List.mem_cons_of_mem _ hz)) hb
    have hxl : x.length = w.2.fresh.length := by rw [e.fit.len, kinds_len]
    have hst : stepOf here now (w :: r) (oa ++ ob) = (v :: (stepOf here now r ob).1, x ++ (stepOf here now r ob).2) := by
      simp only [stepOf, e.step]
    rw [hst]
    refine ⟨nv ++ nu, ?_, ?_, e.fit.append q3⟩
    · rw [show (hs ++ nv).length = hs.length + w.2.parts by rw [List.length_append, e.len], show (M1 ++ x).length = M1.length + w.2.fresh.length by simp [hxl]] at q1
      rw [compW, evalAll_append, e.eq, ← List.append_assoc M1 x, q1]
      simp
    · intro rest
      have h1 := at_last (hs := hs) (rest := nu ++ rest) (parts_pos w.2) e.len e.last
      have h2 := q2 rest
      rw [List.length_append, e.len] at h2
      rw [idxW, List.map_cons]
      rw [show hs ++ (nv ++ nu) ++ rest = hs ++ nv ++ (nu ++ rest) by simp, h1]
      rw [show hs ++ nv ++ (nu ++ rest) = hs ++ nv ++ nu ++ rest by simp, h2]

/-! ## Bits -/
def bitsM : List Bool → Nat → Nat → Nat
  | [], n, _ => n
  | b :: r, n, w => bitsM r (if b = true then n + w else n) (w + w)
theorem bits_fold : ∀ (l : List Bool) (n k : Nat), bitsM l n (2 ^ k) = n + (((List.range' k l.length).zip l).map fun (x : Nat × Bool) => if x.2 = true then 2 ^ x.1 else 0).foldl (fun (a b : Nat) => a + b) 0
  | [], n, k => by simp [bitsM]
  | b :: r, n, k => by
    have hf : ∀ (l : List Nat) (k : Nat), l.foldl (fun (a b : Nat) => a + b) k = k + l.foldl (fun (a b : Nat) => a + b) 0 := by
      intro l
      induction l with
      | nil => simp
      | cons x l ih => intro k; rw [List.foldl_cons, ih, List.foldl_cons, ih (0 + x)]; omega
    have e : 2 ^ k + 2 ^ k = 2 ^ (k + 1) := by rw [Nat.pow_succ]; omega
    rw [bitsM, e, bits_fold r _ (k + 1), List.length_cons, List.range'_succ, List.zip_cons_cons, List.map_cons, List.foldl_cons, hf _ (0 + _)]
    cases b <;> simp <;> omega
theorem bits_is (l : List Bool) : bitsM l 0 1 = bitsOf l := by
  have := bits_fold l 0 0
  rw [Nat.pow_zero, Nat.zero_add] at this
  rw [this, bitsOf, List.range_eq_range']
end Pm

namespace Pm
open Pw

/-! ## Each part's operands and member -/
def slotOk (ks : List MK) (p : PM) (k : MK) : Prop := ∃ j, p.slot = some j ∧ ks[j]? = some k
def WF (ks : List MK) (i : Nat) (p : PM) : Prop := (∀ o ∈ p.ops, 0 ≤ o ∧ o < (i : Int)) ∧ match p.op with
  | .yes => p.slot = none
  | .no => p.slot = none
  | .name => p.slot = none ∧ ∀ c ∈ p.name, inName c = true
  | .not_ => p.slot = none ∧ p.ops.length = 1
  | .and_ => p.slot = none
  | .or_ => p.slot = none
  | .implies => p.slot = none ∧ p.ops.length = 2
  | .once => slotOk ks p .at_ ∧ p.ops.length = 1
  | .always => slotOk ks p .at_ ∧ p.ops.length = 1
  | .before => slotOk ks p .was ∧ p.ops.length = 1
  | .since => slotOk ks p .at_ ∧ p.ops.length = 2
  | .least => slotOk ks p (.times p.needed) ∧ p.ops.length = 1 ∧ 1 ≤ p.needed ∧ p.needed ≤ 64
  | .paren => False
def WFs (ks : List MK) (b : Nat) (ps : List PM) : Prop := ∀ i p, ps[i]? = some p → WF ks (b + i) p
def SubK (K : List MK) (m : Nat) (ks : List MK) : Prop := ∀ j k, ks[j]? = some k → K[m + j]? = some k
theorem WFs.append {ks : List MK} {b : Nat} {x y : List PM} (h1 : WFs ks b x) (h2 : WFs ks (b + x.length) y) : WFs ks b (x ++ y) := by
  intro i p h
  by_cases c : i < x.length
  · rw [List.getElem?_append_left c] at h
    exact h1 i p h
  · rw [List.getElem?_append_right (by omega)] at h
    have := h2 _ p h
    rw [show b + x.length + (i - x.length) = b + i by omega] at this
    exact this
theorem WFs.one {ks : List MK} {b : Nat} {p : PM} (h : WF ks b p) : WFs ks b [p] := by
  intro i q e
  cases i with
  | zero => cases e; exact h
  | succ i => cases e
theorem SubK.left {K : List MK} {m : Nat} {x y : List MK} (h : SubK K m (x ++ y)) : SubK K m x := by
  intro j k e
  have hj : j < x.length := by
    apply Classical.byContradiction
    intro z
    rw [List.getElem?_eq_none (by omega)] at e
    cases e
  exact h j k (by rw [List.getElem?_append_left hj]; exact e)
theorem SubK.right {K : List MK} {m : Nat} {x y : List MK} (h : SubK K m (x ++ y)) : SubK K (m + x.length) y := by
  intro j k e
  have := h (x.length + j) k (by rw [List.getElem?_append_right (by omega), Nat.add_sub_cancel_left]; exact e)
  rw [← Nat.add_assoc] at this
  exact this
theorem SubK.head {K : List MK} {m : Nat} {x : MK} {y : List MK} (h : SubK K m (x :: y)) : K[m]? = some x := h 0 x rfl
theorem SubK.tail {K : List MK} {m : Nat} {x : MK} {y : List MK} (h : SubK K m (x :: y)) : SubK K (m + 1) y := h.right (x := [x])
theorem one_op {a n : Nat} (hn : 0 < n) : ∀ o ∈ [((a + n : Nat) : Int) - 1], 0 ≤ o ∧ o < ((a + n : Nat) : Int) := by
  intro o ho
  rw [List.mem_singleton.mp ho]
  omega
theorem two_op {a n k : Nat} (hn : 0 < n) (hk : 0 < k) : ∀ o ∈ [((a + n : Nat) : Int) - 1, ((a + n + k : Nat) : Int) - 1], 0 ≤ o ∧ o < ((a + n + k : Nat) : Int) := by
  intro o ho
  rcases List.mem_cons.mp ho with z | z
  · rw [z]; omega
  · rw [List.mem_singleton.mp z]; omega
theorem idxL_in : ∀ (l : Fs) (b : Nat), ∀ o ∈ idxL l b, 0 ≤ o ∧ o < ((b + l.parts : Nat) : Int)
  | .nil, b, o, h => by cases h
  | .cons f r, b, o, h => by
    rw [idxL] at h
    have hp := parts_pos f
    rcases List.mem_cons.mp h with z | z
    · rw [z, Fs.parts]; omega
    · have := idxL_in r (b + f.parts) o z
      rw [Fs.parts, ← Nat.add_assoc]
      exact this
mutual
theorem comp_wf (K : List MK) : ∀ (f : F) (b m : Nat), OkF f → SubK K m (kinds f) → WFs K b (comp f b m)
  | .yes, b, m, _, _ => WFs.one ⟨fun _ h => (nomatch h), rfl⟩
  | .no, b, m, _, _ => WFs.one ⟨fun _ h => (nomatch h), rfl⟩
  | .name n, b, m, ok, _ => WFs.one ⟨fun _ h => (nomatch h), rfl, ok⟩
  | .not_ f, b, m, ok, h => (comp_wf K f b m ok h).append (WFs.one (by rw [comp_length]; exact ⟨one_op (parts_pos f), rfl, rfl⟩))
  | .once w f, b, m, ok, h => (comp_wf K f b (m + 1) ok h.tail).append (WFs.one (by rw [comp_length]; exact ⟨one_op (parts_pos f), ⟨m, rfl, h.head⟩, rfl⟩))
  | .always w f, b, m, ok, h => (comp_wf K f b (m + 1) ok h.tail).append (WFs.one (by rw [comp_length]; exact ⟨one_op (parts_pos f), ⟨m, rfl, h.head⟩, rfl⟩))
  | .before f, b, m, ok, h => (comp_wf K f b (m + 1) ok h.tail).append (WFs.one (by rw [comp_length]; exact ⟨one_op (parts_pos f), ⟨m, rfl, h.head⟩, rfl⟩))
  | .least k w f, b, m, ok, h => (comp_wf K f b (m + 1) ok.2 h.tail).append (WFs.one (by rw [comp_length]; exact ⟨one_op (parts_pos f), ⟨m, rfl, h.head⟩, rfl, ok.1⟩))
  | .since w x y, b, m, ok, h => by
    have h1 : SubK K m (kinds x ++ (.at_ :: kinds y)) := h
    have h2 := h1.right
    rw [kinds_len] at h2
    refine (comp_wf K x b m ok.1 h1.left).append ?_
    rw [comp_length]
    refine (comp_wf K y (b + x.parts) _ ok.2 h2.tail).append (WFs.one ?_)
    rw [comp_length]
    exact ⟨two_op (parts_pos x) (parts_pos y), ⟨_, rfl, h2.head⟩, rfl⟩
  | .and_ l, b, m, ok, h => (compL_wf K l b m ok h).append (WFs.one (by rw [compL_length]; exact ⟨idxL_in l b, rfl⟩))
  | .or_ l, b, m, ok, h => (compL_wf K l b m ok h).append (WFs.one (by rw [compL_length]; exact ⟨idxL_in l b, rfl⟩))
  | .implies x y, b, m, ok, h => by
    have h1 : SubK K m (kinds x ++ kinds y) := h
    have h2 := h1.right
    rw [kinds_len] at h2
    refine (comp_wf K x b m ok.1 h1.left).append ?_
    rw [comp_length]
    refine (comp_wf K y (b + x.parts) _ ok.2 h2).append (WFs.one ?_)
    rw [comp_length]
    exact ⟨two_op (parts_pos x) (parts_pos y), rfl, rfl⟩
theorem compL_wf (K : List MK) : ∀ (l : Fs) (b m : Nat), OkFs l → SubK K m (kindsL l) → WFs K b (compL l b m)
  | .nil, b, m, _, _ => fun i p e => by cases e
  | .cons f r, b, m, ok, h => by
    have h1 : SubK K m (kinds f ++ kindsL r) := h
    have h2 := h1.right
    rw [kinds_len] at h2
    refine (comp_wf K f b m ok.1 h1.left).append ?_
    rw [comp_length]
    exact compL_wf K r _ _ ok.2 h2
end
theorem compW_wf (K : List MK) : ∀ (ws : Watches) (b m : Nat), OkW ws → SubK K m (kindsW ws) → WFs K b (compW ws b m)
  | [], b, m, _, _ => fun i p e => by cases e
  | w :: r, b, m, ok, h => by
    have h1 : SubK K m (kinds w.2 ++ kindsW r) := h
    have h2 := h1.right
    rw [kinds_len] at h2
    refine (comp_wf K w.2 b m (ok w (List.mem_cons_self ..)) h1.left).append ?_
    rw [comp_length]
    exact compW_wf K r _ _ (fun z hz => ok z (List.mem_cons_of_mem _ hz)) h2
theorem rules_wf {ws : Watches} (ok : OkW ws) : WFs (kindsW ws) 0 (stateOf ws).parts := by
  rw [stateOf_parts]
  exact compW_wf _ ws 0 0 ok fun j k e => by rw [Nat.zero_add]; exact e
theorem idxW_in : ∀ (ws : Watches) (b : Nat), ∀ o ∈ idxW ws b, 0 ≤ o ∧ o < ((b + (ws.map fun w => w.2.parts).sum : Nat) : Int)
  | [], b, o, h => by cases h
  | w :: r, b, o, h => by
    rw [idxW] at h
    have hp := parts_pos w.2
    rw [List.map_cons, List.sum_cons]
    rcases List.mem_cons.mp h with z | z
    · rw [z]; omega
    · have := idxW_in r (b + w.2.parts) o z
      rw [← Nat.add_assoc]
      exact this
theorem compW_length : ∀ (ws : Watches) (b m : Nat), (compW ws b m).length = (ws.map fun w => w.2.parts).sum
  | [], b, m => rfl
  | w :: r, b, m => by rw [compW, List.length_append, comp_length, compW_length r, List.map_cons, List.sum_cons]
theorem watches_in {ws : Watches} : ∀ o ∈ (stateOf ws).watches, 0 ≤ o ∧ o < ((stateOf ws).parts.length : Int) := by
  rw [stateOf_parts, stateOf_watches, compW_length]
  intro o h
  have := idxW_in ws 0 o h
  rw [Nat.zero_add] at this
  exact this

/-! ## One step keeps the memory's form -/
theorem FitL.get {t : Int} : ∀ {ks : List MK} {ms : List Mem} {j : Nat} {k : MK}, FitL t ks ms → ks[j]? = some k → ∃ m, ms[j]? = some m ∧ fits1 t k m
  | [], [], j, k, _, h => by simp at h
  | a :: ks, m :: ms, 0, k, h, e => by
    cases e
    exact ⟨m, rfl, h.1⟩
  | a :: ks, m :: ms, j + 1, k, h, e => FitL.get (j := j) h.2 (by simpa using e)
  | [], m :: ms, j, k, z, _ => z.elim
  | k :: ks, [], j, _, z, _ => z.elim
theorem FitL.set {t : Int} : ∀ {ks : List MK} {ms : List Mem} {j : Nat} {k : MK} {m : Mem}, FitL t ks ms → ks[j]? = some k → fits1 t k m → FitL t ks (ms.set j m)
  | [], [], j, k, m, _, h, _ => by simp at h
  | a :: ks, x :: ms, 0, k, m, h, e, f => by
    cases e
    exact ⟨f, h.2⟩
  | a :: ks, x :: ms, j + 1, k, m, h, e, f => ⟨h.1, FitL.set (j := j) h.2 (by simpa using e) f⟩
  | [], m :: ms, j, k, _, z, _, _ => z.elim
  | k :: ks, [], j, _, _, z, _, _ => z.elim
theorem next_fit {now : Int} {p : PM} {vals : List Bool} {e : Mem} {k : MK} (hk : match p.op with | .before => k = .was | .least => k = .times p.needed | _ => k = .at_) (h : fits1 now k e) :
    fits1 now k (nextMem now p vals e) := by
  unfold nextMem
  cases hop : p.op <;> rw [hop] at hk <;> subst hk <;> dsimp only
  case before => trivial
  case least =>
    split
    · cases e with
      | times l =>
        obtain ⟨hl, hs, hle⟩ : l.length ≤ p.needed ∧ Sorted l ∧ ∀ u ∈ l, u ≤ now := h
        refine ⟨lastK_len, sorted_drop _ (sorted_append hs hle), fun u hu => ?_⟩
        rcases List.mem_append.mp (List.mem_of_mem_drop hu) with z | z
        · exact hle u z
        · rw [List.mem_singleton.mp z]; exact Int.le_refl _
      | at_ t => exact h.elim
      | was b => exact h.elim
    · exact h
  case since =>
    split
    · trivial
    · split
      · exact h
      · trivial
  all_goals
    split
    · first | trivial | exact h
    · first | trivial | exact h
theorem step_fit {here : List Bytes} {now : Int} {ks : List MK} {i : Nat} {p : PM} {st : List Bool × List Mem} (w : WF ks i p) (h : FitL now ks st.2) : FitL now ks (evalStep here now st p).2 := by
  unfold evalStep
  cases hs : p.slot with
  | none => exact h
  | some j =>
    have key : ∀ k, slotOk ks p k → (match p.op with | .before => k = .was | .least => k = .times p.needed | _ => k = .at_) → FitL now ks (st.2.set j (nextMem now p (valsOf st.1 p) (st.2.getD j (.at_ none)))) := by
      rintro k ⟨j', e, hk⟩ hh
      rw [hs] at e
      cases e
      obtain ⟨m, hm, hf⟩ := h.get hk
      refine h.set hk (next_fit hh ?_)
      rw [List.getD, hm]
      exact hf
    obtain ⟨_, w2⟩ := w
    cases hop : p.op <;> rw [hop] at w2 key <;> dsimp only at w2 key
    case once => exact key _ w2.1 rfl
    case always => exact key _ w2.1 rfl
    case before => exact key _ w2.1 rfl
    case since => exact key _ w2.1 rfl
    case least => exact key _ w2.1 rfl
    case yes => rw [hs] at w2; cases w2
    case no => rw [hs] at w2; cases w2
    case name => have z := w2.1; rw [hs] at z; cases z
    case and_ => rw [hs] at w2; cases w2
    case or_ => rw [hs] at w2; cases w2
    case not_ => have z := w2.1; rw [hs] at z; cases z
    case implies => have z := w2.1; rw [hs] at z; cases z
end Pm

namespace Pm
open Pw

/-! ## How large a reader gets -/
def isLeaf : Op → Bool
  | .yes => true
  | .no => true
  | .name => true
  | _ => false
structure Bd (s : R) (n : Nat) : Prop where
  pp : s.parts.length + s.pend.length ≤ n
  ws : s.watches.length ≤ n
  kn : s.known.length ≤ n
  bg : s.beg.length ≤ n
  ops : ∀ p ∈ s.pend, p.ops.length ≤ n ∧ isLeaf p.op = false
  top : s.exp = .needed ∨ s.exp = .span ∨ s.exp = .within → s.pend ≠ []
theorem Bd.new : Bd R.new 0 := ⟨Nat.le_refl _, Nat.le_refl _, Nat.le_refl _, Nat.le_refl _, fun p h => (nomatch h), fun h => by rcases h with h | h | h <;> cases h⟩
theorem settle_sum (k : Nat) : ∀ (st ps : List PM) (d : Int), (settle k st ps d).2.1.length + (settle k st ps d).1.length = ps.length + st.length
  | [], ps, d => rfl
  | p :: st, ps, d => by
    unfold settle
    split
    · rw [settle_sum k st]
      simp
      omega
    · rfl
theorem settle_sub (k : Nat) : ∀ (st ps : List PM) (d : Int), ∀ p ∈ (settle k st ps d).1, p ∈ st
  | [], ps, d, p, h => h
  | q :: st, ps, d, p, h => by
    unfold settle at h
    split at h
    · exact List.mem_cons_of_mem _ (settle_sub k st _ _ p h)
    · exact h
theorem Bd.settle {s : R} {n : Nat} (h : Bd s n) (k : Nat) (he : s.exp = .joint) : Bd (s.settle k) n := by
  refine ⟨?_, h.ws, h.kn, h.bg, fun p hp => h.ops p (settle_sub k _ _ _ p hp), fun z => ?_⟩
  · show (Pm.settle k s.pend s.parts s.depth).2.1.length + (Pm.settle k s.pend s.parts s.depth).1.length ≤ n
    rw [settle_sum]
    exact h.pp
  · have e : (s.settle k).exp = s.exp := rfl
    rw [e, he] at z
    rcases z with z | z | z <;> cases z
theorem Bd.begin_ {s : R} {n : Nat} {p : PM} (h : Bd s n) (hp : p.ops.length ≤ n + 1) (hl : isLeaf p.op = false) : Bd (s.begin_ p).2 (n + 1) := by
  refine ⟨?_, Nat.le_succ_of_le h.ws, Nat.le_succ_of_le h.kn, ?_, ?_, fun _ z => ?_⟩
  · show s.parts.length + (_ :: s.pend).length ≤ _
    have := h.pp
    simp
    omega
  · show (if remembers p.op = true then s.beg ++ [firstMem p.op] else s.beg).length ≤ _
    have := h.bg
    split
    · simp; omega
    · omega
  · intro q hq
    have hq : q ∈ (if remembers p.op = true then { p with slot := some s.beg.length } else p) :: s.pend := hq
    rcases List.mem_cons.mp hq with e | e
    · rw [e]
      split
      · exact ⟨hp, hl⟩
      · exact ⟨hp, hl⟩
    · have := h.ops q e
      exact ⟨by omega, this.2⟩
  · exact absurd z (by show ¬ (_ :: s.pend) = []; simp)
theorem Bd.exp {s : R} {n : Nat} {e : Ex} (h : Bd s n) (he : e = .needed ∨ e = .span ∨ e = .within → s.pend ≠ []) : Bd { s with exp := e } n := ⟨h.pp, h.ws, h.kn, h.bg, h.ops, he⟩
theorem Bd.mono {s : R} {n m : Nat} (h : Bd s n) (hm : n ≤ m) : Bd s m := ⟨Nat.le_trans h.pp hm, Nat.le_trans h.ws hm, Nat.le_trans h.kn hm, Nat.le_trans h.bg hm, fun p hp => ⟨Nat.le_trans (h.ops p hp).1 hm, (h.ops p hp).2⟩, h.top⟩
theorem onTop_len (f : PM → PM) (l : List PM) : (onTop f l).length = l.length := by cases l <;> rfl
theorem onTop_ne {f : PM → PM} {l : List PM} (h : l ≠ []) : onTop f l ≠ [] := by cases l <;> simp_all [onTop]
theorem Bd.onTop {s : R} {n : Nat} {f : PM → PM} (h : Bd s n) (hf : ∀ p ∈ s.pend, (f p).ops.length ≤ n + 1 ∧ (f p).op = p.op) : Bd { s with pend := Pm.onTop f s.pend } (n + 1) := by
  refine ⟨?_, Nat.le_succ_of_le h.ws, Nat.le_succ_of_le h.kn, Nat.le_succ_of_le h.bg, ?_, fun z => onTop_ne (h.top z)⟩
  · show s.parts.length + (Pm.onTop f s.pend).length ≤ _
    rw [onTop_len]
    exact Nat.le_succ_of_le h.pp
  · intro q hq
    have hq : q ∈ Pm.onTop f s.pend := hq
    have h1 := h.ops
    cases e : s.pend with
    | nil => rw [e] at hq; cases hq
    | cons p st =>
      rw [e] at hq h1
      rcases List.mem_cons.mp hq with z | z
      · have := hf p (by rw [e]; exact List.mem_cons_self ..)
        rw [z, this.2]
        exact ⟨this.1, (h1 p (List.mem_cons_self ..)).2⟩
      · have := h1 q (List.mem_cons_of_mem _ z)
        exact ⟨by omega, this.2⟩
theorem openOp_notLeaf {w : Bytes} {op : Op} (h : openOp w = some op) : isLeaf op = false := by
  unfold openOp at h
  repeat' split at h
  all_goals first | (cases h; rfl) | cases h
theorem joinOp_notLeaf {w : Bytes} {op : Op} (h : joinOp w = some op) : isLeaf op = false := by
  unfold joinOp at h
  repeat' split at h
  all_goals first | (cases h; rfl) | cases h
theorem Bd.put {s : R} {n : Nat} {p : PM} (h : Bd s n) : Bd (s.put p).2 (n + 1) := by
  refine ⟨?_, Nat.le_succ_of_le h.ws, Nat.le_succ_of_le h.kn, Nat.le_succ_of_le h.bg, fun q hq => ?_, fun z => by rcases z with z | z | z <;> cases z⟩
  · show (s.parts ++ [p]).length + s.pend.length ≤ _
    have := h.pp
    simp
    omega
  · have := h.ops q hq
    exact ⟨by omega, this.2⟩
theorem Bd.joinOps {s : R} {n : Nat} {op : Op} (h : Bd s n) (hl : isLeaf op = false) (he : s.exp = .joint) : Bd (s.joinOps op).2 (n + 1) := by
  unfold R.joinOps
  split
  · exact h.mono (Nat.le_succ n)
  · split
    · rename_i h1 h2
      have hne : s.pend ≠ [] := by
        intro z
        have := h2.1
        unfold R.top at this
        rw [z] at this
        cases this
      have b := h.onTop (f := fun p => { p with ops := p.ops ++ [(s.parts.length : Int) - 1] }) (fun p hp => ⟨by have := (h.ops p hp).1; simp; omega, rfl⟩)
      exact ⟨b.pp, b.ws, b.kn, b.bg, b.ops, fun _ => onTop_ne hne⟩
    · have b : Bd s n := h
      refine Bd.mono ?_ (Nat.le_refl _)
      have z := Bd.begin_ (s := s) (n := n) (p := { op := op, ops := [(s.parts.length : Int) - 1] }) b (by simp) hl
      exact ⟨z.pp, z.ws, z.kn, z.bg, z.ops, fun _ => by show ¬ (_ :: s.pend) = []; simp⟩
theorem Bd.take {s : R} {n : Nat} {w : Bytes} (h : Bd s n) : Bd (s.take w).2 (n + 1) := by
  have h1 := h.mono (Nat.le_succ n)
  unfold R.take
  cases he : s.exp with
  | watch =>
    simp only
    unfold R.takeWatch
    split
    · exact h1
    · split
      · exact h1
      · refine ⟨h1.pp, h1.ws, ?_, h1.bg, h1.ops, fun z => by rcases z with z | z | z <;> cases z⟩
        have := h.kn
        simp
        omega
  | colon =>
    simp only
    unfold R.takeColon
    split
    · exact h1
    · exact h1.exp (fun z => by rcases z with z | z | z <;> cases z)
  | needed =>
    simp only
    unfold R.takeNeeded
    split
    · exact h1
    · split
      · exact h1
      · have b := h.onTop (f := fun p => { p with needed := num w }) (fun p hp => ⟨by have := (h.ops p hp).1; simp; omega, rfl⟩)
        exact ⟨b.pp, b.ws, b.kn, b.bg, b.ops, fun _ => onTop_ne (h.top (.inl he))⟩
  | span =>
    simp only
    unfold R.takeSpan
    split
    · exact h1
    · split
      · exact h1
      · have b := h.onTop (f := fun p => { p with span := some (num w) }) (fun p hp => ⟨by have := (h.ops p hp).1; simp; omega, rfl⟩)
        exact ⟨b.pp, b.ws, b.kn, b.bg, b.ops, fun z => by rcases z with z | z | z <;> cases z⟩
  | joint =>
    simp only
    unfold R.takeJoint
    split
    · have b := h.settle 0 he
      unfold R.endBracket
      split
      · exact b.mono (Nat.le_succ n)
      · refine ⟨?_, Nat.le_succ_of_le b.ws, Nat.le_succ_of_le b.kn, Nat.le_succ_of_le b.bg, fun q hq => ?_, fun z => ?_⟩
        · have := b.pp
          simp
          omega
        · have := b.ops q (List.mem_of_mem_tail hq)
          exact ⟨by omega, this.2⟩
        · have e : (s.settle 0).exp = s.exp := rfl
          have z : (s.settle 0).exp = .needed ∨ (s.settle 0).exp = .span ∨ (s.settle 0).exp = .within := z
          rw [e, he] at z
          rcases z with z | z | z <;> cases z
    · split
      · have b := h.settle 0 he
        unfold R.endWatch
        split
        · exact b.mono (Nat.le_succ n)
        · have b1 := b.mono (Nat.le_succ n)
          refine ⟨b1.pp, ?_, b1.kn, b1.bg, b1.ops, fun z => by rcases z with z | z | z <;> cases z⟩
          have := b.ws
          simp
          omega
      · cases hj : joinOp w with
        | none => exact h1
        | some op => exact (h.settle _ he).joinOps (joinOp_notLeaf hj) he
  | operand =>
    simp only
    unfold R.takeOperand
    rw [he]
    split
    · rename_i z; cases z.2
    · cases ho : openOp w with
      | some op =>
        have z := Bd.begin_ (s := s) (n := n) (p := { op := op, ops := [] }) h (by simp) (openOp_notLeaf ho)
        exact ⟨z.pp, z.ws, z.kn, z.bg, z.ops, fun _ => by show ¬ (_ :: s.pend) = []; simp⟩
      | none =>
        simp only
        split
        · exact h.put
        · split
          · exact h.put
          · split
            · exact h.put
            · exact h1
  | within =>
    simp only
    unfold R.takeOperand
    split
    · exact h1.exp (fun _ => h.top (.inr (.inr he)))
    · cases ho : openOp w with
      | some op =>
        have z := Bd.begin_ (s := s) (n := n) (p := { op := op, ops := [] }) h (by simp) (openOp_notLeaf ho)
        exact ⟨z.pp, z.ws, z.kn, z.bg, z.ops, fun _ => by show ¬ (_ :: s.pend) = []; simp⟩
      | none =>
        simp only
        split
        · exact h.put
        · split
          · exact h.put
          · split
            · exact h.put
            · exact h1
end Pm

namespace Pm
open Pw
def OpsL (b : Nat) (ps : List PM) : Prop := ∀ i p, ps[i]? = some p → p.ops.length ≤ b + i
theorem OpsL.append {b : Nat} {x y : List PM} (h1 : OpsL b x) (h2 : OpsL (b + x.length) y) : OpsL b (x ++ y) := by
  intro i p h
  by_cases c : i < x.length
  · rw [List.getElem?_append_left c] at h
    exact h1 i p h
  · rw [List.getElem?_append_right (by omega)] at h
    have := h2 _ p h
    omega
theorem OpsL.one {b : Nat} {p : PM} (h : p.ops.length ≤ b) : OpsL b [p] := by
  intro i q e
  cases i with
  | zero => cases e; exact h
  | succ i => cases e
theorem idxL_len : ∀ (l : Fs) (b : Nat), (idxL l b).length ≤ l.parts
  | .nil, _ => Nat.le_refl _
  | .cons f r, b => by
    have h1 := idxL_len r (b + f.parts)
    have h2 := parts_pos f
    rw [idxL, List.length_cons, Fs.parts]
    omega
mutual
theorem comp_ops : ∀ (f : F) (b m : Nat), OpsL b (comp f b m)
  | .yes, b, m => OpsL.one (Nat.zero_le _)
  | .no, b, m => OpsL.one (Nat.zero_le _)
  | .name n, b, m => OpsL.one (Nat.zero_le _)
  | .not_ f, b, m => (comp_ops f b m).append (OpsL.one (by rw [comp_length]; have := parts_pos f; show 1 ≤ _; omega))
  | .once w f, b, m => (comp_ops f b (m + 1)).append (OpsL.one (by rw [comp_length]; have := parts_pos f; show 1 ≤ _; omega))
  | .always w f, b, m => (comp_ops f b (m + 1)).append (OpsL.one (by rw [comp_length]; have := parts_pos f; show 1 ≤ _; omega))
  | .before f, b, m => (comp_ops f b (m + 1)).append (OpsL.one (by rw [comp_length]; have := parts_pos f; show 1 ≤ _; omega))
  | .least k w f, b, m => (comp_ops f b (m + 1)).append (OpsL.one (by rw [comp_length]; have := parts_pos f; show 1 ≤ _; omega))
  | .since w x y, b, m => by
    refine (comp_ops x b m).append ?_
    rw [comp_length]
    refine (comp_ops y _ _).append (OpsL.one ?_)
    rw [comp_length]
    have := parts_pos x
    have := parts_pos y
    show 2 ≤ _
    omega
  | .and_ l, b, m => (compL_ops l b m).append (OpsL.one (by rw [compL_length]; have := idxL_len l b; show (idxL l b).length ≤ _; omega))
  | .or_ l, b, m => (compL_ops l b m).append (OpsL.one (by rw [compL_length]; have := idxL_len l b; show (idxL l b).length ≤ _; omega))
  | .implies x y, b, m => by
    refine (comp_ops x b m).append ?_
    rw [comp_length]
    refine (comp_ops y _ _).append (OpsL.one ?_)
    rw [comp_length]
    have := parts_pos x
    have := parts_pos y
    show 2 ≤ _
    omega
theorem compL_ops : ∀ (l : Fs) (b m : Nat), OpsL b (compL l b m)
  | .nil, b, m => fun i p e => by cases e
  | .cons f r, b, m => by
    refine (comp_ops f b m).append ?_
    rw [comp_length]
    exact compL_ops r _ _
end
theorem compW_ops : ∀ (ws : Watches) (b m : Nat), OpsL b (compW ws b m)
  | [], b, m => fun i p e => by cases e
  | w :: r, b, m => by
    refine (comp_ops w.2 b m).append ?_
    rw [comp_length]
    exact compW_ops r _ _
theorem rules_ops (ws : Watches) : OpsL 0 (stateOf ws).parts := by
  rw [stateOf_parts]
  exact compW_ops ws 0 0
end Pm

namespace Pm
open Pw
theorem follow_is {here : List Bytes} {now : Int} {ws : Watches} {mem : List Mem} (ok : OkW ws) (fit : FitL now (kindsW ws) mem) :
    (evalAll here now ([], mem) (stateOf ws).parts).2 = (stepOf here now ws mem).2 ∧
    ((stateOf ws).watches.map fun o => (evalAll here now ([], mem) (stateOf ws).parts).1.getD o.toNat false) = (stepOf here now ws mem).1 ∧ FitL now (kindsW ws) (stepOf here now ws mem).2 := by
  obtain ⟨nv, h1, h2, h3⟩ := eval_compW here now ws [] [] mem ok fit
  rw [stateOf_parts, stateOf_watches]
  have h1 : evalAll here now ([], mem) (compW ws 0 0) = (nv, (stepOf here now ws mem).2) := h1
  rw [h1]
  refine ⟨rfl, ?_, h3⟩
  have := h2 []
  rw [List.append_nil] at this
  exact this
mutual
theorem kinds_le : ∀ f : F, (kinds f).length ≤ f.parts
  | .yes => Nat.zero_le _
  | .no => Nat.zero_le _
  | .name _ => Nat.zero_le _
  | .not_ f => by have := kinds_le f; simp only [kinds, F.parts]; omega
  | .once _ f => by have := kinds_le f; simp only [kinds, F.parts, List.length_cons]; omega
  | .always _ f => by have := kinds_le f; simp only [kinds, F.parts, List.length_cons]; omega
  | .before f => by have := kinds_le f; simp only [kinds, F.parts, List.length_cons]; omega
  | .least _ _ f => by have := kinds_le f; simp only [kinds, F.parts, List.length_cons]; omega
  | .since _ a b => by have := kinds_le a; have := kinds_le b; simp only [kinds, F.parts, List.length_cons, List.length_append]; omega
  | .and_ l => by have := kindsL_le l; simp only [kinds, F.parts]; omega
  | .or_ l => by have := kindsL_le l; simp only [kinds, F.parts]; omega
  | .implies a b => by have := kinds_le a; have := kinds_le b; simp only [kinds, F.parts, List.length_append]; omega
theorem kindsL_le : ∀ l : Fs, (kindsL l).length ≤ l.parts
  | .nil => Nat.zero_le _
  | .cons f r => by have := kinds_le f; have := kindsL_le r; simp only [kindsL, Fs.parts, List.length_append]; omega
end
theorem kindsW_le : ∀ ws : Watches, (kindsW ws).length ≤ (ws.map fun w => w.2.parts).sum
  | [] => Nat.zero_le _
  | w :: r => by have := kinds_le w.2; have := kindsW_le r; simp only [kindsW, List.length_append, List.map_cons, List.sum_cons]; omega
theorem watches_le : ∀ ws : Watches, ws.length ≤ (ws.map fun w => w.2.parts).sum
  | [] => Nat.zero_le _
  | w :: r => by have := parts_pos w.2; have := watches_le r; simp only [List.length_cons, List.map_cons, List.sum_cons]; omega
structure Rd1 (ws : Watches) : Prop where
  ok : OkW ws
  pl : (stateOf ws).parts.length ≤ 256
  wl : ws.length ≤ 256
  kl : (kindsW ws).length ≤ 256
theorem read_ok {b : Bytes} {ws : Watches} (h : Pw.read b = .ok ws) : Rd1 ws := by
  have hp : (stateOf ws).parts.length ≤ 256 := by
    have h1 := read_run b
    rw [h] at h1
    -- the run ended well: what is too large was told
    have h2 : (ws.map fun w => w.2.parts).foldl (fun (a b : Nat) => a + b) 0 ≤ 256 := by
      unfold Pw.read at h
      cases e : watchesP (12 * ((tokens b).length + 4)) ((tokens b).length + 2) [] (tokens b) with
      | error x => simp only [e] at h; cases h
      | ok ws1 =>
        simp only [e] at h
        change (if _ then _ else _ : Except Fault Watches) = _ at h
        split at h
        · cases h
        · rename_i hc
          cases h
          rw [List.map_map] at hc
          have := not_or.mp hc
          have h3 : ¬ PARTS < (ws.map fun w => w.2.parts).foldl (fun (a b : Nat) => a + b) 0 := this.1
          unfold PARTS at h3
          omega
    rw [(sOf ws).plen]
    exact h2
  have hs : (stateOf ws).parts.length = (ws.map fun w => w.2.parts).sum := by rw [stateOf_parts, compW_length]
  exact ⟨ok_read h, hp, by have := watches_le ws; omega, by have := kindsW_le ws; omega⟩
end Pm

namespace Pm
open Pw
structure WOk (W : Watcher) : Prop where
  rd : Rd1 W.watches
  fit : ∀ t, (∀ u, W.last = some u → u ≤ t) → FitL t (kindsW W.watches) W.memory
  ent : W.last = none ↔ W.entries = 0
theorem wok_fresh {ws : Watches} (h : Rd1 ws) : WOk (Pw.fresh ws) := ⟨h, fun t _ => freshOf_fit t ws, ⟨fun _ => rfl, fun _ => rfl⟩⟩
theorem wok_take {W : Watcher} {t : Int} {names : List Bytes} (h : WOk W) (hc : ∀ u, W.last = some u → u ≤ t) : WOk (W.take t names) := by
  have hf := follow_is (here := names) h.rd.ok (h.fit t hc)
  exact ⟨h.rd, fun t' ht => (hf.2.2).mono (ht t rfl), ⟨fun z => (nomatch z), fun z => (nomatch z)⟩⟩
theorem mem_len {W : Watcher} (h : WOk W) : W.memory.length ≤ 256 := by
  have hl : ∃ t, ∀ u, W.last = some u → u ≤ t := by
    cases e : W.last with
    | none => exact ⟨0, fun u z => by cases z⟩
    | some u => exact ⟨u, fun v z => by cases z; exact Int.le_refl _⟩
  obtain ⟨t, ht⟩ := hl
  rw [(h.fit t ht).len]
  exact h.rd.kl
/-- a state that has rules has them read -/
def SOk : State → Prop
  | none => True
  | some W => WOk W
theorem sok_step {s : State} {c : Pw.Call} (h : SOk s) : SOk (Pw.step s c).1 := by
  cases c with
  | judge t =>
    show SOk (ofRules t (fun ws => (s, Pw.num (ws.length : Nat))) s).1
    unfold ofRules
    split
    · exact h
    · split <;> exact h
  | load t =>
    show SOk (ofRules t (fun ws => (some (Pw.fresh ws), Pw.num (ws.length : Nat))) s).1
    unfold ofRules
    split
    · exact h
    · cases e : Pw.read t with
      | error x => exact h
      | ok ws => exact wok_fresh (read_ok e)
  | entry t names =>
    cases s with
    | none => exact h
    | some W =>
      show SOk (match refused W t with | some z => (some W, Pw.num z) | none => (some (W.take t names), Pw.num ((W.take t names).held : Nat))).1
      cases e : refused W t with
      | some z => exact h
      | none =>
        refine wok_take h fun u hu => ?_
        unfold refused at e
        split at e
        · cases e
        · split at e
          · cases e
          · rename_i hm
            unfold mayCome at hm
            rw [hu] at hm
            simpa using hm
  | wait t names => exact h
  | told => exact h
  | memory => exact h
  | forget =>
    cases s with
    | none => exact h
    | some W => exact wok_fresh h.rd
end Pm

namespace Pm
open Pw
/-! ## What a memory tells: its members' shapes, how long they are -/
mutual
theorem kinds_ok : ∀ f : F, OkF f → ∀ k, MK.times k ∈ kinds f → k ≤ 64
  | .yes, _, k, h => nomatch h
  | .no, _, k, h => nomatch h
  | .name _, _, k, h => nomatch h
  | .not_ f, o, k, h => kinds_ok f o k h
  | .once _ f, o, k, h => by
    rcases List.mem_cons.mp (show MK.times k ∈ MK.at_ :: kinds f from h) with e | e
    · cases e
    · exact kinds_ok f o k e
  | .always _ f, o, k, h => by
    rcases List.mem_cons.mp (show MK.times k ∈ MK.at_ :: kinds f from h) with e | e
    · cases e
    · exact kinds_ok f o k e
  | .before f, o, k, h => by
    rcases List.mem_cons.mp (show MK.times k ∈ MK.was :: kinds f from h) with e | e
    · cases e
    · exact kinds_ok f o k e
  | .least n _ f, o, k, h => by
    rcases List.mem_cons.mp (show MK.times k ∈ MK.times n :: kinds f from h) with e | e
    · cases e; exact o.1.2
    · exact kinds_ok f o.2 k e
  | .since _ a b, o, k, h => by
    have ha := kinds_ok a o.1 k
    have hb := kinds_ok b o.2 k
    simp only [kinds, List.mem_append, List.mem_cons] at h
    rcases h with h | h | h <;> first | exact ha h | exact hb h | cases h
  | .and_ l, o, k, h => kindsL_ok l o k h
  | .or_ l, o, k, h => kindsL_ok l o k h
  | .implies a b, o, k, h => by
    have ha := kinds_ok a o.1 k
    have hb := kinds_ok b o.2 k
    simp only [kinds, List.mem_append] at h
    rcases h with h | h
    · exact ha h
    · exact hb h
theorem kindsL_ok : ∀ l : Fs, OkFs l → ∀ k, MK.times k ∈ kindsL l → k ≤ 64
  | .nil, _, k, h => nomatch h
  | .cons f r, o, k, h => by
    have ha := kinds_ok f o.1 k
    have hb := kindsL_ok r o.2 k
    simp only [kindsL, List.mem_append] at h
    rcases h with h | h
    · exact ha h
    · exact hb h
end
theorem kindsW_ok : ∀ ws : Watches, OkW ws → ∀ k, MK.times k ∈ kindsW ws → k ≤ 64
  | [], _, k, h => nomatch h
  | w :: r, o, k, h => by
    simp only [kindsW, List.mem_append] at h
    rcases h with h | h
    · exact kinds_ok w.2 (o w (List.mem_cons_self ..)) k h
    · exact kindsW_ok r (fun x hx => o x (List.mem_cons_of_mem _ hx)) k h
def SameSh : Mem → Mem → Prop
  | .at_ _, .at_ _ => True
  | .was _, .was _ => True
  | .times _, .times _ => True
  | _, _ => False
def ShL : List Mem → List Mem → Prop
  | [], [] => True
  | a :: l, b :: m => SameSh a b ∧ ShL l m
  | _, _ => False
theorem sh_fit1 {t : Int} : ∀ {k : MK} {a b : Mem}, fits1 t k a → fits1 t k b → SameSh a b := by
  intro k a b
  cases k <;> cases a <;> cases b <;> intro x y <;> first | trivial | exact x.elim | exact y.elim
theorem sh_fit {t : Int} : ∀ {ks : List MK} {a b : List Mem}, FitL t ks a → FitL t ks b → ShL a b
  | [], [], [], _, _ => trivial
  | k :: ks, a :: as, b :: bs, x, y => ⟨sh_fit1 x.1 y.1, sh_fit x.2 y.2⟩
  | [], a :: as, _, x, _ => (x : False).elim
  | [], [], b :: bs, _, y => (y : False).elim
  | k :: ks, [], _, x, _ => (x : False).elim
  | k :: ks, a :: as, [], _, y => (y : False).elim
theorem small1 {t : Int} {k : MK} {m : Mem} (h : ∀ n, k = .times n → n ≤ 64) (f : fits1 t k m) : (memNums m).length ≤ 65 := by
  cases k <;> cases m <;> first | exact (f : False).elim | skip
  · rename_i o
    cases o <;> simp [memNums]
  · simp [memNums]
  · rename_i n l
    have := h n rfl
    have := f.1
    simp only [memNums, List.length_cons]
    omega
theorem smallL {t : Int} : ∀ {ks : List MK} {ms : List Mem}, (∀ n, MK.times n ∈ ks → n ≤ 64) → FitL t ks ms → ∀ m ∈ ms, (memNums m).length ≤ 65
  | [], [], _, _, m, hm => nomatch hm
  | k :: ks, a :: as, h, f, m, hm => by
    rcases List.mem_cons.mp hm with e | e
    · rw [e]
      exact small1 (fun n hn => h n (hn ▸ List.mem_cons_self ..)) f.1
    · exact smallL (fun n hn => h n (List.mem_cons_of_mem _ hn)) f.2 m e
  | [], a :: as, _, f, _, _ => (f : False).elim
  | k :: ks, [], _, f, _, _ => (f : False).elim
theorem may_last (W : Watcher) : ∃ t, ∀ u, W.last = some u → u ≤ t := by
  cases e : W.last with
  | none => exact ⟨0, fun u z => by cases z⟩
  | some u => exact ⟨u, fun v z => by cases z; exact Int.le_refl _⟩
theorem wok_sh {W : Watcher} (h : WOk W) : ShL (freshOf W.watches) W.memory := by
  obtain ⟨t, ht⟩ := may_last W
  exact sh_fit (freshOf_fit t W.watches) (h.fit t ht)
theorem wok_small {W : Watcher} (h : WOk W) : ∀ m ∈ W.memory, (memNums m).length ≤ 65 := by
  obtain ⟨t, ht⟩ := may_last W
  exact smallL (kindsW_ok W.watches h.rd.ok) (h.fit t ht)
theorem nums_le : ∀ (l : List Mem), (∀ m ∈ l, (memNums m).length ≤ 65) → (l.flatMap memNums).length ≤ 65 * l.length
  | [], _ => Nat.zero_le _
  | a :: l, h => by
    have h1 := h a (List.mem_cons_self ..)
    have h2 := nums_le l fun m hm => h m (List.mem_cons_of_mem _ hm)
    rw [List.flatMap_cons, List.length_append, List.length_cons]
    omega
end Pm

namespace Pm
open Pw
def intsB (t : Bytes) : List Int := t.map fun b => (b.toNat : Int)
theorem text_intsB (t : Bytes) : PwNeutral.text (intsB t) = t := by
  unfold PwNeutral.text intsB
  rw [List.map_map]
  have : ((fun (n : Int) => UInt8.ofNat n.toNat) ∘ fun (b : UInt8) => (b.toNat : Int)) = id := by
    funext b
    simp
  rw [this, List.map_id]
theorem ints_of : ∀ (t : List Int), (∀ z ∈ t, 0 ≤ z ∧ z ≤ 255) → ∃ b : Bytes, t = intsB b
  | [], _ => ⟨[], rfl⟩
  | z :: r, h => by
    obtain ⟨b, e⟩ := ints_of r fun x hx => h x (List.mem_cons_of_mem _ hx)
    have hz := h z (List.mem_cons_self ..)
    refine ⟨UInt8.ofNat z.toNat :: b, ?_⟩
    rw [e]
    show _ = ((UInt8.ofNat z.toNat).toNat : Int) :: intsB b
    congr 1
    have : (UInt8.ofNat z.toNat).toNat = z.toNat := by
      rw [UInt8.toNat_ofNat']
      omega
    rw [this]
    omega
theorem rows_of : ∀ (rs : List (List Int)), (∀ t ∈ rs, ∀ z ∈ t, 0 ≤ z ∧ z ≤ 255) → ∃ ns : List Bytes, rs = ns.map intsB
  | [], _ => ⟨[], rfl⟩
  | t :: r, h => by
    obtain ⟨ns, e⟩ := rows_of r fun x hx => h x (List.mem_cons_of_mem _ hx)
    obtain ⟨b, eb⟩ := ints_of t (h t (List.mem_cons_self ..))
    exact ⟨b :: ns, by rw [e, eb]; rfl⟩
def flat : Pw.Call → List (List Int)
  | .judge t => [[1], intsB t]
  | .load t => [[2], intsB t]
  | .entry m ns => [3, m] :: ns.map intsB
  | .wait m ns => [4, m] :: ns.map intsB
  | .told => [[5]]
  | .memory => [[6]]
  | .forget => [[7]]
theorem names_text (ns : List Bytes) : (ns.map intsB).map PwNeutral.text = ns := by
  rw [List.map_map]
  have : (PwNeutral.text ∘ intsB) = id := by
    funext t
    exact text_intsB t
  rw [this, List.map_id]
theorem callOf_flat (c : Pw.Call) : PwNeutral.callOf (flat c) = some c := by
  cases c with
  | judge t => show some (Pw.Call.judge (PwNeutral.text (intsB t))) = _; rw [text_intsB]
  | load t => show some (Pw.Call.load (PwNeutral.text (intsB t))) = _; rw [text_intsB]
  | entry m ns => show some (Pw.Call.entry m ((ns.map intsB).map PwNeutral.text)) = _; rw [names_text]
  | wait m ns => show some (Pw.Call.wait m ((ns.map intsB).map PwNeutral.text)) = _; rw [names_text]
  | told => rfl
  | memory => rfl
  | forget => rfl
theorem long_bytes {t : List Int} {n : Nat} (h : PwNeutral.long t n 0 255 = true) : ∀ z ∈ t, 0 ≤ z ∧ z ≤ 255 := by
  unfold PwNeutral.long at h
  rw [Bool.and_eq_true, List.all_eq_true] at h
  intro z hz
  have := h.2 z hz
  rw [Bool.and_eq_true, decide_eq_true_eq, decide_eq_true_eq] at this
  exact this
theorem asked_flat {c : List (List Int)} (h : PwNeutral.asked1 c = true) : ∃ p, c = flat p := by
  unfold PwNeutral.asked1 at h
  split at h
  · obtain ⟨b, rfl⟩ := ints_of _ (long_bytes h)
    exact ⟨.judge b, rfl⟩
  · obtain ⟨b, rfl⟩ := ints_of _ (long_bytes h)
    exact ⟨.load b, rfl⟩
  · rename_i m ns
    rw [Bool.and_eq_true, List.all_eq_true] at h
    obtain ⟨bs, rfl⟩ := rows_of ns fun t ht => long_bytes (h.2 t ht)
    exact ⟨.entry m bs, rfl⟩
  · rename_i m ns
    rw [Bool.and_eq_true, List.all_eq_true] at h
    obtain ⟨bs, rfl⟩ := rows_of ns fun t ht => long_bytes (h.2 t ht)
    exact ⟨.wait m bs, rfl⟩
  · exact ⟨.told, rfl⟩
  · exact ⟨.memory, rfl⟩
  · exact ⟨.forget, rfl⟩
  · cases h
theorem all_flat : ∀ (cs : List (List (List Int))), (∀ c ∈ cs, PwNeutral.asked1 c = true) → ∃ ps : List Pw.Call, cs = ps.map flat
  | [], _ => ⟨[], rfl⟩
  | c :: r, h => by
    obtain ⟨ps, e⟩ := all_flat r fun x hx => h x (List.mem_cons_of_mem _ hx)
    obtain ⟨p, ep⟩ := asked_flat (h c (List.mem_cons_self ..))
    exact ⟨p :: ps, by rw [e, ep]; rfl⟩
/-- the state behind calls; what they answer, told -/
def stOf (s : State) (ps : List Pw.Call) : State := ps.foldl (fun s c => (Pw.step s c).1) s
def toldOf : State → List Pw.Call → List Int
  | _, [] => []
  | s, c :: r => ((PwNeutral.told (Pw.step s c).2).length : Int) :: (PwNeutral.told (Pw.step s c).2 ++ toldOf (Pw.step s c).1 r)
theorem told_played : ∀ (ps : List Pw.Call) (s : State), PyFlat.told (PyFlat.played PwNeutral.step s (ps.map flat)) = toldOf s ps
  | [], s => rfl
  | c :: r, s => by
    have e : PwNeutral.step s (flat c) = ((Pw.step s c).1, PwNeutral.told (Pw.step s c).2) := by
      unfold PwNeutral.step
      rw [callOf_flat]
    rw [List.map_cons, PyFlat.played, e]
    show PyFlat.told (_ :: PyFlat.played PwNeutral.step (Pw.step s c).1 (r.map flat)) = _
    rw [PyFlat.told, List.flatMap_cons]
    have := told_played r (Pw.step s c).1
    rw [PyFlat.told] at this
    rw [this]
    rfl
theorem toldOf_snoc : ∀ (ps : List Pw.Call) (s : State) (c : Pw.Call), toldOf s (ps ++ [c]) = toldOf s ps ++ (((PwNeutral.told (Pw.step (stOf s ps) c).2).length : Int) :: PwNeutral.told (Pw.step (stOf s ps) c).2)
  | [], s, c => by simp [toldOf, stOf]
  | p :: r, s, c => by
    rw [List.cons_append, toldOf, toldOf_snoc r]
    show _ = toldOf s (p :: r) ++ _
    rw [toldOf]
    simp [stOf]
theorem sok_stOf : ∀ (ps : List Pw.Call) (s : State), SOk s → SOk (stOf s ps)
  | [], s, h => h
  | c :: r, s, h => sok_stOf r _ (sok_step h)
/-- **what is asked of a list: it is just the calls** -/
theorem asked_calls {l : List Int} (h : PyWrpast.answers_asked l = true) : ∃ ps : List Pw.Call, l = PyWide.put (ps.map flat) ∧ PyWrpast.answers l = toldOf none ps ∧ (toldOf none ps).length ≤ 10000000 := by
  unfold PyWrpast.answers_asked at h
  cases e : PyWrpast.calls l with
  | none => rw [e] at h; cases h
  | some cs =>
    rw [e] at h
    simp only [Bool.and_eq_true] at h
    obtain ⟨⟨_, ha⟩, hs⟩ := h
    unfold PwNeutral.asked at ha
    simp only [Bool.and_eq_true, List.all_eq_true] at ha
    obtain ⟨ps, rfl⟩ := all_flat cs ha.1.1
    have hput := (PyWide.put_calls l.length l _ e).1
    have hans : PyWrpast.answers l = toldOf none ps := by
      unfold PyWrpast.answers
      rw [e]
      exact told_played ps none
    refine ⟨ps, hput, hans, ?_⟩
    rw [← hans]
    unfold PyFlat.short at hs
    exact of_decide_eq_true hs
end Pm

set_option maxHeartbeats 4000000
namespace Hw
open PySem L2
def top (i : Nat) : Stmt := PySem.Challenge.pw_pastwatch_s01_answers.main.body.getD i (.Pass ⟨0, 0, 0, 0⟩)
abbrev s_first_member : Stmt := top 1
abbrev s_first_memory : Stmt := top 2
abbrev s_next_member : Stmt := top 3
abbrev s_told_member : Stmt := top 4
abbrev s_told_memory : Stmt := top 5
abbrev s_is_near : Stmt := top 7
abbrev s_holds_by_itself : Stmt := top 8
abbrev s_holds_by_memory : Stmt := top 9
abbrev s_number_of_bits : Stmt := top 10
abbrev s_follow : Stmt := top 11
abbrev s_Part_init : Stmt := inClass (top 13) 0
abbrev s_Rules_init : Stmt := inClass (top 14) 0
abbrev i_GLYPHS : Nat := 16
abbrev i_RESERVED : Nat := 17
abbrev s_glyph : Stmt := top 18
abbrev s_spell : Stmt := top 19
abbrev s_is_letter : Stmt := top 20
abbrev s_is_figure : Stmt := top 21
abbrev s_is_in_word : Stmt := top 22
abbrev s_is_name : Stmt := top 23
abbrev s_skip_blanks : Stmt := top 24
abbrev s_end_of_word : Stmt := top 25
abbrev s_end_of_number : Stmt := top 26
abbrev s_end_of_token : Stmt := top 27
abbrev i_TOO_LONG : Nat := 29
abbrev i_FAULTY : Nat := 30
abbrev i_SOUND : Nat := 31
abbrev i_ENDED : Nat := 32
abbrev i_UNKNOWN : Nat := 33
abbrev i_MISPLACED : Nat := 34
abbrev i_OUT_OF_BOUNDS : Nat := 35
abbrev i_TOO_DEEP : Nat := 36
abbrev i_TOO_LARGE : Nat := 37
abbrev i_MOST_BYTES : Nat := 38
abbrev i_MOST_WATCHES : Nat := 39
abbrev i_MOST_IN_NAME : Nat := 40
abbrev i_MOST_NEEDED : Nat := 41
abbrev i_MOST_SPAN : Nat := 42
abbrev i_MOST_FIGURES : Nat := 43
abbrev i_MOST_OPENED : Nat := 44
abbrev i_MOST_PARTS : Nat := 45
abbrev i_MOST_NEEDED_IN_ALL : Nat := 46
abbrev i_WATCH : Nat := 47
abbrev i_COLON : Nat := 48
abbrev i_OPERAND : Nat := 49
abbrev i_WITHIN : Nat := 50
abbrev i_NEEDED : Nat := 51
abbrev i_SPAN : Nat := 52
abbrev i_JOINT : Nat := 53
abbrev i_OPENINGS : Nat := 54
abbrev i_JOINTS : Nat := 55
abbrev i_OPENED : Nat := 56
abbrev i_REMEMBERING : Nat := 57
abbrev i_STRENGTHS : Nat := 58
abbrev s_is_bounded : Stmt := top 59
abbrev s_behind_opening : Stmt := top 60
abbrev s_Reader_init : Stmt := inClass (top 61) 0
abbrev s_Reader_take : Stmt := inClass (top 61) 1
abbrev s_Reader_take_watch : Stmt := inClass (top 61) 2
abbrev s_Reader_take_colon : Stmt := inClass (top 61) 3
abbrev s_Reader_take_needed : Stmt := inClass (top 61) 4
abbrev s_Reader_take_span : Stmt := inClass (top 61) 5
abbrev s_Reader_take_operand : Stmt := inClass (top 61) 6
abbrev s_Reader_take_joint : Stmt := inClass (top 61) 7
abbrev s_Reader_join_operands : Stmt := inClass (top 61) 8
abbrev s_Reader_end_bracket : Stmt := inClass (top 61) 9
abbrev s_Reader_end_watch : Stmt := inClass (top 61) 10
abbrev s_Reader_put : Stmt := inClass (top 61) 11
abbrev s_Reader_begin : Stmt := inClass (top 61) 12
abbrev s_Reader_end_stronger : Stmt := inClass (top 61) 13
abbrev s_Reader_is_whole : Stmt := inClass (top 61) 14
abbrev s_Reader_is_too_large : Stmt := inClass (top 61) 15
abbrev s_Reading_init : Stmt := inClass (top 62) 0
abbrev s_fault_of_token : Stmt := top 63
abbrev s_first_fault : Stmt := top 64
abbrev s_read : Stmt := top 65
abbrev i_BAD_MOMENT : Nat := 67
abbrev i_NO_RULES : Nat := 68
abbrev i_TOO_EARLY : Nat := 69
abbrev i_TOO_MANY : Nat := 70
abbrev i_NO_REFUSAL : Nat := 71
abbrev i_DONE : Nat := 72
abbrev i_FARTHEST_MOMENT : Nat := 73
abbrev i_MOST_ENTRIES : Nat := 74
abbrev s_spell_names : Stmt := top 75
abbrev s_Watcher_init : Stmt := inClass (top 76) 0
abbrev s_Watcher_judge : Stmt := inClass (top 76) 1
abbrev s_Watcher_load : Stmt := inClass (top 76) 2
abbrev s_Watcher_restart : Stmt := inClass (top 76) 3
abbrev s_Watcher_entry : Stmt := inClass (top 76) 4
abbrev s_Watcher_wait : Stmt := inClass (top 76) 5
abbrev s_Watcher_told : Stmt := inClass (top 76) 6
abbrev s_Watcher_tell_memory : Stmt := inClass (top 76) 7
abbrev s_Watcher_forget : Stmt := inClass (top 76) 8
abbrev s_Watcher_refusal_at : Stmt := inClass (top 76) 9
abbrev i_JUDGE : Nat := 78
abbrev i_LOAD : Nat := 79
abbrev i_ENTRY : Nat := 80
abbrev i_WAIT : Nat := 81
abbrev i_TOLD : Nat := 82
abbrev i_MEMORY : Nat := 83
abbrev i_FORGET : Nat := 84
abbrev s_row_at : Stmt := top 86
abbrev s_rows_at : Stmt := top 87
abbrev s_answer_of : Stmt := top 88
abbrev s_answers : Stmt := top 89
theorem ifT {c : Bool} {A B : Prop} (hc : c = true) (h : A) : if c = true then A else B := by
  rw [if_pos hc]
  exact h
theorem ifF {c : Bool} {A B : Prop} (hc : c = false) (h : B) : if c = true then A else B := by
  rw [hc, if_neg Bool.false_ne_true]
  exact h
theorem map_at {α β : Type} {f : α → β} {l : List α} {i : Nat} {x : β} (h : (l.map f)[i]? = some x) : ∃ b, l[i]? = some b ∧ x = f b := by
  rw [List.getElem?_map] at h
  cases e : l[i]? with
  | none => rw [e] at h; cases h
  | some b => rw [e] at h; exact ⟨b, rfl, (Option.some.inj h).symm⟩
theorem take_more {α : Type} {l : List α} {i : Nat} {x : α} (h : l[i]? = some x) : l.take (i + 1) = l.take i ++ [x] := by
  rw [List.take_add_one, h]
  rfl
theorem same_upd {H H' : Hp} {a : Addr} {o : HO} (s : Same H H') (h : H a = none) : Same H (upd H' a o) := fun b u e => by
  rw [upd_ne (ne_of_none e h)]
  exact s _ _ e
/-! texts of bytes -/
def sb (b : List UInt8) : Str := ⟨(b.map UInt8.toNat).toArray⟩
end Hw

set_option maxHeartbeats 4000000
namespace Hw
open PySem L2

/-- a text of one sign -/
abbrev s1 (c : Nat) : Str := ⟨#[c]⟩
theorem le1 (a c : Nat) : (!decide ((s1 c).cps.toList < (s1 a).cps.toList)) = decide (a ≤ c) := by
  have : ((s1 c).cps.toList < (s1 a).cps.toList) ↔ c < a := by
    show [c] < [a] ↔ c < a
    simp [List.cons_lt_cons_iff]
  by_cases h : c < a
  · rw [decide_eq_true (this.mpr h), decide_eq_false (by omega)]; rfl
  · rw [decide_eq_false (fun z => h (this.mp z)), decide_eq_true (by omega)]; rfl
def small (c : Nat) : Bool := decide (97 ≤ c) && decide (c ≤ 122)
def figure (c : Nat) : Bool := decide (48 ≤ c) && decide (c ≤ 57)
def inWord (c : Nat) : Bool := small c || (figure c || c == 95)
def spIsLetter : Sp := fun vs H Q _ => ∃ c : Nat, vs = [.str (s1 c)] ∧ Q (.bl (small c)) H
def spIsFigure : Sp := fun vs H Q _ => ∃ c : Nat, vs = [.str (s1 c)] ∧ Q (.bl (figure c)) H
def spIsInWord : Sp := fun vs H Q _ => ∃ c : Nat, vs = [.str (s1 c)] ∧ Q (.bl (inWord c)) H

section
variable {P : Program} {w : World} {K : PySem.W.Frag} {mg : Str → Option Value} {base : Heap}
theorem sc_is_letter : FnScope ["sign"] ["sign"] (defScope s_is_letter) := ⟨rfl, rfl, rfl, by decide +kernel, rfl, by decide +kernel, by decide +kernel⟩
theorem ok_is_letter {f : Addr} {fd : FuncData} (F : Fun K "is_letter" "is_letter" s_is_letter f fd) : FnOk P w K mg base CX0 1 f fd ["sign"] spIsLetter := by
  refine F.ok sc_is_letter (fun vs H Q E h => ?_) (fun cdv A outer s H vs Q E hr h => ?_)
  · obtain ⟨c, rfl, _⟩ := h
    rfl
  · obtain ⟨c, rfl, k⟩ := h
    refine ⟨_, pss_one (ps_ret (pe_chain op_le_str op_le_str pe_str (pv 0) pe_str)), ?_⟩
    refine ⟨_, rfl, s1 97, s1 c, rfl, rfl, _, rfl, ?_⟩
    rw [le1]
    by_cases h1 : 97 ≤ c
    · rw [decide_eq_true h1, if_pos rfl]
      refine ⟨s1 c, s1 122, rfl, rfl, ?_⟩
      rw [le1]
      have : small c = decide (c ≤ 122) := by unfold small; rw [decide_eq_true h1]; rfl
      rw [this] at k
      exact k
    · rw [decide_eq_false h1, if_neg (by decide)]
      have : small c = false := by unfold small; rw [decide_eq_false h1]; rfl
      rw [this] at k
      exact k
end
end Hw

set_option maxHeartbeats 4000000
namespace Hw
open PySem L2

/-- a def as its callers see it -/
structure Callee (P : Program) (w : World) (K : PySem.W.Frag) (mg : Str → Option Value) (base : Heap) (k : Nat) (x : Str) (f : Addr) (fd : FuncData) (ps : List Str) (sp : Sp) : Prop where
  at_ : mg x = some (.ref f)
  kp : PySem.W.keepIn K (.ref f) = true
  b : Binds K fd ps []
  G : FnOk P w K mg base CX0 k f fd ps sp

def allowed (n : Nat) : Bool := n == 10 || n == 32 || n == 40 || n == 41 || (decide (48 ≤ n) && decide (n ≤ 59)) || n == 95 || (decide (97 ≤ n) && decide (n ≤ 122))
/-- the sign of a byte -/
def gl (n : Nat) : Nat := if allowed n = true then n else 63
def glyphsZ : Str := match top i_GLYPHS with
  | .Assign _ (.Constant (.str z) _ _) _ => z
  | _ => Str.empty
theorem glyphs_at : ∀ n, n < 128 → glyphsZ.cps[n]? = some (gl n) := by decide +kernel
theorem glyphs_len : glyphsZ.length = 128 := by decide +kernel
theorem gl_high {n : Nat} (h : 128 ≤ n) : gl n = 63 := by
  have : allowed n = false := by simp [allowed]; omega
  unfold gl
  rw [this]
  rfl
def spl (bs : List UInt8) : Str := ⟨(bs.map fun b => gl b.toNat).toArray⟩
theorem spl_len (bs : List UInt8) : (spl bs).length = bs.length := by simp [spl, Str.length]
theorem spl_at {bs : List UInt8} {p : Nat} {c : UInt8} (h : bs[p]? = some c) : (spl bs).cps[p]? = some (gl c.toNat) := by
  show ((bs.map fun b => gl b.toNat).toArray)[p]? = _
  rw [List.getElem?_toArray, List.getElem?_map, h]
  rfl

theorem sb_inj {a b : List UInt8} : sb a = sb b ↔ a = b := by
  constructor
  · intro h
    have h1 : (a.map UInt8.toNat).toArray = (b.map UInt8.toNat).toArray := congrArg Str.cps h
    have h2 : a.map UInt8.toNat = b.map UInt8.toNat := congrArg Array.toList h1
    exact (List.map_inj_right (fun x y e => UInt8.toNat_inj.mp e)).mp h2
  · intro h
    rw [h]
theorem sb_len (b : List UInt8) : (sb b).length = b.length := by simp [sb, Str.length]
theorem sb_at {b : List UInt8} {p : Nat} {c : UInt8} (h : b[p]? = some c) : (sb b).cps[p]? = some c.toNat := by
  show ((b.map UInt8.toNat).toArray)[p]? = _
  rw [List.getElem?_toArray, List.getElem?_map, h]
  rfl
theorem eq_lit {x b : List UInt8} {z : Str} (h : z = sb b) : decide (V.str (sb x) = V.str z) = decide (x = b) := by
  subst h
  by_cases e : x = b
  · subst e
    simp
  · rw [decide_eq_false e, decide_eq_false (fun q => e (sb_inj.mp (V.str.inj q)))]
theorem inV_sb (x : List UInt8) : ∀ l : List (List UInt8), inV (.str (sb x)) (l.map fun b => V.str (sb b)) = l.contains x
  | [] => rfl
  | b :: r => by
    have ih := inV_sb x r
    unfold inV at ih ⊢
    rw [List.map_cons, List.any_cons, List.contains_cons, ih]
    congr 1
    show (sb b == sb x) = (x == b)
    rw [Bool.eq_iff_iff]
    simp only [beq_iff_eq]
    rw [sb_inj]
    exact ⟨Eq.symm, Eq.symm⟩
theorem all_flat (l : List (List UInt8)) : (l.map fun b => V.str (sb b)).all flatV = true := by
  rw [List.all_eq_true]
  intro x hx
  obtain ⟨b, _, rfl⟩ := List.mem_map.mp hx
  rfl

def spIsName : Sp := fun vs H Q _ => ∃ x : List UInt8, vs = [.str (sb x)] ∧ x ≠ [] ∧ Q (.bl (Pm.isName x)) H
def spGlyph : Sp := fun vs H Q _ => ∃ n : Nat, vs = [.int n] ∧ Q (.str (s1 (gl n))) H

structure WTxt (K : PySem.W.Frag) (mg : Str → Option Value) (aR : Addr) : Prop where
  gly : ∃ t, mg "GLYPHS" = some (.str glyphsZ t)
  res : mg "RESERVED" = some (.ref aR)
  resT : ∀ H, SqT K H aR (Pw.words.map fun b => V.str (sb b))
  len : mg "len" = none

theorem small_is (c : UInt8) : small c.toNat = Pw.isSmall c := rfl
theorem figure_is (c : UInt8) : figure c.toNat = Pw.isDigit c := rfl

section
variable {P : Program} {w : World} {K : PySem.W.Frag} {mg : Str → Option Value} {base : Heap} {aR : Addr}
theorem sc_is_figure : FnScope ["sign"] ["sign"] (defScope s_is_figure) := ⟨rfl, rfl, rfl, by decide +kernel, rfl, by decide +kernel, by decide +kernel⟩
theorem ok_is_figure {f : Addr} {fd : FuncData} (F : Fun K "is_figure" "is_figure" s_is_figure f fd) : FnOk P w K mg base CX0 1 f fd ["sign"] spIsFigure := by
  refine F.ok sc_is_figure (fun vs H Q E h => ?_) (fun cdv A outer s H vs Q E hr h => ?_)
  · obtain ⟨c, rfl, _⟩ := h
    rfl
  · obtain ⟨c, rfl, k⟩ := h
    refine ⟨_, pss_one (ps_ret (pe_chain op_le_str op_le_str pe_str (pv 0) pe_str)), ?_⟩
    refine ⟨_, rfl, s1 48, s1 c, rfl, rfl, _, rfl, ?_⟩
    rw [le1]
    by_cases h1 : 48 ≤ c
    · rw [decide_eq_true h1, if_pos rfl]
      refine ⟨s1 c, s1 57, rfl, rfl, ?_⟩
      rw [le1]
      have : figure c = decide (c ≤ 57) := by unfold figure; rw [decide_eq_true h1]; rfl
      rw [this] at k
      exact k
    · rw [decide_eq_false h1, if_neg (by decide)]
      have : figure c = false := by unfold figure; rw [decide_eq_false h1]; rfl
      rw [this] at k
      exact k
theorem sc_is_in_word : FnScope ["sign"] ["sign"] (defScope s_is_in_word) := ⟨rfl, rfl, rfl, by decide +kernel, rfl, by decide +kernel, by decide +kernel⟩
theorem ok_is_in_word {f f1 f2 : Addr} {fd fd1 fd2 : FuncData} (F : Fun K "is_in_word" "is_in_word" s_is_in_word f fd)
    (C1 : Callee P w K mg base 1 "is_letter" f1 fd1 ["sign"] spIsLetter) (C2 : Callee P w K mg base 1 "is_figure" f2 fd2 ["sign"] spIsFigure) : FnOk P w K mg base CX0 2 f fd ["sign"] spIsInWord := by
  refine F.ok sc_is_in_word (fun vs H Q E h => ?_) (fun cdv A outer s H vs Q E hr h => ?_)
  · obtain ⟨c, rfl, _⟩ := h
    rfl
  · obtain ⟨c, rfl, k⟩ := h
    have hr1 : Room 1 _ := hr
    refine ⟨_, pss_one (ps_ret (pe_or (pe_call C1.G hr1 rfl C1.at_ C1.kp C1.b .nil pass0 (pa_cons (pv 0) pa_nil))
      (pe_or (pe_call C2.G hr1 rfl C2.at_ C2.kp C2.b .nil pass0 (pa_cons (pv 0) pa_nil)) (pe_one (pe_cmpR op_eq (pv 0) pe_str (nomark _)))))), ?_⟩
    refine ⟨_, rfl, c, rfl, _, rfl, ?_⟩
    unfold inWord at k
    by_cases h1 : small c = true
    · rw [h1] at k ⊢
      rw [if_pos rfl]
      exact k
    · rw [Bool.not_eq_true] at h1
      rw [h1] at k ⊢
      rw [if_neg (by decide)]
      refine ⟨_, rfl, c, rfl, _, rfl, ?_⟩
      by_cases h2 : figure c = true
      · rw [h2] at k ⊢
        rw [if_pos rfl]
        exact k
      · rw [Bool.not_eq_true] at h2
        rw [h2] at k ⊢
        rw [if_neg (by decide)]
        refine ⟨_, rfl, rfl, ?_⟩
        have e : decide (V.str (s1 c) = V.str "_") = (c == 95) := by
          have e1 : ("_" : Str) = s1 95 := by decide +kernel
          rw [e1]
          by_cases hc : c = 95
          · subst hc; rfl
          · rw [decide_eq_false]
            · simp [hc]
            · intro q
              injection V.str.inj q with q1
              injection q1 with q2
              simp at q2
              exact hc q2
        show Q (.bl (decide (V.str (s1 c) = V.str "_"))) H
        rw [e]
        exact k
theorem sc_is_name : FnScope ["token"] ["token"] (defScope s_is_name) := ⟨rfl, rfl, rfl, by decide +kernel, rfl, by decide +kernel, by decide +kernel⟩
theorem ok_is_name {f f1 : Addr} {fd fd1 : FuncData} (F : Fun K "is_name" "is_name" s_is_name f fd) (T : WTxt K mg aR)
    (C1 : Callee P w K mg base 1 "is_letter" f1 fd1 ["sign"] spIsLetter) : FnOk P w K mg base CX0 2 f fd ["token"] spIsName := by
  refine F.ok sc_is_name (fun vs H Q E h => ?_) (fun cdv A outer s H vs Q E hr h => ?_)
  · obtain ⟨c, rfl, _⟩ := h
    rfl
  · obtain ⟨x, rfl, hx, k⟩ := h
    have hr1 : Room 1 _ := hr
    refine ⟨_, pss_one (ps_ret (pe_and (pe_call C1.G hr1 rfl C1.at_ C1.kp C1.b .nil pass0 (pa_cons (pe_item_str (pv 0) pe_int (fun _ _ => rfl)) pa_nil))
      (pe_one (pe_cmpR op_notIn_seq (pv 0) (pe_glob (v := .ref aR) rfl T.res rfl) (by rfl))))), ?_⟩
    cases x with
    | nil => exact absurd rfl hx
    | cons c r =>
      refine ⟨_, rfl, _, _, c.toNat, rfl, rfl, by decide, by decide, by rw [sb_len]; simp, sb_at rfl, c.toNat, rfl, _, rfl, ?_⟩
      have k : Q (.bl (Pw.isSmall c && !Pw.words.contains (c :: r))) H := k
      rw [small_is]
      by_cases h1 : Pw.isSmall c = true
      · rw [h1] at k ⊢
        rw [if_pos rfl]
        refine ⟨_, rfl, aR, _, rfl, .inr (T.resT H), rfl, all_flat _, ?_⟩
        rw [inV_sb]
        exact k
      · rw [Bool.not_eq_true] at h1
        rw [h1] at k ⊢
        rw [if_neg (by decide)]
        exact k
theorem sc_glyph : FnScope ["byte"] ["byte"] (defScope s_glyph) := ⟨rfl, rfl, rfl, by decide +kernel, rfl, by decide +kernel, by decide +kernel⟩
theorem ok_glyph {f : Addr} {fd : FuncData} (F : Fun K "glyph" "glyph" s_glyph f fd) (T : WTxt K mg aR) : FnOk P w K mg base CX0 1 f fd ["byte"] spGlyph := by
  refine F.ok sc_glyph (fun vs H Q E h => ?_) (fun cdv A outer s H vs Q E hr h => ?_)
  · obtain ⟨c, rfl, _⟩ := h
    rfl
  · obtain ⟨n, rfl, k⟩ := h
    obtain ⟨t, gt⟩ := T.gly
    refine ⟨_, pss_one (ps_ret (pe_ifExp (pt_cmpR op_lt (pv 0) (pe_callB call_len_str (by rfl) T.len PySem.boot_len (pa_cons (pe_glob (v := .str glyphsZ) rfl gt ⟨_, rfl⟩) pa_nil)) (nomark _))
      (pe_item_str (pe_glob (v := .str glyphsZ) rfl gt ⟨_, rfl⟩) (pv 0) (fun _ _ => rfl)) pe_str)), ?_⟩
    refine ⟨_, rfl, glyphsZ, rfl, by rw [glyphs_len]; decide, _, _, rfl, rfl, _, rfl, ?_⟩
    rw [glyphs_len]
    by_cases h : n < 128
    · refine ifT (decide_eq_true (by omega)) ?_
      exact ⟨_, rfl, _, _, _, rfl, rfl, by omega, by omega, by rw [glyphs_len]; omega, by simpa using glyphs_at n h, k⟩
    · refine ifF (decide_eq_false (by omega)) ?_
      rw [gl_high (by omega)] at k
      exact k
end
end Hw

set_option maxHeartbeats 4000000
namespace Hw
open PySem L2

abbrev bv (bs : List UInt8) : List V := bs.map fun b => V.int b.toNat
def spSpell (K : PySem.W.Frag) : Sp := fun vs H Q _ => ∃ (a : Addr) (bs : List UInt8), vs = [.ref a] ∧ SqL K H a (bv bs) ∧ bs.length ≤ 16000 ∧
  ∀ H', Same H H' → Q (.str (spl bs)) H'
theorem tl_empty : TL.tl ("" : Str) = [] := by decide +kernel
theorem joinL_one : ∀ (l : List Nat), TL.joinL [] (l.map fun c => [c]) = l
  | [] => rfl
  | [x] => rfl
  | x :: y :: r => by
    have := joinL_one (y :: r)
    show [x] ++ ([] ++ TL.joinL [] ((y :: r).map fun c => [c])) = _
    rw [this]
    rfl
theorem join_spl (bs : List UInt8) : Txt.join ("" : Str) (bs.map fun b => s1 (gl b.toNat)) = spl bs := by
  apply TL.ext_tl
  rw [TL.join_eq, TL.tl_join, tl_empty, List.map_map]
  have := joinL_one (bs.map fun b => gl b.toNat)
  rw [List.map_map] at this
  exact this
theorem sum_ones : ∀ l : List Nat, ((l.map s1).map (·.length)).sum = l.length
  | [] => rfl
  | x :: r => by
    rw [List.map_cons, List.map_cons, List.sum_cons, sum_ones r, List.length_cons]
    show 1 + r.length = _
    omega
section
variable {P : Program} {w : World} {K : PySem.W.Frag} {mg : Str → Option Value} {base : Heap} {aR : Addr}
theorem sc_spell : FnScope ["row", "byte"] ["row"] (defScope s_spell) := ⟨rfl, rfl, rfl, by decide +kernel, rfl, by decide +kernel, by decide +kernel⟩
theorem ok_spell {f f1 : Addr} {fd fd1 : FuncData} (F : Fun K "spell" "spell" s_spell f fd)
    (C1 : Callee P w K mg base 1 "glyph" f1 fd1 ["byte"] spGlyph) : FnOk P w K mg base CX0 2 f fd ["row"] (spSpell K) := by
  refine F.ok sc_spell (fun vs H Q E h => ?_) (fun cdv A outer s H vs Q E hr h => ?_)
  · obtain ⟨a, bs, rfl, _⟩ := h
    rfl
  · obtain ⟨a, bs, rfl, hS, hlen, k⟩ := h
    have hr1 : Room 1 _ := hr
    refine ⟨_, pss_one (ps_ret (pe_join pe_str (pe_lc (own := [("byte", 1)]) (g := gName 1) (tt := tYes) rfl sc_spell.nd (pi_list (pv 0)) (blkOk_by (N := ["row", "byte"]) (sc := defScope s_spell) (by decide +kernel))
      (fun _ _ _ _ _ => pg_name (i := 1) sc_spell.nd rfl (Or.inl rfl)) (fun _ _ _ _ _ => pts_nil) (fun _ _ _ _ _ => pe_call C1.G hr1 rfl C1.at_ C1.kp C1.b .nil pass0 (pa_cons (pv 1) pa_nil))))), ?_⟩
    refine ⟨⟨_, rfl⟩, _, rfl, a, rfl, ⟨_, hS⟩, fun D hD => ?_⟩
    refine lc_list (K := K) (a := a) (xs := bv bs) (fun i H' => Same H H' ∧ H' D = some (.lst ((bs.take i).map fun b => V.str (s1 (gl b.toNat))))) ?_ ?_ ?_ ?_
    · exact ⟨same_upd (Same.refl H) hD, upd_same⟩
    · rintro i H' hi ⟨s5, _⟩
      exact s5.seq hS
    · rintro i x H' hi ⟨s5, hL⟩
      obtain ⟨b, e, rfl⟩ := map_at hi
      refine ⟨rfl, _, rfl, b.toNat, rfl, _, hL, ?_, same_upd s5 hD, ?_⟩
      · rw [List.length_map, List.length_take]
        exact Nat.lt_of_le_of_lt (Nat.le_trans (Nat.min_le_right _ _) hlen) (by decide)
      · rw [upd_same, take_more e, List.map_append]
        rfl
    · rintro H' ⟨s5, hL⟩
      rw [List.length_map, List.take_length] at hL
      refine ⟨_, D, bs.map fun b => s1 (gl b.toNat), rfl, rfl, .inl (SqL.of (by rw [hL, List.map_map]; rfl)), ?_, ?_⟩
      · have h1 : ((bs.map fun b => s1 (gl b.toNat)).map (·.length)).sum = bs.length := by
          have := sum_ones (bs.map fun b => gl b.toNat)
          rw [List.length_map] at this
          rw [← this, List.map_map, List.map_map, List.map_map]
          rfl
        have h2 : ("" : Str).length = 0 := by decide +kernel
        rw [h1, h2, Nat.mul_zero]
        omega
      · have := k H' s5
        rw [← join_spl] at this
        exact this
end
end Hw

set_option maxHeartbeats 4000000
namespace Hw
open PySem L2

def spSkip : Sp := fun vs H Q _ => ∃ (bs : List UInt8) (p : Nat), vs = [.str (spl bs), .int p] ∧ p ≤ bs.length ∧ bs.length ≤ 4096 ∧ Q (.int (Pm.skipB bs p)) H
theorem gl_blank : ∀ n, n < 256 → ((decide (V.str (s1 (gl n)) = V.str " ") || decide (V.str (s1 (gl n)) = V.str "\n")) = (n == 32 || n == 10)) := by decide +kernel
theorem gl_small : ∀ n, n < 256 → small (gl n) = small n := by decide +kernel
theorem gl_figure : ∀ n, n < 256 → figure (gl n) = figure n := by decide +kernel
theorem gl_inWord : ∀ n, n < 256 → inWord (gl n) = inWord n := by decide +kernel
theorem blank_is (c : UInt8) : (decide (V.str (s1 (gl c.toNat)) = V.str " ") || decide (V.str (s1 (gl c.toNat)) = V.str "\n")) = Pm.isBlank c := by
  rw [gl_blank _ (UInt8.toNat_lt c)]
  unfold Pm.isBlank
  congr 1
  · rw [Bool.eq_iff_iff]; simp only [beq_iff_eq]; exact ⟨fun h => UInt8.toNat_inj.mp h, fun h => by rw [h]; rfl⟩
  · rw [Bool.eq_iff_iff]; simp only [beq_iff_eq]; exact ⟨fun h => UInt8.toNat_inj.mp h, fun h => by rw [h]; rfl⟩
theorem get_drop {bs : List UInt8} {p : Nat} (h : p < bs.length) : ∃ c r, bs[p]? = some c ∧ bs.drop p = c :: r := by
  refine ⟨bs[p], bs.drop (p + 1), List.getElem?_eq_getElem h, List.drop_eq_getElem_cons h⟩
section
variable {P : Program} {w : World} {K : PySem.W.Frag} {mg : Str → Option Value} {base : Heap} {aR : Addr}
theorem sc_skip : FnScope ["text", "start", "at"] ["text", "start"] (defScope s_skip_blanks) := ⟨rfl, rfl, rfl, by decide +kernel, rfl, by decide +kernel, by decide +kernel⟩
theorem ok_skip {f : Addr} {fd : FuncData} (F : Fun K "skip_blanks" "skip_blanks" s_skip_blanks f fd) (hlen : mg "len" = none) : FnOk P w K mg base CX0 1 f fd ["text", "start"] spSkip := by
  refine F.ok sc_skip (fun vs H Q E h => ?_) (fun cdv A outer s H vs Q E hr h => ?_)
  · obtain ⟨a, bs, rfl, _⟩ := h
    rfl
  · obtain ⟨bs, p, rfl, hp, hl, k⟩ := h
    refine ⟨_, pss_cons (ps_set (i := 2) sc_skip.nd rfl (.inl rfl) (pv 1))
      (pss_cons (ps_while PassesOwn.never (PW.pt (pw_and (pt_cmpR op_lt (pv 2) (pe_callB call_len_str (by rfl) hlen PySem.boot_len (pa_cons (pv 0) pa_nil)) (nomark _))
          (pw_and1 (PW.pt (pw_or (pt_cmpR op_eq (pe_item_str (pv 0) (pv 2) (fun _ _ => rfl)) pe_str (nomark _)) (pw_or1 (pt_cmpR op_eq (pe_item_str (pv 0) (pv 2) (fun _ _ => rfl)) pe_str (nomark _))))))))
        (pss_one (ps_aug (i := 2) sc_skip.nd rfl (.inl rfl) pe_int ip_add)))
      (pss_one (ps_ret (pv 2)))), ?_⟩
    refine ⟨_, rfl, ?_⟩
    refine ⟨fun m σ H' => H' = H ∧ ∃ i : Nat, σ = [some (.str (spl bs)), some (.int p), some (.int i)] ∧ m = bs.length - i ∧ i ≤ bs.length ∧ Pm.skipB bs i = Pm.skipB bs p, ⟨_, rfl, p, rfl, rfl, hp, rfl⟩, ?_⟩
    rintro m σ H' ⟨rfl, i, rfl, rfl, hi, hs⟩
    refine ⟨_, rfl, _, rfl, spl bs, rfl, by rw [spl_len]; exact Nat.le_trans hl (by decide), _, _, rfl, rfl, _, rfl, ?_⟩
    rw [spl_len]
    by_cases hlt : i < bs.length
    · refine ifT (decide_eq_true (by omega)) ?_
      obtain ⟨c, r, hc, hd⟩ := get_drop hlt
      have hb := blank_is c
      refine ⟨_, rfl, _, rfl, _, _, _, rfl, rfl, by omega, by omega, by rw [spl_len]; omega, spl_at hc, rfl, _, rfl, ?_⟩
      by_cases h1 : V.str (s1 (gl c.toNat)) = V.str " "
      · refine ifT (decide_eq_true h1) ?_
        rw [decide_eq_true h1, Bool.true_or] at hb
        exact ⟨fun σ' H'' => H'' = H' ∧ σ' = [some (.str (spl bs)), some (.int p), some (.int ((i : Int) + 1))], fun σ' H'' ⟨e1, e2⟩ => ⟨bs.length - (i + 1), by omega, e1, i + 1, e2, rfl, by omega, by rw [← hs, Pm.skip_blank hd hb.symm]⟩, _, rfl, _, _, rfl, rfl, rfl, rfl⟩
      · refine ifF (decide_eq_false h1) ?_
        rw [decide_eq_false h1, Bool.false_or] at hb
        refine ⟨_, rfl, _, rfl, _, _, _, rfl, rfl, by omega, by omega, by rw [spl_len]; omega, spl_at hc, rfl, _, rfl, ?_⟩
        by_cases h2 : V.str (s1 (gl c.toNat)) = V.str "\n"
        · refine ifT (decide_eq_true h2) ?_
          rw [decide_eq_true h2] at hb
          exact ⟨fun σ' H'' => H'' = H' ∧ σ' = [some (.str (spl bs)), some (.int p), some (.int ((i : Int) + 1))], fun σ' H'' ⟨e1, e2⟩ => ⟨bs.length - (i + 1), by omega, e1, i + 1, e2, rfl, by omega, by rw [← hs, Pm.skip_blank hd hb.symm]⟩, _, rfl, _, _, rfl, rfl, rfl, rfl⟩
        · refine ifF (decide_eq_false h2) ?_
          rw [decide_eq_false h2] at hb
          rw [← hs, Pm.skip_none hd hb.symm] at k
          exact ⟨_, rfl, k⟩
    · refine ifF (decide_eq_false (by omega)) ?_
      rw [← hs, Pm.skip_end (List.drop_eq_nil_of_le (by omega))] at k
      exact ⟨_, rfl, k⟩
end
end Hw

set_option maxHeartbeats 4000000
namespace Hw
open PySem L2

def scan (q : UInt8 → Bool) (bs : List UInt8) (p : Nat) : Nat := p + ((bs.drop p).takeWhile q).length
theorem scan_yes {q : UInt8 → Bool} {bs : List UInt8} {p : Nat} {c : UInt8} {r : List UInt8} (h : bs.drop p = c :: r) (hq : q c = true) : scan q bs p = scan q bs (p + 1) := by
  unfold scan
  rw [h, (Pm.drop_get h).2.2, List.takeWhile_cons, if_pos hq]
  simp
  omega
theorem scan_no {q : UInt8 → Bool} {bs : List UInt8} {p : Nat} {c : UInt8} {r : List UInt8} (h : bs.drop p = c :: r) (hq : q c = false) : scan q bs p = p := by
  unfold scan
  rw [h, List.takeWhile_cons, if_neg (by rw [hq]; decide)]
  rfl
theorem scan_end {q : UInt8 → Bool} {bs : List UInt8} {p : Nat} (h : bs.drop p = []) : scan q bs p = p := by
  unfold scan
  rw [h]
  rfl
def spScan (q : UInt8 → Bool) : Sp := fun vs H Q _ => ∃ (bs : List UInt8) (p : Nat), vs = [.str (spl bs), .int p] ∧ p ≤ bs.length ∧ bs.length ≤ 4096 ∧ Q (.int (scan q bs p)) H
def spEndTok : Sp := fun vs H Q _ => ∃ (bs : List UInt8) (p : Nat), vs = [.str (spl bs), .int p] ∧ p < bs.length ∧ bs.length ≤ 4096 ∧ Q (.int (Pm.endT bs p)) H
theorem inWord_is (c : UInt8) : inWord (gl c.toNat) = Pw.inName c := by
  rw [gl_inWord _ (UInt8.toNat_lt c)]
  unfold inWord Pw.inName
  rw [small_is, figure_is]
  congr 2
  rw [Bool.eq_iff_iff]; simp only [beq_iff_eq]; exact ⟨fun h => UInt8.toNat_inj.mp h, fun h => by rw [h]; rfl⟩
theorem small_gl (c : UInt8) : small (gl c.toNat) = Pw.isSmall c := by rw [gl_small _ (UInt8.toNat_lt c), small_is]
theorem figure_gl (c : UInt8) : figure (gl c.toNat) = Pw.isDigit c := by rw [gl_figure _ (UInt8.toNat_lt c), figure_is]
theorem gl_sgn : ∀ n, n < 256 → decide (gl n ∈ ("():;" : Str).cps.toList) = (n == 40 || (n == 41 || (n == 58 || n == 59))) := by decide +kernel
theorem sgn_is (c : UInt8) : decide (gl c.toNat ∈ ("():;" : Str).cps.toList) = Pm.isSgn c := by
  rw [gl_sgn _ (UInt8.toNat_lt c)]
  have e : ∀ k : UInt8, (c.toNat == k.toNat) = (c == k) := fun k => by
    rw [Bool.eq_iff_iff]; simp only [beq_iff_eq]; exact UInt8.toNat_inj
  have := e 40; have := e 41; have := e 58; have := e 59
  unfold Pm.isSgn
  have h : Pw.ascii "():;" = [40, 41, 58, 59] := rfl
  rw [h]
  simp only [List.contains_cons, List.contains_nil, Bool.or_false]
  show (c.toNat == (40 : UInt8).toNat || (c.toNat == (41 : UInt8).toNat || (c.toNat == (58 : UInt8).toNat || c.toNat == (59 : UInt8).toNat))) = _
  rw [e, e, e, e]
section
variable {P : Program} {w : World} {K : PySem.W.Frag} {mg : Str → Option Value} {base : Heap} {aR : Addr}
theorem sc_eow : FnScope ["text", "start", "at"] ["text", "start"] (defScope s_end_of_word) := ⟨rfl, rfl, rfl, by decide +kernel, rfl, by decide +kernel, by decide +kernel⟩
theorem ok_end_of_word {f f1 : Addr} {fd fd1 : FuncData} (F : Fun K "end_of_word" "end_of_word" s_end_of_word f fd) (hlen : mg "len" = none)
    (C1 : Callee P w K mg base 2 "is_in_word" f1 fd1 ["sign"] spIsInWord) : FnOk P w K mg base CX0 3 f fd ["text", "start"] (spScan Pw.inName) := by
  refine F.ok sc_eow (fun vs H Q E h => ?_) (fun cdv A outer s H vs Q E hr h => ?_)
  · obtain ⟨a, bs, rfl, _⟩ := h
    rfl
  · obtain ⟨bs, p, rfl, hp, hl, k⟩ := h
    have hr1 : Room 2 _ := hr
    refine ⟨_, pss_cons (ps_set (i := 2) sc_eow.nd rfl (.inl rfl) (pv 1))
      (pss_cons (ps_while PassesOwn.never (PW.pt (pw_and (pt_cmpR op_lt (pv 2) (pe_callB call_len_str (by rfl) hlen PySem.boot_len (pa_cons (pv 0) pa_nil)) (nomark _))
          (pw_and1 (pt_val (pe_call C1.G hr1 rfl C1.at_ C1.kp C1.b .nil pass0 (pa_cons (pe_item_str (pv 0) (pv 2) (fun _ _ => rfl)) pa_nil))))))
        (pss_one (ps_aug (i := 2) sc_eow.nd rfl (.inl rfl) pe_int ip_add)))
      (pss_one (ps_ret (pv 2)))), ?_⟩
    refine ⟨_, rfl, ?_⟩
    refine ⟨fun m σ H' => H' = H ∧ ∃ i : Nat, σ = [some (.str (spl bs)), some (.int p), some (.int i)] ∧ m = bs.length - i ∧ i ≤ bs.length ∧ scan Pw.inName bs i = scan Pw.inName bs p, ⟨_, rfl, p, rfl, rfl, hp, rfl⟩, ?_⟩
    rintro m σ H' ⟨rfl, i, rfl, rfl, hi, hs⟩
    refine ⟨_, rfl, _, rfl, spl bs, rfl, by rw [spl_len]; exact Nat.le_trans hl (by decide), _, _, rfl, rfl, _, rfl, ?_⟩
    rw [spl_len]
    by_cases hlt : i < bs.length
    · refine ifT (decide_eq_true (by omega)) ?_
      obtain ⟨c, r, hc, hd⟩ := get_drop hlt
      refine ⟨_, rfl, _, rfl, _, _, _, rfl, rfl, by omega, by omega, by rw [spl_len]; omega, spl_at hc, _, rfl, _, rfl, ?_⟩
      rw [inWord_is]
      by_cases h1 : Pw.inName c = true
      · refine ifT h1 ?_
        exact ⟨fun σ' H'' => H'' = H' ∧ σ' = [some (.str (spl bs)), some (.int p), some (.int ((i : Int) + 1))], fun σ' H'' ⟨e1, e2⟩ => ⟨bs.length - (i + 1), by omega, e1, i + 1, e2, rfl, by omega, by rw [← hs, scan_yes hd h1]⟩, _, rfl, _, _, rfl, rfl, rfl, rfl⟩
      · rw [Bool.not_eq_true] at h1
        refine ifF h1 ?_
        rw [← hs, scan_no hd h1] at k
        exact ⟨_, rfl, k⟩
    · refine ifF (decide_eq_false (by omega)) ?_
      rw [← hs, scan_end (List.drop_eq_nil_of_le (by omega))] at k
      exact ⟨_, rfl, k⟩
theorem sc_eon : FnScope ["text", "start", "at"] ["text", "start"] (defScope s_end_of_number) := ⟨rfl, rfl, rfl, by decide +kernel, rfl, by decide +kernel, by decide +kernel⟩
theorem ok_end_of_number {f f1 : Addr} {fd fd1 : FuncData} (F : Fun K "end_of_number" "end_of_number" s_end_of_number f fd) (hlen : mg "len" = none)
    (C1 : Callee P w K mg base 1 "is_figure" f1 fd1 ["sign"] spIsFigure) : FnOk P w K mg base CX0 2 f fd ["text", "start"] (spScan Pw.isDigit) := by
  refine F.ok sc_eon (fun vs H Q E h => ?_) (fun cdv A outer s H vs Q E hr h => ?_)
  · obtain ⟨a, bs, rfl, _⟩ := h
    rfl
  · obtain ⟨bs, p, rfl, hp, hl, k⟩ := h
    have hr1 : Room 1 _ := hr
    refine ⟨_, pss_cons (ps_set (i := 2) sc_eon.nd rfl (.inl rfl) (pv 1))
      (pss_cons (ps_while PassesOwn.never (PW.pt (pw_and (pt_cmpR op_lt (pv 2) (pe_callB call_len_str (by rfl) hlen PySem.boot_len (pa_cons (pv 0) pa_nil)) (nomark _))
          (pw_and1 (pt_val (pe_call C1.G hr1 rfl C1.at_ C1.kp C1.b .nil pass0 (pa_cons (pe_item_str (pv 0) (pv 2) (fun _ _ => rfl)) pa_nil))))))
        (pss_one (ps_aug (i := 2) sc_eon.nd rfl (.inl rfl) pe_int ip_add)))
      (pss_one (ps_ret (pv 2)))), ?_⟩
    refine ⟨_, rfl, ?_⟩
    refine ⟨fun m σ H' => H' = H ∧ ∃ i : Nat, σ = [some (.str (spl bs)), some (.int p), some (.int i)] ∧ m = bs.length - i ∧ i ≤ bs.length ∧ scan Pw.isDigit bs i = scan Pw.isDigit bs p, ⟨_, rfl, p, rfl, rfl, hp, rfl⟩, ?_⟩
    rintro m σ H' ⟨rfl, i, rfl, rfl, hi, hs⟩
    refine ⟨_, rfl, _, rfl, spl bs, rfl, by rw [spl_len]; exact Nat.le_trans hl (by decide), _, _, rfl, rfl, _, rfl, ?_⟩
    rw [spl_len]
    by_cases hlt : i < bs.length
    · refine ifT (decide_eq_true (by omega)) ?_
      obtain ⟨c, r, hc, hd⟩ := get_drop hlt
      refine ⟨_, rfl, _, rfl, _, _, _, rfl, rfl, by omega, by omega, by rw [spl_len]; omega, spl_at hc, _, rfl, _, rfl, ?_⟩
      rw [figure_gl]
      by_cases h1 : Pw.isDigit c = true
      · refine ifT h1 ?_
        exact ⟨fun σ' H'' => H'' = H' ∧ σ' = [some (.str (spl bs)), some (.int p), some (.int ((i : Int) + 1))], fun σ' H'' ⟨e1, e2⟩ => ⟨bs.length - (i + 1), by omega, e1, i + 1, e2, rfl, by omega, by rw [← hs, scan_yes hd h1]⟩, _, rfl, _, _, rfl, rfl, rfl, rfl⟩
      · rw [Bool.not_eq_true] at h1
        refine ifF h1 ?_
        rw [← hs, scan_no hd h1] at k
        exact ⟨_, rfl, k⟩
    · refine ifF (decide_eq_false (by omega)) ?_
      rw [← hs, scan_end (List.drop_eq_nil_of_le (by omega))] at k
      exact ⟨_, rfl, k⟩
theorem sc_eot : FnScope ["text", "start", "sign"] ["text", "start"] (defScope s_end_of_token) := ⟨rfl, rfl, rfl, by decide +kernel, rfl, by decide +kernel, by decide +kernel⟩
theorem ok_end_of_token {f f1 f2 f3 f4 : Addr} {fd fd1 fd2 fd3 fd4 : FuncData} (F : Fun K "end_of_token" "end_of_token" s_end_of_token f fd)
    (C1 : Callee P w K mg base 1 "is_letter" f1 fd1 ["sign"] spIsLetter) (C2 : Callee P w K mg base 1 "is_figure" f2 fd2 ["sign"] spIsFigure)
    (C3 : Callee P w K mg base 3 "end_of_word" f3 fd3 ["text", "start"] (spScan Pw.inName)) (C4 : Callee P w K mg base 2 "end_of_number" f4 fd4 ["text", "start"] (spScan Pw.isDigit)) :
    FnOk P w K mg base CX0 4 f fd ["text", "start"] spEndTok := by
  refine F.ok sc_eot (fun vs H Q E h => ?_) (fun cdv A outer s H vs Q E hr h => ?_)
  · obtain ⟨a, bs, rfl, _⟩ := h
    rfl
  · obtain ⟨bs, p, rfl, hp, hl, k⟩ := h
    have hr1 : Room 1 _ := hr.mono (by decide)
    have hr2 : Room 2 _ := hr.mono (by decide)
    refine ⟨_, pss_cons (ps_set (i := 2) sc_eot.nd rfl (.inl rfl) (pe_item_str (pv 0) (pv 1) (fun _ _ => rfl)))
      (pss_cons (ps_if (pt_val (pe_call C1.G hr1 rfl C1.at_ C1.kp C1.b .nil pass0 (pa_cons (pv 2) pa_nil)))
        (pss_one (ps_ret (pe_call C3.G hr rfl C3.at_ C3.kp C3.b .nil pass0 (pa_cons (pv 0) (pa_cons (pv 1) pa_nil))))) pss_nil)
      (pss_cons (ps_if (pt_val (pe_call C2.G hr1 rfl C2.at_ C2.kp C2.b .nil pass0 (pa_cons (pv 2) pa_nil)))
        (pss_one (ps_ret (pe_call C4.G hr2 rfl C4.at_ C4.kp C4.b .nil pass0 (pa_cons (pv 0) (pa_cons (pv 1) pa_nil))))) pss_nil)
      (pss_cons (ps_if (pt_cmpR op_in_sign (pv 2) pe_str (by rfl)) (pss_one (ps_ret (pe_op op_add (pv 1) pe_int))) pss_nil)
      (pss_one (ps_ret (pv 1)))))), ?_⟩
    obtain ⟨c, r, hc, hd⟩ := get_drop hp
    unfold Pm.endT at k
    rw [hd] at k
    refine ⟨_, rfl, _, rfl, _, _, _, rfl, rfl, by omega, by omega, by rw [spl_len]; omega, spl_at hc, ?_⟩
    refine ⟨_, rfl, _, rfl, _, rfl, ?_⟩
    rw [small_gl]
    by_cases h1 : Pw.isSmall c = true
    · refine ifT h1 ?_
      simp only [h1, if_true] at k
      refine ⟨_, rfl, _, rfl, bs, p, rfl, by omega, hl, ?_⟩
      unfold scan
      rw [hd]
      exact k
    · rw [Bool.not_eq_true] at h1
      refine ifF h1 ?_
      simp only [h1] at k
      refine ⟨_, rfl, _, rfl, _, rfl, ?_⟩
      rw [figure_gl]
      by_cases h2 : Pw.isDigit c = true
      · refine ifT h2 ?_
        simp only [h2, if_true] at k
        refine ⟨_, rfl, _, rfl, bs, p, rfl, by omega, hl, ?_⟩
        unfold scan
        rw [hd]
        exact k
      · rw [Bool.not_eq_true] at h2
        refine ifF h2 ?_
        simp only [h2] at k
        refine ⟨_, rfl, _, _, rfl, rfl, _, rfl, ?_⟩
        rw [sgn_is]
        by_cases h3 : Pm.isSgn c = true
        · refine ifT h3 ?_
          simp only [h3, if_true] at k
          exact ⟨_, rfl, _, _, rfl, rfl, k⟩
        · rw [Bool.not_eq_true] at h3
          refine ifF h3 ?_
          simp only [h3] at k
          exact ⟨_, rfl, k⟩
end
end Hw

set_option maxHeartbeats 4000000
namespace Hw
open PySem L2
open Pm (PM R Op Ex)

/-! ## Fields by place -/
theorem lk_zip : ∀ {ks : List Str} {vs : List V} {i : Nat} {k : Str}, ks.Nodup → ks[i]? = some k → (ks.zip vs).lookup k = vs[i]?
  | [], vs, i, k, _, h => by simp at h
  | a :: ks, [], i, k, _, h => by simp
  | a :: ks, v :: vs, 0, k, _, h => by
    cases h
    rw [List.zip_cons_cons, List.lookup, beq_self_eq_true]
    rfl
  | a :: ks, v :: vs, i + 1, k, nd, h => by
    have hk : ks[i]? = some k := by simpa using h
    have hne : (k == a) = false := by
      rw [beq_eq_false_iff_ne]
      intro e
      subst e
      exact (List.nodup_cons.mp nd).1 (List.mem_of_getElem? hk)
    rw [List.zip_cons_cons, List.lookup, hne]
    simpa using lk_zip (i := i) (List.nodup_cons.mp nd).2 hk
theorem lk_none : ∀ {ks : List Str} {vs : List V} {k : Str}, k ∉ ks → (ks.zip vs).lookup k = none
  | [], vs, k, _ => by simp
  | a :: ks, [], k, _ => by simp
  | a :: ks, v :: vs, k, h => by
    have hne : (k == a) = false := by
      rw [beq_eq_false_iff_ne]
      intro e
      exact h (e ▸ List.mem_cons_self ..)
    rw [List.zip_cons_cons, List.lookup, hne]
    exact lk_none fun z => h (List.mem_cons_of_mem _ z)
theorem put_zip : ∀ {ks : List Str} {vs : List V} {i : Nat} {k : Str} {v : V}, ks.Nodup → ks[i]? = some k → ks.length = vs.length → putF k v (ks.zip vs) = ks.zip (vs.set i v)
  | [], vs, i, k, v, _, h, _ => by simp at h
  | a :: ks, [], i, k, v, _, h, hl => by simp at hl
  | a :: ks, x :: vs, 0, k, v, _, h, _ => by
    cases h
    rw [List.zip_cons_cons, putF, if_pos rfl]
    rfl
  | a :: ks, x :: vs, i + 1, k, v, nd, h, hl => by
    have hk : ks[i]? = some k := by simpa using h
    have hne : ¬ a = k := by
      intro e
      subst e
      exact (List.nodup_cons.mp nd).1 (List.mem_of_getElem? hk)
    rw [List.zip_cons_cons, putF, if_neg hne, put_zip (i := i) (List.nodup_cons.mp nd).2 hk (by simpa using hl)]
    rfl
theorem zip_few {ks : List Str} {vs : List V} (h : ks.length < 1000) : (ks.zip vs).length < 1000 := by
  rw [List.length_zip]
  exact Nat.lt_of_le_of_lt (Nat.min_le_left _ _) h

/-! ## Two rows, member by member -/
def A2 {α β : Type} (S : α → β → Prop) : List α → List β → Prop
  | [], [] => True
  | a :: l, b :: m => S a b ∧ A2 S l m
  | _, _ => False
theorem A2.len {α β : Type} {S : α → β → Prop} : ∀ {l : List α} {m : List β}, A2 S l m → l.length = m.length
  | [], [], _ => rfl
  | _ :: _, _ :: _, h => by rw [List.length_cons, List.length_cons, A2.len h.2]
  | [], _ :: _, h => h.elim
  | _ :: _, [], h => h.elim
theorem A2.imp {α β : Type} {S T : α → β → Prop} : ∀ {l : List α} {m : List β}, A2 S l m → (∀ a b, a ∈ l → S a b → T a b) → A2 T l m
  | [], [], _, _ => trivial
  | a :: _, _ :: _, h, f => ⟨f _ _ (List.mem_cons_self ..) h.1, A2.imp h.2 fun a b ha => f a b (List.mem_cons_of_mem _ ha)⟩
  | [], _ :: _, h, _ => h.elim
  | _ :: _, [], h, _ => h.elim
theorem A2.append {α β : Type} {S : α → β → Prop} : ∀ {l l' : List α} {m m' : List β}, A2 S l m → A2 S l' m' → A2 S (l ++ l') (m ++ m')
  | [], _, [], _, _, h => h
  | _ :: _, _, _ :: _, _, h, h2 => ⟨h.1, A2.append h.2 h2⟩
  | [], _, _ :: _, _, h, _ => h.elim
  | _ :: _, _, [], _, h, _ => h.elim
theorem A2.get {α β : Type} {S : α → β → Prop} : ∀ {l : List α} {m : List β} {i : Nat} {b : β}, A2 S l m → m[i]? = some b → ∃ a, l[i]? = some a ∧ S a b
  | [], [], i, b, _, e => by simp at e
  | a :: _, _ :: _, 0, b, h, e => by
    cases e
    exact ⟨a, rfl, h.1⟩
  | _ :: l, _ :: m, i + 1, b, h, e => A2.get (i := i) h.2 (by simpa using e)
  | [], _ :: _, _, _, h, _ => h.elim
  | _ :: _, [], _, _, h, _ => h.elim

/-! ## Texts of kinds -/
def opStr : Op → Str
  | .yes => "yes" | .no => "no" | .name => "name" | .not_ => "not" | .once => "once" | .always => "always" | .before => "before"
  | .least => "least" | .since => "since" | .and_ => "and" | .or_ => "or" | .implies => "implies" | .paren => "("
theorem opStr_inj : ∀ {a b : Op}, opStr a = opStr b → a = b := by
  intro a b h
  cases a <;> cases b <;> first | rfl | exact absurd h (by decide +kernel)
theorem opStr_eq (a b : Op) : decide (V.str (opStr a) = V.str (opStr b)) = decide (a = b) := by
  by_cases h : a = b
  · rw [decide_eq_true h, decide_eq_true (by rw [h])]
  · rw [decide_eq_false h, decide_eq_false (fun q => h (opStr_inj (V.str.inj q)))]
def oi : Option Nat → V
  | none => .non
  | some n => .int n

/-! ## Parts -/
def pK : List Str := ["kind", "operands", "name", "needed", "span", "slot"]
theorem pKnd : pK.Nodup := by decide +kernel
structure PA where
  a : Addr
  dx : Addr
  ops : Addr
def pV (o : Addr) (p : PM) : List V := [.str (opStr p.op), .ref o, .str (sb p.name), .int p.needed, oi p.span, oi p.slot]
structure PartAt (C : Addr) (H : Hp) (q : PA) (p : PM) : Prop where
  ins : H q.a = some (.ins C q.dx (pK.zip (pV q.ops p)))
  ops : H q.ops = some (.lst (p.ops.map V.int))
def paA (q : PA) : List Addr := [q.a, q.ops]
theorem PartAt.off {C : Addr} {H : Hp} {q : PA} {p : PM} {a : Addr} {o : HO} (h : PartAt C H q p) (n : a ∉ paA q) : PartAt C (upd H a o) q p := by
  unfold paA at n
  simp only [List.mem_cons, List.not_mem_nil, or_false, not_or] at n
  exact ⟨by rw [upd_ne (Ne.symm n.1)]; exact h.ins, by rw [upd_ne (Ne.symm n.2)]; exact h.ops⟩
theorem parts_off {C : Addr} {H : Hp} {qs : List PA} {ps : List PM} {a : Addr} {o : HO} (h : A2 (PartAt C H) qs ps) (n : a ∉ qs.flatMap paA) : A2 (PartAt C (upd H a o)) qs ps :=
  h.imp fun q p hq hp => hp.off fun z => n (List.mem_flatMap.mpr ⟨q, hq, z⟩)
theorem parts_same {C : Addr} {H H' : Hp} {qs : List PA} {ps : List PM} (s : Same H H') (h : A2 (PartAt C H) qs ps) : A2 (PartAt C H') qs ps :=
  h.imp fun q p _ hp => ⟨s _ _ hp.ins, s _ _ hp.ops⟩

/-! ## Members -/
def MemV (K : PySem.W.Frag) (H : Hp) (v : V) : Pw.Mem → Prop
  | .at_ none => v = .non
  | .at_ (some t) => v = .int t
  | .was b => v = .bl b
  | .times l => ∃ a, v = .ref a ∧ SqT K H a (l.map V.int)
theorem sqT_off {K : PySem.W.Frag} {H : Hp} {t a : Addr} {xs : List V} {o : HO} (h : SqT K H t xs) (n : H a = none ∨ Mut (H a)) : SqT K (upd H a o) t xs := by
  rcases h with (h | ⟨u, h⟩) | h
  · refine .inl (.inl ?_)
    rw [upd_ne]
    · exact h
    · intro e
      subst e
      rw [h] at n
      rcases n with n | n
      · cases n
      · exact n
  · refine .inl (.inr ⟨u, ?_⟩)
    rw [upd_ne]
    · exact h
    · intro e
      subst e
      rw [h] at n
      rcases n with n | n
      · cases n
      · exact n
  · exact .inr h
theorem MemV.off {K : PySem.W.Frag} {H : Hp} {v : V} {m : Pw.Mem} {a : Addr} {o : HO} (h : MemV K H v m) (n : H a = none ∨ Mut (H a)) : MemV K (upd H a o) v m := by
  cases m with
  | at_ t => cases t <;> exact h
  | was b => exact h
  | times l =>
    obtain ⟨b, e, q⟩ := h
    exact ⟨b, e, sqT_off q n⟩
theorem mems_off {K : PySem.W.Frag} {H : Hp} {vs : List V} {ms : List Pw.Mem} {a : Addr} {o : HO} (h : A2 (MemV K H) vs ms) (n : H a = none ∨ Mut (H a)) : A2 (MemV K (upd H a o)) vs ms :=
  h.imp fun _ _ _ q => q.off n
theorem sqT_same {K : PySem.W.Frag} {H H' : Hp} {t : Addr} {xs : List V} (s : Same H H') (h : SqT K H t xs) : SqT K H' t xs := by
  rcases h with (h | ⟨u, h⟩) | h
  · exact .inl (.inl (s _ _ h))
  · exact .inl (.inr ⟨u, s _ _ h⟩)
  · exact .inr h
theorem MemV.same {K : PySem.W.Frag} {H H' : Hp} {v : V} {m : Pw.Mem} (s : Same H H') (h : MemV K H v m) : MemV K H' v m := by
  cases m with
  | at_ t => cases t <;> exact h
  | was b => exact h
  | times l =>
    obtain ⟨b, e, q⟩ := h
    exact ⟨b, e, sqT_same s q⟩
/-- a member's kind, by the word that it stands for: what such a member is at first tells enough of it -/
def KindV (_ : PySem.W.Frag) (_ : Hp) (v : V) (m : Pw.Mem) : Prop := ∃ op : Op, v = .str (opStr op) ∧ m = Pm.firstMem op
theorem KindV.off {K : PySem.W.Frag} {H : Hp} {v : V} {m : Pw.Mem} {a : Addr} {o : HO} (h : KindV K H v m) (_ : H a = none ∨ Mut (H a)) : KindV K (upd H a o) v m := h
theorem KindV.same {K : PySem.W.Frag} {H H' : Hp} {v : V} {m : Pw.Mem} (_ : Same H H') (h : KindV K H v m) : KindV K H' v m := h
theorem kinds_off {K : PySem.W.Frag} {H : Hp} {vs : List V} {ms : List Pw.Mem} {a : Addr} {o : HO} (h : A2 (KindV K H) vs ms) (n : H a = none ∨ Mut (H a)) : A2 (KindV K (upd H a o)) vs ms :=
  h.imp fun _ _ _ q => q.off n
end Hw

set_option maxHeartbeats 4000000
namespace Hw
open PySem L2
open Pm (PM R Op Ex)

/-! ## The reader in the heap -/
def cStr (i : Nat) : Str := match top i with
  | .Assign _ (.Constant (.str z) _ _) _ => z
  | _ => Str.empty
def exStr : Ex → Str
  | .watch => cStr i_WATCH | .colon => cStr i_COLON | .operand => cStr i_OPERAND | .within => cStr i_WITHIN | .needed => cStr i_NEEDED | .span => cStr i_SPAN | .joint => cStr i_JOINT
theorem exStr_inj : ∀ {a b : Ex}, exStr a = exStr b → a = b := by
  intro a b h
  cases a <;> cases b <;> first | rfl | exact absurd h (by decide +kernel)
theorem exStr_eq (a b : Ex) : decide (V.str (exStr a) = V.str (exStr b)) = decide (a = b) := by
  by_cases h : a = b
  · rw [decide_eq_true h, decide_eq_true (by rw [h])]
  · rw [decide_eq_false h, decide_eq_false (fun q => h (exStr_inj (V.str.inj q)))]
def rK : List Str := ["expected", "known", "watches", "parts", "pending", "depth", "total", "kinds"]
theorem rKnd : rK.Nodup := by decide +kernel
structure RA where
  dx : Addr
  k : Addr
  w : Addr
  ps : Addr
  pe : Addr
  b : Addr
  qs : List PA
  qe : List PA
  qo : List PA
  bv : List V
def RA.foot (r : RA) (x : Addr) : List Addr := x :: r.k :: r.w :: r.ps :: r.pe :: r.b :: (r.qs.flatMap paA ++ (r.qe.flatMap paA ++ r.qo.flatMap paA))
def rV (r : RA) (s : R) : List V := [.str (exStr s.exp), .ref r.k, .ref r.w, .ref r.ps, .ref r.pe, .int s.depth, .int s.total, .ref r.b]
structure RdAt (K : PySem.W.Frag) (CR CP : Addr) (H0 H : Hp) (x : Addr) (s : R) (outs : List PM) (r : RA) : Prop where
  same : Same H0 H
  ins : H x = some (.ins CR r.dx (rK.zip (rV r s)))
  known : H r.k = some (.dK (s.known.map fun n => ((Sum.inr (sb n) : Key), V.bl true)))
  watches : H r.w = some (.lst (s.watches.map V.int))
  parts : H r.ps = some (.lst (r.qs.map fun q => V.ref q.a))
  pend : H r.pe = some (.lst (r.qe.reverse.map fun q => V.ref q.a))
  beg : H r.b = some (.lst r.bv)
  aP : A2 (PartAt CP H) r.qs s.parts
  aE : A2 (PartAt CP H) r.qe s.pend
  aO : A2 (PartAt CP H) r.qo outs
  aB : A2 (KindV K H) r.bv s.beg
  nd : (r.foot x).Nodup
  new : ∀ a ∈ r.foot x, H0 a = none
section
variable {K : PySem.W.Frag} {CR CP : Addr} {H0 H : Hp} {x : Addr} {s : R} {outs : List PM} {r : RA}
/-- the places that differ -/
structure Diff (r : RA) (x : Addr) : Prop where
  x1 : r.k ≠ x
  x2 : r.w ≠ x
  x3 : r.ps ≠ x
  x4 : r.pe ≠ x
  x5 : r.b ≠ x
  k2 : r.w ≠ r.k
  k3 : r.ps ≠ r.k
  k4 : r.pe ≠ r.k
  k5 : r.b ≠ r.k
  w3 : r.ps ≠ r.w
  w4 : r.pe ≠ r.w
  w5 : r.b ≠ r.w
  p4 : r.pe ≠ r.ps
  p5 : r.b ≠ r.ps
  e5 : r.b ≠ r.pe
  tail : ∀ a, a ∈ [x, r.k, r.w, r.ps, r.pe, r.b] → a ∉ r.qs.flatMap paA ∧ a ∉ r.qe.flatMap paA ∧ a ∉ r.qo.flatMap paA
  nd : (r.qs.flatMap paA ++ (r.qe.flatMap paA ++ r.qo.flatMap paA)).Nodup
theorem RdAt.diff (h : RdAt K CR CP H0 H x s outs r) : Diff r x := by
  have nd := h.nd
  unfold RA.foot at nd
  simp only [List.nodup_cons, List.mem_cons, not_or, List.mem_append] at nd
  obtain ⟨⟨a1, a2, a3, a4, a5, a6⟩, ⟨b2, b3, b4, b5, b6⟩, ⟨c3, c4, c5, c6⟩, ⟨d4, d5, d6⟩, ⟨e5, e6⟩, f6, g⟩ := nd
  refine ⟨Ne.symm a1, Ne.symm a2, Ne.symm a3, Ne.symm a4, Ne.symm a5, Ne.symm b2, Ne.symm b3, Ne.symm b4, Ne.symm b5, Ne.symm c3, Ne.symm c4, Ne.symm c5, Ne.symm d4, Ne.symm d5, Ne.symm e5, ?_, g⟩
  intro a ha
  simp only [List.mem_cons, List.not_mem_nil, or_false] at ha
  rcases ha with rfl | rfl | rfl | rfl | rfl | rfl
  · exact ⟨a6.1, a6.2.1, a6.2.2⟩
  · exact ⟨b6.1, b6.2.1, b6.2.2⟩
  · exact ⟨c6.1, c6.2.1, c6.2.2⟩
  · exact ⟨d6.1, d6.2.1, d6.2.2⟩
  · exact ⟨e6.1, e6.2.1, e6.2.2⟩
  · exact ⟨f6.1, f6.2.1, f6.2.2⟩
theorem RdAt.newx (h : RdAt K CR CP H0 H x s outs r) : H0 x = none := h.new _ (List.mem_cons_self ..)
/-- fields that hold no object -/
theorem RdAt.fld {s' : R} (h : RdAt K CR CP H0 H x s outs r) (e1 : s'.known = s.known) (e2 : s'.watches = s.watches) (e3 : s'.parts = s.parts) (e4 : s'.pend = s.pend) (e5 : s'.beg = s.beg) :
    RdAt K CR CP H0 (upd H x (.ins CR r.dx (rK.zip (rV r s')))) x s' outs r := by
  have d := h.diff
  have t := d.tail x (by simp)
  have m : H x = none ∨ Mut (H x) := .inr (by rw [h.ins]; trivial)
  exact ⟨same_upd h.same h.newx, upd_same, by rw [upd_ne d.x1, e1]; exact h.known, by rw [upd_ne d.x2, e2]; exact h.watches, by rw [upd_ne d.x3]; exact h.parts, by rw [upd_ne d.x4]; exact h.pend, by rw [upd_ne d.x5]; exact h.beg,
    by rw [e3]; exact parts_off h.aP t.1, by rw [e4]; exact parts_off h.aE t.2.1, parts_off h.aO t.2.2, by rw [e5]; exact kinds_off h.aB m, h.nd, h.new⟩
theorem RdAt.knownPut {n : List UInt8} (h : RdAt K CR CP H0 H x s outs r) :
    RdAt K CR CP H0 (upd H r.k (.dK ((s.known ++ [n]).map fun n => ((Sum.inr (sb n) : Key), V.bl true)))) x { s with known := s.known ++ [n] } outs r := by
  have d := h.diff
  have t := d.tail r.k (by simp)
  have m : H r.k = none ∨ Mut (H r.k) := .inr (by rw [h.known]; trivial)
  exact ⟨same_upd h.same (h.new _ (by simp [RA.foot])), by rw [upd_ne (Ne.symm d.x1)]; exact h.ins, upd_same, by rw [upd_ne d.k2]; exact h.watches, by rw [upd_ne d.k3]; exact h.parts, by rw [upd_ne d.k4]; exact h.pend, by rw [upd_ne d.k5]; exact h.beg,
    parts_off h.aP t.1, parts_off h.aE t.2.1, parts_off h.aO t.2.2, kinds_off h.aB m, h.nd, h.new⟩
theorem RdAt.watchPut {i : Int} (h : RdAt K CR CP H0 H x s outs r) :
    RdAt K CR CP H0 (upd H r.w (.lst (s.watches.map V.int ++ [.int i]))) x { s with watches := s.watches ++ [i] } outs r := by
  have d := h.diff
  have t := d.tail r.w (by simp)
  have m : H r.w = none ∨ Mut (H r.w) := .inr (by rw [h.watches]; trivial)
  exact ⟨same_upd h.same (h.new _ (by simp [RA.foot])), by rw [upd_ne (Ne.symm d.x2)]; exact h.ins, by rw [upd_ne (Ne.symm d.k2)]; exact h.known, by rw [upd_same, List.map_append]; rfl, by rw [upd_ne d.w3]; exact h.parts, by rw [upd_ne d.w4]; exact h.pend, by rw [upd_ne d.w5]; exact h.beg,
    parts_off h.aP t.1, parts_off h.aE t.2.1, parts_off h.aO t.2.2, kinds_off h.aB m, h.nd, h.new⟩
theorem RdAt.begPut {v : V} {mm : Pw.Mem} (h : RdAt K CR CP H0 H x s outs r) (hv : KindV K H v mm) :
    RdAt K CR CP H0 (upd H r.b (.lst (r.bv ++ [v]))) x { s with beg := s.beg ++ [mm] } outs { r with bv := r.bv ++ [v] } := by
  have d := h.diff
  have t := d.tail r.b (by simp)
  have m : H r.b = none ∨ Mut (H r.b) := .inr (by rw [h.beg]; trivial)
  exact ⟨same_upd h.same (h.new _ (by simp [RA.foot])), by rw [upd_ne (Ne.symm d.x5)]; exact h.ins, by rw [upd_ne (Ne.symm d.k5)]; exact h.known, by rw [upd_ne (Ne.symm d.w5)]; exact h.watches, by rw [upd_ne (Ne.symm d.p5)]; exact h.parts, by rw [upd_ne (Ne.symm d.e5)]; exact h.pend, upd_same,
    parts_off h.aP t.1, parts_off h.aE t.2.1, parts_off h.aO t.2.2, (kinds_off h.aB m).append ⟨hv.off m, trivial⟩, h.nd, h.new⟩
/-- a part from outside becomes pending -/
theorem RdAt.push {q : PA} {qo : List PA} {p : PM} (h : RdAt K CR CP H0 H x s (p :: outs) r) (hq : r.qo = q :: qo) :
    RdAt K CR CP H0 (upd H r.pe (.lst (r.qe.reverse.map (fun q => V.ref q.a) ++ [.ref q.a]))) x { s with pend := p :: s.pend } outs { r with qe := q :: r.qe, qo := qo } := by
  have d := h.diff
  have t := d.tail r.pe (by simp)
  have m : H r.pe = none ∨ Mut (H r.pe) := .inr (by rw [h.pend]; trivial)
  have aO := h.aO
  rw [hq] at aO
  have t3 := t.2.2
  rw [hq, List.flatMap_cons] at t3
  have pe : (({ r with qe := q :: r.qe, qo := qo } : RA).foot x).Perm (r.foot x) := by
    unfold RA.foot
    simp only [hq, List.flatMap_cons]
    refine List.Perm.cons _ (List.Perm.cons _ (List.Perm.cons _ (List.Perm.cons _ (List.Perm.cons _ (List.Perm.cons _ ?_)))))
    refine List.Perm.append_left _ ?_
    rw [← List.append_assoc (r.qe.flatMap paA)]
    exact List.Perm.append_right _ List.perm_append_comm
  exact ⟨same_upd h.same (h.new _ (by simp [RA.foot])), by rw [upd_ne (Ne.symm d.x4)]; exact h.ins, by rw [upd_ne (Ne.symm d.k4)]; exact h.known, by rw [upd_ne (Ne.symm d.w4)]; exact h.watches, by rw [upd_ne (Ne.symm d.p4)]; exact h.parts,
    by rw [upd_same, List.reverse_cons, List.map_append]; rfl, by rw [upd_ne d.e5]; exact h.beg,
    parts_off h.aP t.1, ⟨aO.1.off (fun z => t3 (List.mem_append_left _ z)), parts_off h.aE t.2.1⟩, parts_off aO.2 (fun z => t3 (List.mem_append_right _ z)), kinds_off h.aB m, pe.nodup_iff.mpr h.nd, fun a ha => h.new a (pe.mem_iff.mp ha)⟩
/-- a part from outside goes behind the parts -/
theorem RdAt.done {q : PA} {qo : List PA} {p : PM} (h : RdAt K CR CP H0 H x s (p :: outs) r) (hq : r.qo = q :: qo) :
    RdAt K CR CP H0 (upd H r.ps (.lst (r.qs.map (fun q => V.ref q.a) ++ [.ref q.a]))) x { s with parts := s.parts ++ [p] } outs { r with qs := r.qs ++ [q], qo := qo } := by
  have d := h.diff
  have t := d.tail r.ps (by simp)
  have m : H r.ps = none ∨ Mut (H r.ps) := .inr (by rw [h.parts]; trivial)
  have aO := h.aO
  rw [hq] at aO
  have t3 := t.2.2
  rw [hq, List.flatMap_cons] at t3
  have pe : (({ r with qs := r.qs ++ [q], qo := qo } : RA).foot x).Perm (r.foot x) := by
    unfold RA.foot
    simp only [hq, List.flatMap_cons, List.flatMap_append, List.flatMap_nil, List.append_nil]
    refine List.Perm.cons _ (List.Perm.cons _ (List.Perm.cons _ (List.Perm.cons _ (List.Perm.cons _ (List.Perm.cons _ ?_)))))
    rw [List.append_assoc]
    refine List.Perm.append_left _ ?_
    rw [← List.append_assoc, ← List.append_assoc]
    exact List.Perm.append_right _ List.perm_append_comm
  exact ⟨same_upd h.same (h.new _ (by simp [RA.foot])), by rw [upd_ne (Ne.symm d.x3)]; exact h.ins, by rw [upd_ne (Ne.symm d.k3)]; exact h.known, by rw [upd_ne (Ne.symm d.w3)]; exact h.watches, by rw [upd_same, List.map_append]; rfl,
    by rw [upd_ne d.p4]; exact h.pend, by rw [upd_ne d.p5]; exact h.beg,
    (parts_off h.aP t.1).append ⟨aO.1.off (fun z => t3 (List.mem_append_left _ z)), trivial⟩, parts_off h.aE t.2.1, parts_off aO.2 (fun z => t3 (List.mem_append_right _ z)), kinds_off h.aB m, pe.nodup_iff.mpr h.nd, fun a ha => h.new a (pe.mem_iff.mp ha)⟩
/-- the last pending one is taken out -/
theorem RdAt.pop {q : PA} {qe : List PA} {p : PM} {st : List PM} (h : RdAt K CR CP H0 H x s outs r) (hp : s.pend = p :: st) (hq : r.qe = q :: qe) :
    RdAt K CR CP H0 (upd H r.pe (.lst (qe.reverse.map (fun q => V.ref q.a)))) x { s with pend := st } (p :: outs) { r with qe := qe, qo := q :: r.qo } := by
  have d := h.diff
  have t := d.tail r.pe (by simp)
  have m : H r.pe = none ∨ Mut (H r.pe) := .inr (by rw [h.pend]; trivial)
  have aE := h.aE
  rw [hq, hp] at aE
  have t3 := t.2.1
  rw [hq, List.flatMap_cons] at t3
  have pe : (({ r with qe := qe, qo := q :: r.qo } : RA).foot x).Perm (r.foot x) := by
    unfold RA.foot
    simp only [hq, List.flatMap_cons]
    refine List.Perm.cons _ (List.Perm.cons _ (List.Perm.cons _ (List.Perm.cons _ (List.Perm.cons _ (List.Perm.cons _ ?_)))))
    refine List.Perm.append_left _ ?_
    rw [← List.append_assoc]
    exact List.Perm.append_right _ List.perm_append_comm
  exact ⟨same_upd h.same (h.new _ (by simp [RA.foot])), by rw [upd_ne (Ne.symm d.x4)]; exact h.ins, by rw [upd_ne (Ne.symm d.k4)]; exact h.known, by rw [upd_ne (Ne.symm d.w4)]; exact h.watches, by rw [upd_ne (Ne.symm d.p4)]; exact h.parts,
    upd_same, by rw [upd_ne d.e5]; exact h.beg,
    parts_off h.aP t.1, parts_off aE.2 (fun z => t3 (List.mem_append_right _ z)), ⟨aE.1.off (fun z => t3 (List.mem_append_left _ z)), parts_off h.aO t.2.2⟩, kinds_off h.aB m, pe.nodup_iff.mpr h.nd, fun a ha => h.new a (pe.mem_iff.mp ha)⟩
theorem RdAt.forget (h : RdAt K CR CP H0 H x s outs r) : RdAt K CR CP H0 H x s [] { r with qo := [] } := by
  have sub : (({ r with qo := [] } : RA).foot x).Sublist (r.foot x) := by
    unfold RA.foot
    refine List.Sublist.cons_cons _ (List.Sublist.cons_cons _ (List.Sublist.cons_cons _ (List.Sublist.cons_cons _ (List.Sublist.cons_cons _ (List.Sublist.cons_cons _ ?_)))))
    exact List.Sublist.append (List.Sublist.refl _) (List.Sublist.append (List.Sublist.refl _) (List.nil_sublist _))
  exact ⟨h.same, h.ins, h.known, h.watches, h.parts, h.pend, h.beg, h.aP, h.aE, trivial, h.aB, h.nd.sublist sub, fun a ha => h.new a (sub.subset ha)⟩
end
end Hw

set_option maxHeartbeats 4000000
namespace Hw
open PySem L2
open Pm (PM R Op Ex)
section
variable {K : PySem.W.Frag} {CR CP : Addr} {H0 H : Hp} {x : Addr} {s : R} {outs : List PM} {r : RA}
structure Apart (r : RA) (x : Addr) (H0 : Hp) (a : Addr) (qs qe qo : List PA) : Prop where
  x : x ≠ a
  k : r.k ≠ a
  w : r.w ≠ a
  ps : r.ps ≠ a
  pe : r.pe ≠ a
  b : r.b ≠ a
  qs : a ∉ qs.flatMap paA
  qe : a ∉ qe.flatMap paA
  qo : a ∉ qo.flatMap paA
  new : H0 a = none
theorem RdAt.outNe {q : PA} {qo : List PA} (h : RdAt K CR CP H0 H x s outs r) (hq : r.qo = q :: qo) : q.a ≠ q.ops ∧ ∀ a ∈ paA q, Apart r x H0 a r.qs r.qe qo := by
  have d := h.diff
  have nd := d.nd
  rw [hq, List.flatMap_cons] at nd
  simp only [List.nodup_append, List.mem_append] at nd
  obtain ⟨_, ⟨_, ⟨n1, _, n2⟩, n3⟩, n4⟩ := nd
  refine ⟨by simp [paA] at n1; exact n1, fun a ha => ?_⟩
  have ho : a ∈ r.qo.flatMap paA := by rw [hq, List.flatMap_cons]; exact List.mem_append_left _ ha
  have nx : ∀ y, y ∈ [x, r.k, r.w, r.ps, r.pe, r.b] → y ≠ a := fun y hy e => (d.tail y hy).2.2 (e ▸ ho)
  exact ⟨nx _ (by simp), nx _ (by simp), nx _ (by simp), nx _ (by simp), nx _ (by simp), nx _ (by simp), fun z => n4 a z a (.inr (.inl ha)) rfl, fun z => n3 a z a (.inl ha) rfl, fun z => n2 a ha a z rfl,
    h.new a (by simp only [RA.foot, List.mem_cons, List.mem_append, ho, or_true])⟩
theorem RdAt.topNe {q : PA} {qe : List PA} (h : RdAt K CR CP H0 H x s outs r) (hq : r.qe = q :: qe) : q.a ≠ q.ops ∧ ∀ a ∈ paA q, Apart r x H0 a r.qs qe r.qo := by
  have d := h.diff
  have nd := d.nd
  rw [hq, List.flatMap_cons] at nd
  simp only [List.nodup_append, List.mem_append] at nd
  obtain ⟨_, ⟨⟨n1, _, n2⟩, _, n3⟩, n4⟩ := nd
  refine ⟨by simp [paA] at n1; exact n1, fun a ha => ?_⟩
  have ho : a ∈ r.qe.flatMap paA := by rw [hq, List.flatMap_cons]; exact List.mem_append_left _ ha
  have nx : ∀ y, y ∈ [x, r.k, r.w, r.ps, r.pe, r.b] → y ≠ a := fun y hy e => (d.tail y hy).2.1 (e ▸ ho)
  exact ⟨nx _ (by simp), nx _ (by simp), nx _ (by simp), nx _ (by simp), nx _ (by simp), nx _ (by simp), fun z => n4 a z a (.inl (.inl ha)) rfl, fun z => n2 a ha a z rfl, fun z => n3 a (.inl ha) a z rfl,
    h.new a (by simp only [RA.foot, List.mem_cons, List.mem_append, ho, or_true, true_or])⟩
/-- a change at a part's own place, the rest as it was -/
theorem RdAt.mod {a : Addr} {o : HO} {qs' qe' qo' : List PA} (h : RdAt K CR CP H0 H x s outs r) (ap : Apart r x H0 a qs' qe' qo') (m : Mut (H a)) {outs' : List PM} {s' : R}
    (e0 : s'.exp = s.exp) (e1 : s'.known = s.known) (e2 : s'.watches = s.watches) (e3 : s'.depth = s.depth) (e4 : s'.total = s.total) (e5 : s'.beg = s.beg)
    (aP : A2 (PartAt CP (upd H a o)) r.qs s'.parts) (aE : A2 (PartAt CP (upd H a o)) r.qe s'.pend) (aO : A2 (PartAt CP (upd H a o)) r.qo outs') : RdAt K CR CP H0 (upd H a o) x s' outs' r :=
  ⟨same_upd h.same ap.new, by rw [upd_ne ap.x, h.ins]; unfold rV; rw [e0, e3, e4], by rw [upd_ne ap.k, e1]; exact h.known, by rw [upd_ne ap.w, e2]; exact h.watches, by rw [upd_ne ap.ps]; exact h.parts, by rw [upd_ne ap.pe]; exact h.pend, by rw [upd_ne ap.b]; exact h.beg,
    aP, aE, aO, by rw [e5]; exact kinds_off h.aB (.inr m), h.nd, h.new⟩
theorem RdAt.outFld {q : PA} {qo : List PA} {p p' : PM} (h : RdAt K CR CP H0 H x s (p :: outs) r) (hq : r.qo = q :: qo) (e : p'.ops = p.ops) :
    RdAt K CR CP H0 (upd H q.a (.ins CP q.dx (pK.zip (pV q.ops p')))) x s (p' :: outs) r := by
  obtain ⟨ne, ap⟩ := h.outNe hq
  have ap := ap q.a (by simp [paA])
  have aO := h.aO
  rw [hq] at aO
  refine h.mod ap (by rw [aO.1.ins]; trivial) rfl rfl rfl rfl rfl rfl (parts_off h.aP ap.qs) (parts_off h.aE ap.qe) ?_
  rw [hq]
  exact ⟨⟨upd_same, by rw [upd_ne ne.symm, e]; exact aO.1.ops⟩, parts_off aO.2 ap.qo⟩
theorem RdAt.outOps {q : PA} {qo : List PA} {p : PM} {i : Int} (h : RdAt K CR CP H0 H x s (p :: outs) r) (hq : r.qo = q :: qo) :
    RdAt K CR CP H0 (upd H q.ops (.lst (p.ops.map V.int ++ [.int i]))) x s ({ p with ops := p.ops ++ [i] } :: outs) r := by
  obtain ⟨ne, ap⟩ := h.outNe hq
  have ap := ap q.ops (by simp [paA])
  have aO := h.aO
  rw [hq] at aO
  refine h.mod ap (by rw [aO.1.ops]; trivial) rfl rfl rfl rfl rfl rfl (parts_off h.aP ap.qs) (parts_off h.aE ap.qe) ?_
  rw [hq]
  exact ⟨⟨by rw [upd_ne ne]; exact aO.1.ins, by rw [upd_same, List.map_append]; rfl⟩, parts_off aO.2 ap.qo⟩
theorem RdAt.topFld {q : PA} {qe : List PA} {p p' : PM} {st : List PM} (h : RdAt K CR CP H0 H x s outs r) (hp : s.pend = p :: st) (hq : r.qe = q :: qe) (e : p'.ops = p.ops) :
    RdAt K CR CP H0 (upd H q.a (.ins CP q.dx (pK.zip (pV q.ops p')))) x { s with pend := p' :: st } outs r := by
  obtain ⟨ne, ap⟩ := h.topNe hq
  have ap := ap q.a (by simp [paA])
  have aE := h.aE
  rw [hq, hp] at aE
  refine h.mod ap (by rw [aE.1.ins]; trivial) rfl rfl rfl rfl rfl rfl (parts_off h.aP ap.qs) ?_ (parts_off h.aO ap.qo)
  rw [hq]
  exact ⟨⟨upd_same, by rw [upd_ne ne.symm, e]; exact aE.1.ops⟩, parts_off aE.2 ap.qe⟩
theorem RdAt.topOps {q : PA} {qe : List PA} {p : PM} {st : List PM} {i : Int} (h : RdAt K CR CP H0 H x s outs r) (hp : s.pend = p :: st) (hq : r.qe = q :: qe) :
    RdAt K CR CP H0 (upd H q.ops (.lst (p.ops.map V.int ++ [.int i]))) x { s with pend := { p with ops := p.ops ++ [i] } :: st } outs r := by
  obtain ⟨ne, ap⟩ := h.topNe hq
  have ap := ap q.ops (by simp [paA])
  have aE := h.aE
  rw [hq, hp] at aE
  refine h.mod ap (by rw [aE.1.ops]; trivial) rfl rfl rfl rfl rfl rfl (parts_off h.aP ap.qs) ?_ (parts_off h.aO ap.qo)
  rw [hq]
  exact ⟨⟨by rw [upd_ne ne]; exact aE.1.ins, by rw [upd_same, List.map_append]; rfl⟩, parts_off aE.2 ap.qe⟩
/-- all that the reader has stands, whatever is new -/
theorem RdAt.mono {H' : Hp} (h : RdAt K CR CP H0 H x s outs r) (sm : Same H H') : RdAt K CR CP H0 H' x s outs r :=
  ⟨h.same.trans sm, sm _ _ h.ins, sm _ _ h.known, sm _ _ h.watches, sm _ _ h.parts, sm _ _ h.pend, sm _ _ h.beg, parts_same sm h.aP, parts_same sm h.aE, parts_same sm h.aO, h.aB.imp fun _ _ _ q => q.same sm, h.nd, h.new⟩
theorem RdAt.in_foot (h : RdAt K CR CP H0 H x s outs r) : ∀ a ∈ r.foot x, ∃ o, H a = some o := by
  have key : ∀ (qs : List PA) (ps : List PM), A2 (PartAt CP H) qs ps → ∀ a ∈ qs.flatMap paA, ∃ o, H a = some o := by
    intro qs
    induction qs with
    | nil => intro ps _ a ha; cases ha
    | cons q qs ih =>
      intro ps hp a ha
      cases ps with
      | nil => exact (hp : False).elim
      | cons p ps =>
        rw [List.flatMap_cons] at ha
        rcases List.mem_append.mp ha with z | z
        · simp only [paA, List.mem_cons, List.not_mem_nil, or_false] at z
          rcases z with rfl | rfl
          · exact ⟨_, hp.1.ins⟩
          · exact ⟨_, hp.1.ops⟩
        · exact ih ps hp.2 a z
  intro a ha
  unfold RA.foot at ha
  simp only [List.mem_cons, List.mem_append] at ha
  rcases ha with rfl | rfl | rfl | rfl | rfl | rfl | z | z | z
  · exact ⟨_, h.ins⟩
  · exact ⟨_, h.known⟩
  · exact ⟨_, h.watches⟩
  · exact ⟨_, h.parts⟩
  · exact ⟨_, h.pend⟩
  · exact ⟨_, h.beg⟩
  · exact key _ _ h.aP a z
  · exact key _ _ h.aE a z
  · exact key _ _ h.aO a z
/-- a part that was made anew stands outside -/
theorem RdAt.made {H' : Hp} {q : PA} {p : PM} (h : RdAt K CR CP H0 H x s outs r) (sm : Same H H') (hq : PartAt CP H' q p) (n1 : H q.a = none) (n2 : H q.ops = none) (n3 : q.a ≠ q.ops) :
    RdAt K CR CP H0 H' x s (p :: outs) { r with qo := q :: r.qo } := by
  have m := h.mono sm
  have notin : ∀ a, H a = none → a ∉ r.foot x := fun a e z => by
    obtain ⟨o, ho⟩ := h.in_foot a z
    rw [e] at ho
    cases ho
  have pe : (({ r with qo := q :: r.qo } : RA).foot x).Perm (q.a :: q.ops :: r.foot x) := by
    unfold RA.foot
    simp only [List.flatMap_cons]
    have e : ∀ (l : List Addr) (b c : List Addr), (l ++ (b ++ (paA q ++ c))).Perm (paA q ++ (l ++ (b ++ c))) := by
      intro l b c
      have z := (List.perm_append_comm (l₁ := l ++ b) (l₂ := paA q)).append_right c
      simpa [List.append_assoc] using z
    have e2 := e [x, r.k, r.w, r.ps, r.pe, r.b] (r.qs.flatMap paA ++ r.qe.flatMap paA) (r.qo.flatMap paA)
    simpa [paA, List.append_assoc] using e2
  refine ⟨m.same, m.ins, m.known, m.watches, m.parts, m.pend, m.beg, m.aP, m.aE, ⟨hq, m.aO⟩, m.aB, pe.nodup_iff.mpr ?_, fun a ha => ?_⟩
  · rw [List.nodup_cons, List.nodup_cons]
    exact ⟨fun z => by
      rcases List.mem_cons.mp z with e | e
      · exact n3 e
      · exact notin _ n1 e, notin _ n2, h.nd⟩
  · rcases List.mem_cons.mp (pe.mem_iff.mp ha) with e | e
    · rw [e]; exact h.same.free n1
    · rcases List.mem_cons.mp e with e | e
      · rw [e]; exact h.same.free n2
      · exact h.new a e
end
end Hw

set_option maxHeartbeats 4000000
namespace Hw
open PySem L2
open Pm (PM R Op Ex)

structure ClsT (K : PySem.W.Frag) (C : Addr) (ks : List Str) : Prop where
  cl : Cls K C
  no : ∀ (i : Nat) (f : Str), ks[i]? = some f → NoAttr K C f
structure Maker (P : Program) (w : World) (K : PySem.W.Frag) (mg : Str → Option Value) (base : Heap) (k : Nat) (x : Str) (C f : Addr) (fd : FuncData) (ps : List Str) (sp : Sp) : Prop where
  at_ : mg x = some (.ref C)
  M : Mk K C f
  b : Binds K fd ps []
  G : FnOk P w K mg base CX0 k f fd ps sp
structure Method (P : Program) (w : World) (K : PySem.W.Frag) (mg : Str → Option Value) (base : Heap) (k : Nat) (C : Addr) (m : Str) (f : Addr) (fd : FuncData) (ps : List Str) (sp : Sp) : Prop where
  M : Meth K C m f
  b : Binds K fd ps []
  G : FnOk P w K mg base CX0 k f fd ps sp

/-- a new part: its kind is handed in, its operands are a list that was handed in -/
def spPart (C : Addr) : Sp := fun vs H Q _ => ∃ (p dx o : Addr) (z : Str), vs = [.ref p, .str z, .ref o] ∧ H p = some (.ins C dx []) ∧
  Q .non (upd H p (.ins C dx (pK.zip [.str z, .ref o, .str (sb []), .int 0, .non, .non])))
def memOf : Op → Pw.Mem := Pm.firstMem
def spFirst (K : PySem.W.Frag) : Sp := fun vs H Q _ => ∃ op : Op, vs = [.str (opStr op)] ∧ ∀ v H', Same H H' → MemV K H' v (Pm.firstMem op) → Q v H'
theorem sb_nil : ("" : Str) = sb [] := by decide +kernel
theorem lt_put {f : Str} {v : V} : ∀ {fs : List (Str × V)} {n : Nat}, fs.length < n → (putF f v fs).length < n + 1
  | [], n, h => by simp [putF]; simp at h; omega
  | (g, x) :: r, n, h => by
    rw [putF]
    split
    · simp at h ⊢; omega
    · cases n with
      | zero => simp at h
      | succ n =>
        have := lt_put (f := f) (v := v) (fs := r) (n := n) (by simpa using h)
        simp only [List.length_cons]
        omega
theorem put_new6 (v0 v1 v2 v3 v4 v5 : V) : putF "slot" v5 (putF "span" v4 (putF "needed" v3 (putF "name" v2 (putF "operands" v1 (putF "kind" v0 []))))) = pK.zip [v0, v1, v2, v3, v4, v5] := by
  have e1 : putF "kind" v0 [] = (["kind"] : List Str).zip [v0] := rfl
  have nx : ∀ (ks : List Str) (vs : List V) (k : Str) (v : V), k ∉ ks → ks.length = vs.length → putF k v (ks.zip vs) = (ks ++ [k]).zip (vs ++ [v]) := by
    intro ks
    induction ks with
    | nil => intro vs k v _ hl; cases vs with
      | nil => rfl
      | cons a b => simp at hl
    | cons a ks ih =>
      intro vs k v hk hl
      cases vs with
      | nil => simp at hl
      | cons x vs =>
        rw [List.zip_cons_cons, putF, if_neg (show ¬ a = k from fun e => hk (e ▸ List.mem_cons_self ..)), ih vs k v (fun z => hk (List.mem_cons_of_mem _ z)) (by simpa using hl)]
        rfl
  rw [e1, nx _ _ _ _ (by decide +kernel) rfl, nx _ _ _ _ (by decide +kernel) rfl, nx _ _ _ _ (by decide +kernel) rfl, nx _ _ _ _ (by decide +kernel) rfl, nx _ _ _ _ (by decide +kernel) rfl]
  rfl
section
variable {P : Program} {w : World} {K : PySem.W.Frag} {mg : Str → Option Value} {base : Heap} {C : Addr}
theorem sc_part : FnScope ["self", "kind", "operands"] ["self", "kind", "operands"] (defScope s_Part_init) := ⟨rfl, rfl, rfl, by decide +kernel, rfl, by decide +kernel, by decide +kernel⟩
theorem ok_part {f : Addr} {fd : FuncData} (F : Fun K "__init__" "Part.__init__" s_Part_init f fd) (T : ClsT K C pK) : FnOk P w K mg base CX0 1 f fd ["self", "kind", "operands"] (spPart C) := by
  refine F.ok sc_part (fun vs H Q E h => ?_) (fun cdv A outer s H vs Q E hr h => ?_)
  · obtain ⟨p, dx, o, z, rfl, _⟩ := h
    rfl
  · obtain ⟨p, dx, o, z, rfl, hp, k⟩ := h
    refine ⟨_, pss_cons (ps_fld (pv 0) (pv 1) rfl) (pss_cons (ps_fld (pv 0) (pv 2) rfl) (pss_cons (ps_fld (pv 0) pe_str rfl) (pss_cons (ps_fld (pv 0) pe_int rfl) (pss_cons (ps_fld (pv 0) pe_non rfl) (pss_one (ps_fld (pv 0) pe_non rfl)))))), ?_⟩
    refine ⟨_, rfl, _, rfl, p, C, dx, [], rfl, hp, T.cl, T.no 0 _ rfl, (by show 0 < 1000; decide), ?_⟩
    refine ⟨_, rfl, _, rfl, p, C, dx, _, rfl, upd_same, T.cl, T.no 1 _ rfl, (by show 1 < 1000; decide), ?_⟩
    refine ⟨_, rfl, p, C, dx, _, rfl, upd_same, T.cl, T.no 2 _ rfl, (Nat.lt_of_lt_of_le (lt_put (lt_put (n := 1) (by decide))) (by decide)), ?_⟩
    refine ⟨_, rfl, p, C, dx, _, rfl, upd_same, T.cl, T.no 3 _ rfl, (Nat.lt_of_lt_of_le (lt_put (lt_put (lt_put (n := 1) (by decide)))) (by decide)), ?_⟩
    refine ⟨_, rfl, p, C, dx, _, rfl, upd_same, T.cl, T.no 4 _ rfl, (Nat.lt_of_lt_of_le (lt_put (lt_put (lt_put (lt_put (n := 1) (by decide))))) (by decide)), ?_⟩
    refine ⟨_, rfl, p, C, dx, _, rfl, upd_same, T.cl, T.no 5 _ rfl, (Nat.lt_of_lt_of_le (lt_put (lt_put (lt_put (lt_put (lt_put (n := 1) (by decide)))))) (by decide)), ?_⟩
    rw [upd_upd, upd_upd, upd_upd, upd_upd, upd_upd, put_new6, sb_nil]
    exact k
end
end Hw

set_option maxHeartbeats 4000000
namespace Hw
open PySem L2
open Pm (PM R Op Ex)

/-! ## Constants of the text -/
def CI (mg : Str → Option Value) (x : Str) (i : Int) : Prop := ∃ t, mg x = some (.int i t)
def CS (mg : Str → Option Value) (x z : Str) : Prop := ∃ t, mg x = some (.str z t)
structure CT (K : PySem.W.Frag) (mg : Str → Option Value) (x : Str) (a : Addr) (zs : List Str) : Prop where
  at_ : mg x = some (.ref a)
  sq : ∀ H, SqT K H a (zs.map V.str)
theorem pe_ci {X : Cx} {x : Str} {i : Int} {pos : Pos} (hg : Gl X x) (h : CI X.mg x i) (hd : (x == ("__debug__" : Str)) = false := by decide) : PE X (.Name x pos) (tC (.int i)) := by
  obtain ⟨t, e⟩ := h
  exact pe_glob hg e ⟨_, rfl⟩ hd
theorem pe_cs {X : Cx} {x z : Str} {pos : Pos} (hg : Gl X x) (h : CS X.mg x z) (hd : (x == ("__debug__" : Str)) = false := by decide) : PE X (.Name x pos) (tC (.str z)) := by
  obtain ⟨t, e⟩ := h
  exact pe_glob hg e ⟨_, rfl⟩ hd
def openings : List Str := ["(", "not", "once", "always", "before", "least"]
def joints : List Str := ["since", "and", "or", "implies", ")", ";"]
def openeds : List Str := ["(", "not", "once", "always", "before", "least", "implies"]
def remembering : List Str := ["once", "always", "before", "since", "least"]
structure RTxt (K : PySem.W.Frag) (mg : Str → Option Value) (aO aJ aE aM : Addr) : Prop where
  sound : CI mg "SOUND" 0
  misplaced : CI mg "MISPLACED" 3
  oob : CI mg "OUT_OF_BOUNDS" 4
  deep : CI mg "TOO_DEEP" 5
  mostWatches : CI mg "MOST_WATCHES" 16
  mostNeeded : CI mg "MOST_NEEDED" 64
  mostSpan : CI mg "MOST_SPAN" 4294967295
  mostFigures : CI mg "MOST_FIGURES" 10
  mostOpened : CI mg "MOST_OPENED" 40
  mostParts : CI mg "MOST_PARTS" 256
  mostAll : CI mg "MOST_NEEDED_IN_ALL" 1024
  watch : CS mg "WATCH" (exStr .watch)
  colon : CS mg "COLON" (exStr .colon)
  operand : CS mg "OPERAND" (exStr .operand)
  within : CS mg "WITHIN" (exStr .within)
  needed : CS mg "NEEDED" (exStr .needed)
  span : CS mg "SPAN" (exStr .span)
  joint : CS mg "JOINT" (exStr .joint)
  opens : CT K mg "OPENINGS" aO openings
  joins : CT K mg "JOINTS" aJ joints
  opened : CT K mg "OPENED" aE openeds
  rem : CT K mg "REMEMBERING" aM remembering
  len : mg "len" = none
  int : mg "int" = none
theorem strs_flat (l : List Str) : (l.map V.str).all flatV = true := by
  rw [List.all_eq_true]
  intro x hx
  obtain ⟨b, _, rfl⟩ := List.mem_map.mp hx
  rfl
theorem inV_str (z : Str) (l : List Str) : inV (.str z) (l.map V.str) = l.any (fun y => y == z) := by
  unfold inV
  rw [List.any_map]
  rfl
theorem rem_is (op : Op) : inV (.str (opStr op)) (remembering.map V.str) = Pm.remembers op := by cases op <;> decide +kernel
theorem opened_is (op : Op) : inV (.str (opStr op)) (openeds.map V.str) = Pm.opened op := by cases op <;> decide +kernel

/-- behind Part(kind, operands) -/
theorem made_part {C l x dx : Addr} {H : Hp} {ns : List Int} {z : Str} (op : Op) (hz : z = opStr op) (hl : H l = none) (hx : (upd H l (.lst (ns.map V.int))) x = none) (hdx : (upd H l (.lst (ns.map V.int))) dx = none) (hne : dx ≠ x) :
    Same H (upd (upd (upd (upd H l (.lst (ns.map V.int))) dx (.own x)) x (.ins C dx [])) x (.ins C dx (pK.zip [.str z, .ref l, .str (sb []), .int 0, .non, .non]))) ∧
    PartAt C (upd (upd (upd (upd H l (.lst (ns.map V.int))) dx (.own x)) x (.ins C dx [])) x (.ins C dx (pK.zip [.str z, .ref l, .str (sb []), .int 0, .non, .non]))) ⟨x, dx, l⟩ { op := op, ops := ns } ∧
    H x = none ∧ x ≠ l := by
  have nxl : x ≠ l := fun e => by rw [e, upd_same] at hx; cases hx
  have ndl : dx ≠ l := fun e => by rw [e, upd_same] at hdx; cases hdx
  rw [upd_ne nxl] at hx
  rw [upd_ne ndl] at hdx
  refine ⟨fun b o e => ?_, ⟨?_, ?_⟩, hx, nxl⟩
  · rw [upd_ne (ne_of_none e hx), upd_ne (ne_of_none e hx), upd_ne (ne_of_none e hdx), upd_ne (ne_of_none e hl)]
    exact e
  · rw [upd_same, hz]
    rfl
  · show upd _ x _ l = _
    rw [upd_ne nxl.symm, upd_ne nxl.symm, upd_ne ndl.symm, upd_same]

def spRInit (K : PySem.W.Frag) (CR CP : Addr) : Sp := fun vs H Q _ => ∃ (H0 : Hp) (x dx : Addr), vs = [.ref x] ∧ Same H0 H ∧ H0 x = none ∧ H x = some (.ins CR dx []) ∧
  ∀ (H' : Hp) (r : RA), RdAt K CR CP H0 H' x R.new [] r → Q .non H'
structure Sz (s : R) : Prop where
  pp : s.parts.length + s.pend.length ≤ 5000
  bg : s.beg.length ≤ 5000
theorem sz_of {s : R} {n : Nat} (h : Pm.Bd s n) (hn : n ≤ 5000) : Sz s := ⟨Nat.le_trans h.pp hn, Nat.le_trans h.bg hn⟩
def spPut (K : PySem.W.Frag) (CR CP : Addr) : Sp := fun vs H Q _ => ∃ (H0 : Hp) (x : Addr) (s : R) (p : PM) (q : PA) (r : RA), vs = [.ref x, .ref q.a] ∧ RdAt K CR CP H0 H x s [p] r ∧ r.qo = [q] ∧ Sz s ∧
  ∀ (H' : Hp) (r' : RA), RdAt K CR CP H0 H' x (s.put p).2 [] r' → Q (.int 0) H'
def spBegin (K : PySem.W.Frag) (CR CP : Addr) : Sp := fun vs H Q _ => ∃ (H0 : Hp) (x : Addr) (s : R) (p : PM) (q : PA) (r : RA), vs = [.ref x, .ref q.a] ∧ RdAt K CR CP H0 H x s [p] r ∧ r.qo = [q] ∧ Sz s ∧ p.slot = none ∧
  ∀ (H' : Hp) (r' : RA), RdAt K CR CP H0 H' x (s.begin_ p).2 [] r' → Q (.int (s.begin_ p).1) H'

section
variable {P : Program} {w : World} {K : PySem.W.Frag} {mg : Str → Option Value} {base : Heap} {CR CP aO aJ aE aM : Addr}
theorem sc_first : FnScope ["kind"] ["kind"] (defScope s_first_member) := ⟨rfl, rfl, rfl, by decide +kernel, rfl, by decide +kernel, by decide +kernel⟩
theorem ok_first {f : Addr} {fd : FuncData} (F : Fun K "first_member" "first_member" s_first_member f fd) : FnOk P w K mg base CX0 1 f fd ["kind"] (spFirst K) := by
  refine F.ok sc_first (fun vs H Q E h => ?_) (fun cdv A outer s H vs Q E hr h => ?_)
  · obtain ⟨op, rfl, _⟩ := h
    rfl
  · obtain ⟨op, rfl, k⟩ := h
    refine ⟨_, pss_cons (ps_if (pt_cmpR op_eq (pv 0) pe_str (nomark _)) (pss_one (ps_ret pe_bl)) pss_nil)
      (pss_cons (ps_if (pt_cmpR op_eq (pv 0) pe_str (nomark _)) (pss_one (ps_ret (pe_tup pa_nil))) pss_nil) (pss_one (ps_ret pe_non))), ?_⟩
    refine ⟨_, rfl, rfl, _, rfl, ?_⟩
    have e1 : decide (V.str (opStr op) = V.str "before") = decide (op = .before) := opStr_eq op .before
    have e2 : decide (V.str (opStr op) = V.str "least") = decide (op = .least) := opStr_eq op .least
    rw [e1]
    by_cases h1 : op = .before
    · refine ifT (decide_eq_true h1) ?_
      subst h1
      exact k _ _ (Same.refl H) rfl
    · refine ifF (decide_eq_false h1) ?_
      refine ⟨_, rfl, rfl, _, rfl, ?_⟩
      rw [e2]
      by_cases h2 : op = .least
      · refine ifT (decide_eq_true h2) ?_
        subst h2
        refine ⟨Nat.zero_le _, fun p hp => ?_⟩
        exact k _ _ (same_upd (Same.refl H) hp) ⟨p, rfl, .inl (.inl upd_same)⟩
      · refine ifF (decide_eq_false h2) ?_
        refine k _ _ (Same.refl H) ?_
        cases op <;> first | rfl | exact absurd rfl h1 | exact absurd rfl h2
theorem sc_put : FnScope ["self", "part"] ["self", "part"] (defScope s_Reader_put) := ⟨rfl, rfl, rfl, by decide +kernel, rfl, by decide +kernel, by decide +kernel⟩
theorem ok_put {f : Addr} {fd : FuncData} (F : Fun K "put" "Reader.put" s_Reader_put f fd) (T : RTxt K mg aO aJ aE aM) (TR : ClsT K CR rK) : FnOk P w K mg base CX0 1 f fd ["self", "part"] (spPut K CR CP) := by
  refine F.ok sc_put (fun vs H Q E h => ?_) (fun cdv A outer s H vs Q E hr h => ?_)
  · obtain ⟨_, _, _, _, _, _, rfl, _⟩ := h
    rfl
  · obtain ⟨H0, x, st, p, q, r, rfl, R0, hq, bd, k⟩ := h
    refine ⟨_, pss_cons (ps_expr (pe_bm PySem.F.plainAttrs_list PySem.F.slot_list_append PySem.F.type_list_append mt_append (pe_fld (pv 0) rfl) (pa_cons (pv 1) pa_nil)))
      (pss_cons (ps_fld (pv 0) (pe_cs rfl T.joint) rfl) (pss_one (ps_ret (pe_ci rfl T.sound)))), ?_⟩
    refine ⟨_, rfl, x, CR, r.dx, _, _, rfl, R0.ins, TR.cl, TR.no 3 _ rfl, lk_zip rKnd (i := 3) rfl, .inl ⟨rfl, _, SqL.of R0.parts⟩, _, rfl, r.ps, _, _, rfl, rfl, R0.parts, ?_, ?_⟩
    · rw [List.length_map, R0.aP.len]
      have := bd.pp
      exact Nat.lt_of_le_of_lt (show st.parts.length ≤ 5000 by omega) (by decide)
    · have R1 := R0.done hq
      refine ⟨_, rfl, x, CR, r.dx, _, rfl, R1.ins, TR.cl, TR.no 0 _ rfl, zip_few (by decide), ?_⟩
      rw [put_zip (i := 0) rKnd rfl rfl]
      exact k _ _ (R1.fld (s' := { st with parts := st.parts ++ [p], exp := .joint }) rfl rfl rfl rfl rfl)
end
end Hw

set_option maxHeartbeats 4000000
namespace Hw
open PySem L2
open Pm (PM R Op Ex)
section
variable {P : Program} {w : World} {K : PySem.W.Frag} {mg : Str → Option Value} {base : Heap} {CR CP aO aJ aE aM : Addr}
theorem sc_begin : FnScope ["self", "part"] ["self", "part"] (defScope s_Reader_begin) := ⟨rfl, rfl, rfl, by decide +kernel, rfl, by decide +kernel, by decide +kernel⟩
theorem ok_begin {f : Addr} {fd : FuncData} (F : Fun K "begin" "Reader.begin" s_Reader_begin f fd) (T : RTxt K mg aO aJ aE aM) (TR : ClsT K CR rK) (TP : ClsT K CP pK) : FnOk P w K mg base CX0 2 f fd ["self", "part"] (spBegin K CR CP) := by
  refine F.ok sc_begin (fun vs H Q E h => ?_) (fun cdv A outer s H vs Q E hr h => ?_)
  · obtain ⟨_, _, _, _, _, _, rfl, _⟩ := h
    rfl
  obtain ⟨H0, x, st, p, q, r, rfl, R0, hq, bd, hsl, k⟩ := h
  have hr1 : Room 1 _ := hr
  refine ⟨_, pss_cons (ps_if (pt_cmpR op_in_seq (pe_fld (pv 1) rfl) (pe_glob (v := .ref aM) rfl T.rem.at_ rfl) (by rfl))
      (pss_cons (ps_fld (pv 1) (pe_callB call_len_seq (by rfl) T.len PySem.boot_len (pa_cons (pe_fld (pv 0) rfl) pa_nil)) rfl)
        (pss_one (ps_expr (pe_bm PySem.F.plainAttrs_list PySem.F.slot_list_append PySem.F.type_list_append mt_append (pe_fld (pv 0) rfl)
          (pa_cons (pe_fld (pv 1) rfl) pa_nil))))) pss_nil)
    (pss_cons (ps_expr (pe_bm PySem.F.plainAttrs_list PySem.F.slot_list_append PySem.F.type_list_append mt_append (pe_fld (pv 0) rfl) (pa_cons (pv 1) pa_nil)))
    (pss_cons (ps_if (pt_cmpR op_in_seq (pe_fld (pv 1) rfl) (pe_glob (v := .ref aE) rfl T.opened.at_ rfl) (by rfl)) (pss_one (ps_fldaug (pv 0) pe_int in_add)) pss_nil)
    (pss_one (ps_ret (pe_ifExp (pt_cmpR op_gt (pe_fld (pv 0) rfl) (pe_ci rfl T.mostOpened) (nomark _)) (pe_ci rfl T.deep) (pe_ci rfl T.sound)))))), ?_⟩
  have aO0 := R0.aO
  rw [hq] at aO0
  have P0 := aO0.1
  refine ⟨_, rfl, q.a, CP, q.dx, _, _, rfl, P0.ins, TP.cl, TP.no 0 _ rfl, lk_zip pKnd (i := 0) rfl, aM, _, rfl, .inr (T.rem.sq _), rfl, strs_flat _, _, rfl, ?_⟩
  rw [if_neg (by decide), rem_is]
  have hpl : st.pend.length ≤ 5000 := by have := bd.pp; omega
  by_cases h1 : Pm.remembers p.op = true
  · refine ifT h1 ?_
    refine ⟨_, rfl, x, CR, r.dx, _, _, rfl, R0.ins, TR.cl, TR.no 7 _ rfl, lk_zip rKnd (i := 7) rfl, r.b, _, rfl, .inl (SqL.of R0.beg), _, rfl, q.a, CP, q.dx, _, rfl, P0.ins, TP.cl, TP.no 5 _ rfl, zip_few (by decide), ?_⟩
    rw [put_zip (i := 5) pKnd rfl rfl]
    have Ra := R0.outFld (p' := { p with slot := some st.beg.length }) hq rfl
    have ev : ((pV q.ops p).set 5 (.int (r.bv.length : Nat))) = pV q.ops { p with slot := some st.beg.length } := by
      rw [R0.aB.len]
      rfl
    rw [ev]
    obtain ⟨Hb, eHb⟩ : ∃ Hb, Hb = upd H q.a (.ins CP q.dx (pK.zip (pV q.ops { p with slot := some st.beg.length }))) := ⟨_, rfl⟩
    rw [← eHb]
    rw [← eHb] at Ra
    have aOa := Ra.aO
    rw [hq] at aOa
    refine ⟨_, rfl, x, CR, r.dx, _, _, rfl, Ra.ins, TR.cl, TR.no 7 _ rfl, lk_zip rKnd (i := 7) rfl, .inl ⟨rfl, _, SqL.of Ra.beg⟩, _, rfl, q.a, CP, q.dx, _, .str (opStr p.op), rfl, aOa.1.ins, TP.cl, TP.no 0 _ rfl, lk_zip pKnd (i := 0) rfl, r.b, _, _, rfl, rfl, Ra.beg, ?_, ?_⟩
    · rw [R0.aB.len]
      have := bd.bg
      exact Nat.lt_of_le_of_lt (show st.beg.length ≤ 5000 by omega) (by decide)
    have R1 := Ra.begPut (v := .str (opStr p.op)) (mm := Pm.firstMem p.op) ⟨p.op, rfl, rfl⟩
    obtain ⟨r1, er1⟩ : ∃ r1, r1 = ({ r with bv := r.bv ++ [.str (opStr p.op)] } : RA) := ⟨_, rfl⟩
    obtain ⟨st1, est1⟩ : ∃ st1, st1 = ({ st with beg := st.beg ++ [Pm.firstMem p.op] } : R) := ⟨_, rfl⟩
    obtain ⟨p1, ep1⟩ : ∃ p1, p1 = ({ p with slot := some st.beg.length } : PM) := ⟨_, rfl⟩
    rw [← er1, ← est1, ← ep1] at R1
    have hq1 : r1.qo = [q] := by rw [er1]; exact hq
    have R2 := R1.push hq1
    have hsz : (r1.qe.reverse.map (fun q => V.ref q.a)).length < sizeLine := by
      rw [List.length_map, List.length_reverse, R1.aE.len, est1]
      exact Nat.lt_of_le_of_lt hpl (by decide)
    have eop : p1.op = p.op := by rw [ep1]
    have PT := R2.aE.1
    refine ⟨_, rfl, x, CR, r1.dx, _, _, rfl, R1.ins, TR.cl, TR.no 4 _ rfl, lk_zip rKnd (i := 4) rfl, .inl ⟨rfl, _, SqL.of R1.pend⟩, _, rfl, r1.pe, _, _, rfl, rfl, R1.pend, hsz, ?_⟩
    refine ⟨_, rfl, q.a, CP, q.dx, _, _, rfl, PT.ins, TP.cl, TP.no 0 _ rfl, lk_zip pKnd (i := 0) rfl, aE, _, rfl, .inr (T.opened.sq _), rfl, strs_flat _, _, rfl, ?_⟩
    rw [if_neg (by decide), opened_is, eop]
    by_cases h2 : Pm.opened p.op = true
    · refine ifT h2 ?_
      refine ⟨_, rfl, x, CR, r1.dx, _, _, rfl, R2.ins, TR.cl, TR.no 5 _ rfl, lk_zip rKnd (i := 5) rfl, _, _, rfl, rfl, r1.dx, _, R2.ins, zip_few (by decide), ?_⟩
      rw [put_zip (i := 5) rKnd rfl rfl]
      have R3 := R2.fld (s' := { st1 with pend := p1 :: st1.pend, depth := st1.depth + 1 }) rfl rfl rfl rfl rfl
      refine ⟨_, rfl, x, CR, r1.dx, _, _, rfl, R3.ins, TR.cl, TR.no 5 _ rfl, lk_zip rKnd (i := 5) rfl, _, _, rfl, rfl, _, rfl, ?_⟩
      have es : (st.begin_ p) = (if 40 < st1.depth + 1 then 5 else 0, { st1 with pend := p1 :: st1.pend, depth := st1.depth + 1 }) := by
        unfold R.begin_
        simp only [h2, h1, est1, ep1, if_true, if_false, Bool.false_eq_true]
      rw [es] at k
      by_cases h3 : 40 < st1.depth + 1
      · rw [if_pos h3] at k
        refine ifT (decide_eq_true h3) ?_
        exact k _ _ R3
      · rw [if_neg h3] at k
        refine ifF (decide_eq_false h3) ?_
        exact k _ _ R3
    · rw [Bool.not_eq_true] at h2
      refine ifF h2 ?_
      refine ⟨_, rfl, x, CR, r1.dx, _, _, rfl, R2.ins, TR.cl, TR.no 5 _ rfl, lk_zip rKnd (i := 5) rfl, _, _, rfl, rfl, _, rfl, ?_⟩
      have es : (st.begin_ p) = (if 40 < st1.depth then 5 else 0, { st1 with pend := p1 :: st1.pend }) := by
        unfold R.begin_
        simp only [h2, h1, est1, ep1, if_true, if_false, Bool.false_eq_true]
      rw [es] at k
      by_cases h3 : 40 < st1.depth
      · rw [if_pos h3] at k
        refine ifT (decide_eq_true h3) ?_
        exact k _ _ R2
      · rw [if_neg h3] at k
        refine ifF (decide_eq_false h3) ?_
        exact k _ _ R2
  · rw [Bool.not_eq_true] at h1
    refine ifF h1 ?_
    have R1 := R0
    obtain ⟨r1, er1⟩ : ∃ r1, r1 = r := ⟨_, rfl⟩
    obtain ⟨st1, est1⟩ : ∃ st1, st1 = st := ⟨_, rfl⟩
    obtain ⟨p1, ep1⟩ : ∃ p1, p1 = p := ⟨_, rfl⟩
    rw [← er1, ← est1, ← ep1] at R1
    have hq1 : r1.qo = [q] := by rw [er1]; exact hq
    have R2 := R1.push hq1
    have hsz : (r1.qe.reverse.map (fun q => V.ref q.a)).length < sizeLine := by
      rw [List.length_map, List.length_reverse, R1.aE.len, est1]
      exact Nat.lt_of_le_of_lt hpl (by decide)
    have eop : p1.op = p.op := by rw [ep1]
    have PT := R2.aE.1
    refine ⟨_, rfl, x, CR, r1.dx, _, _, rfl, R1.ins, TR.cl, TR.no 4 _ rfl, lk_zip rKnd (i := 4) rfl, .inl ⟨rfl, _, SqL.of R1.pend⟩, _, rfl, r1.pe, _, _, rfl, rfl, R1.pend, hsz, ?_⟩
    refine ⟨_, rfl, q.a, CP, q.dx, _, _, rfl, PT.ins, TP.cl, TP.no 0 _ rfl, lk_zip pKnd (i := 0) rfl, aE, _, rfl, .inr (T.opened.sq _), rfl, strs_flat _, _, rfl, ?_⟩
    rw [if_neg (by decide), opened_is, eop]
    by_cases h2 : Pm.opened p.op = true
    · refine ifT h2 ?_
      refine ⟨_, rfl, x, CR, r1.dx, _, _, rfl, R2.ins, TR.cl, TR.no 5 _ rfl, lk_zip rKnd (i := 5) rfl, _, _, rfl, rfl, r1.dx, _, R2.ins, zip_few (by decide), ?_⟩
      rw [put_zip (i := 5) rKnd rfl rfl]
      have R3 := R2.fld (s' := { st1 with pend := p1 :: st1.pend, depth := st1.depth + 1 }) rfl rfl rfl rfl rfl
      refine ⟨_, rfl, x, CR, r1.dx, _, _, rfl, R3.ins, TR.cl, TR.no 5 _ rfl, lk_zip rKnd (i := 5) rfl, _, _, rfl, rfl, _, rfl, ?_⟩
      have es : (st.begin_ p) = (if 40 < st1.depth + 1 then 5 else 0, { st1 with pend := p1 :: st1.pend, depth := st1.depth + 1 }) := by
        unfold R.begin_
        simp only [h2, h1, est1, ep1, if_true, if_false, Bool.false_eq_true]
      rw [es] at k
      by_cases h3 : 40 < st1.depth + 1
      · rw [if_pos h3] at k
        refine ifT (decide_eq_true h3) ?_
        exact k _ _ R3
      · rw [if_neg h3] at k
        refine ifF (decide_eq_false h3) ?_
        exact k _ _ R3
    · rw [Bool.not_eq_true] at h2
      refine ifF h2 ?_
      refine ⟨_, rfl, x, CR, r1.dx, _, _, rfl, R2.ins, TR.cl, TR.no 5 _ rfl, lk_zip rKnd (i := 5) rfl, _, _, rfl, rfl, _, rfl, ?_⟩
      have es : (st.begin_ p) = (if 40 < st1.depth then 5 else 0, { st1 with pend := p1 :: st1.pend }) := by
        unfold R.begin_
        simp only [h2, h1, est1, ep1, if_true, if_false, Bool.false_eq_true]
      rw [es] at k
      by_cases h3 : 40 < st1.depth
      · rw [if_pos h3] at k
        refine ifT (decide_eq_true h3) ?_
        exact k _ _ R2
      · rw [if_neg h3] at k
        refine ifF (decide_eq_false h3) ?_
        exact k _ _ R2
end
end Hw

set_option maxHeartbeats 4000000
namespace Hw
open PySem L2
open Pm (PM R Op Ex)
theorem fresh_upd {H : Hp} {a b : Addr} {o : HO} (h : upd H a o b = none) : b ≠ a ∧ H b = none := by
  have n : b ≠ a := fun e => by rw [e, upd_same] at h; cases h
  exact ⟨n, by rw [upd_ne n] at h; exact h⟩
theorem put_snoc : ∀ (ks : List Str) (vs : List V) (k : Str) (v : V), k ∉ ks → ks.length = vs.length → putF k v (ks.zip vs) = (ks ++ [k]).zip (vs ++ [v])
  | [], [], k, v, _, _ => rfl
  | [], _ :: _, k, v, _, hl => by simp at hl
  | _ :: _, [], k, v, _, hl => by simp at hl
  | a :: ks, x :: vs, k, v, hk, hl => by
    rw [List.zip_cons_cons, putF, if_neg (show ¬ a = k from fun e => hk (e ▸ List.mem_cons_self ..)), put_snoc ks vs k v (fun z => hk (List.mem_cons_of_mem _ z)) (by simpa using hl)]
    rfl
theorem put_first (k : Str) (v : V) : putF k v [] = ([k] : List Str).zip [v] := rfl
theorem put_new8 (v0 v1 v2 v3 v4 v5 v6 v7 : V) : putF "kinds" v7 (putF "total" v6 (putF "depth" v5 (putF "pending" v4 (putF "parts" v3 (putF "watches" v2 (putF "known" v1 (putF "expected" v0 []))))))) = rK.zip [v0, v1, v2, v3, v4, v5, v6, v7] := by
  rw [put_first, put_snoc _ _ _ _ (by decide +kernel) rfl, put_snoc _ _ _ _ (by decide +kernel) rfl, put_snoc _ _ _ _ (by decide +kernel) rfl, put_snoc _ _ _ _ (by decide +kernel) rfl, put_snoc _ _ _ _ (by decide +kernel) rfl, put_snoc _ _ _ _ (by decide +kernel) rfl, put_snoc _ _ _ _ (by decide +kernel) rfl]
  rfl
def spEndBracket (K : PySem.W.Frag) (CR CP : Addr) (tz : R → Str) : Sp := fun vs H Q _ => ∃ (H0 : Hp) (x : Addr) (s : R) (n : Nat) (r : RA), vs = [.ref x, .str (tz s)] ∧ RdAt K CR CP H0 H x s [] r ∧ Pm.Bd s n ∧ n ≤ 5000 ∧
  ∀ (H' : Hp) (r' : RA), RdAt K CR CP H0 H' x s.endBracket.2 [] r' → Q (.int s.endBracket.1) H'
/-- the kind of the last pending part, an empty text if there is none -/
def topZ (s : R) : Str := match s.top with
  | some op => opStr op
  | none => ""
theorem topZ_is (s : R) (op : Op) : decide (V.str (topZ s) = V.str (opStr op)) = decide (s.top = some op) := by
  unfold topZ
  cases h : s.top with
  | none =>
    have : decide (V.str ("" : Str) = V.str (opStr op)) = false := by cases op <;> decide +kernel
    simp only [this]
    simp
  | some o =>
    simp only
    rw [opStr_eq]
    simp
def spEndWatch (K : PySem.W.Frag) (CR CP : Addr) (tz : R → Str) : Sp := fun vs H Q _ => ∃ (H0 : Hp) (x : Addr) (s : R) (n : Nat) (r : RA), vs = [.ref x, .str (tz s)] ∧ RdAt K CR CP H0 H x s [] r ∧ Pm.Bd s n ∧ n ≤ 5000 ∧
  ∀ (H' : Hp) (r' : RA), RdAt K CR CP H0 H' x s.endWatch.2 [] r' → Q (.int s.endWatch.1) H'
section
variable {P : Program} {w : World} {K : PySem.W.Frag} {mg : Str → Option Value} {base : Heap} {CR CP aO aJ aE aM : Addr}
theorem sc_rinit : FnScope ["self"] ["self"] (defScope s_Reader_init) := ⟨rfl, rfl, rfl, by decide +kernel, rfl, by decide +kernel, by decide +kernel⟩
theorem ok_rinit {f : Addr} {fd : FuncData} (F : Fun K "__init__" "Reader.__init__" s_Reader_init f fd) (T : RTxt K mg aO aJ aE aM) (TR : ClsT K CR rK) : FnOk P w K mg base CX0 1 f fd ["self"] (spRInit K CR CP) := by
  refine F.ok sc_rinit (fun vs H Q E h => ?_) (fun cdv A outer s H vs Q E hr h => ?_)
  · obtain ⟨_, _, _, rfl, _⟩ := h
    rfl
  obtain ⟨H0, x, dx, rfl, s0, hx0, hx, k⟩ := h
  refine ⟨_, pss_cons (ps_fld (pv 0) (pe_cs rfl T.watch) rfl) (pss_cons (ps_fld (pv 0) pe_dnewK rfl) (pss_cons (ps_fld (pv 0) (pe_lst pa_nil) rfl) (pss_cons (ps_fld (pv 0) (pe_lst pa_nil) rfl) (pss_cons (ps_fld (pv 0) (pe_lst pa_nil) rfl)
    (pss_cons (ps_fld (pv 0) pe_int rfl) (pss_cons (ps_fld (pv 0) pe_int rfl) (pss_one (ps_fld (pv 0) (pe_lst pa_nil) rfl)))))))), ?_⟩
  refine ⟨_, rfl, x, CR, dx, [], rfl, hx, TR.cl, TR.no 0 _ rfl, (by show 0 < 1000; decide), ?_⟩
  intro a1 n1
  obtain ⟨d1, m1⟩ := fresh_upd n1
  refine ⟨_, rfl, x, CR, dx, _, rfl, by rw [upd_ne d1.symm, upd_same], TR.cl, TR.no 1 _ rfl, (Nat.lt_of_lt_of_le (lt_put (n := 1) (by decide)) (by decide)), ?_⟩
  refine ⟨Nat.zero_le _, fun a2 n2 => ?_⟩
  obtain ⟨d2, n2⟩ := fresh_upd n2
  obtain ⟨e2, n2⟩ := fresh_upd n2
  obtain ⟨_, m2⟩ := fresh_upd n2
  refine ⟨_, rfl, x, CR, dx, _, rfl, by rw [upd_ne d2.symm, upd_same], TR.cl, TR.no 2 _ rfl, (Nat.lt_of_lt_of_le (lt_put (lt_put (n := 1) (by decide))) (by decide)), ?_⟩
  refine ⟨Nat.zero_le _, fun a3 n3 => ?_⟩
  obtain ⟨d3, n3⟩ := fresh_upd n3
  obtain ⟨e3, n3⟩ := fresh_upd n3
  obtain ⟨_, n3⟩ := fresh_upd n3
  obtain ⟨f3, n3⟩ := fresh_upd n3
  obtain ⟨_, m3⟩ := fresh_upd n3
  refine ⟨_, rfl, x, CR, dx, _, rfl, by rw [upd_ne d3.symm, upd_same], TR.cl, TR.no 3 _ rfl, (Nat.lt_of_lt_of_le (lt_put (lt_put (lt_put (n := 1) (by decide)))) (by decide)), ?_⟩
  refine ⟨Nat.zero_le _, fun a4 n4 => ?_⟩
  obtain ⟨d4, n4⟩ := fresh_upd n4
  obtain ⟨e4, n4⟩ := fresh_upd n4
  obtain ⟨_, n4⟩ := fresh_upd n4
  obtain ⟨f4, n4⟩ := fresh_upd n4
  obtain ⟨_, n4⟩ := fresh_upd n4
  obtain ⟨g4, n4⟩ := fresh_upd n4
  obtain ⟨_, m4⟩ := fresh_upd n4
  refine ⟨_, rfl, x, CR, dx, _, rfl, by rw [upd_ne d4.symm, upd_same], TR.cl, TR.no 4 _ rfl, (Nat.lt_of_lt_of_le (lt_put (lt_put (lt_put (lt_put (n := 1) (by decide))))) (by decide)), ?_⟩
  refine ⟨_, rfl, x, CR, dx, _, rfl, upd_same, TR.cl, TR.no 5 _ rfl, (Nat.lt_of_lt_of_le (lt_put (lt_put (lt_put (lt_put (lt_put (n := 1) (by decide)))))) (by decide)), ?_⟩
  refine ⟨_, rfl, x, CR, dx, _, rfl, upd_same, TR.cl, TR.no 6 _ rfl, (Nat.lt_of_lt_of_le (lt_put (lt_put (lt_put (lt_put (lt_put (lt_put (n := 1) (by decide))))))) (by decide)), ?_⟩
  rw [upd_upd, upd_upd]
  refine ⟨Nat.zero_le _, fun a5 n5 => ?_⟩
  obtain ⟨d5, n5⟩ := fresh_upd n5
  obtain ⟨e5, n5⟩ := fresh_upd n5
  obtain ⟨_, n5⟩ := fresh_upd n5
  obtain ⟨f5, n5⟩ := fresh_upd n5
  obtain ⟨_, n5⟩ := fresh_upd n5
  obtain ⟨g5, n5⟩ := fresh_upd n5
  obtain ⟨_, n5⟩ := fresh_upd n5
  obtain ⟨h5, n5⟩ := fresh_upd n5
  obtain ⟨_, m5⟩ := fresh_upd n5
  refine ⟨_, rfl, x, CR, dx, _, rfl, by rw [upd_ne d5.symm, upd_same], TR.cl, TR.no 7 _ rfl, (Nat.lt_of_lt_of_le (lt_put (lt_put (lt_put (lt_put (lt_put (lt_put (lt_put (n := 1) (by decide)))))))) (by decide)), ?_⟩
  rw [put_new8]
  refine k _ ⟨dx, a1, a2, a3, a4, a5, [], [], [], []⟩ ⟨?_, upd_same, ?_, ?_, ?_, ?_, ?_, trivial, trivial, trivial, trivial, ?_, ?_⟩
  · exact same_upd (same_upd (same_upd (same_upd (same_upd (same_upd (same_upd (same_upd (same_upd (same_upd (same_upd s0 hx0) (s0.free m1)) hx0) (s0.free m2)) hx0) (s0.free m3)) hx0) (s0.free m4)) hx0) (s0.free m5)) hx0
  all_goals have fa : a1 ≠ x ∧ a2 ≠ x ∧ a3 ≠ x ∧ a4 ≠ x ∧ a5 ≠ x ∧ a2 ≠ a1 ∧ a3 ≠ a1 ∧ a4 ≠ a1 ∧ a5 ≠ a1 ∧ a3 ≠ a2 ∧ a4 ≠ a2 ∧ a5 ≠ a2 ∧ a4 ≠ a3 ∧ a5 ≠ a3 ∧ a5 ≠ a4 := ⟨d1, d2, d3, d4, d5, e2, f3, g4, h5, e3, f4, g5, e4, f5, e5⟩
  all_goals have fb : x ≠ a1 ∧ x ≠ a2 ∧ x ≠ a3 ∧ x ≠ a4 ∧ x ≠ a5 ∧ a1 ≠ a2 ∧ a1 ≠ a3 ∧ a1 ≠ a4 ∧ a1 ≠ a5 ∧ a2 ≠ a3 ∧ a2 ≠ a4 ∧ a2 ≠ a5 ∧ a3 ≠ a4 ∧ a3 ≠ a5 ∧ a4 ≠ a5 := ⟨d1.symm, d2.symm, d3.symm, d4.symm, d5.symm, e2.symm, f3.symm, g4.symm, h5.symm, e3.symm, f4.symm, g5.symm, e4.symm, f5.symm, e5.symm⟩
  · simp [upd, fa, fb, R.new]
  · simp [upd, fa, fb, R.new]
  · simp [upd, fa, fb, R.new]
  · simp [upd, fa, fb, R.new]
  · simp [upd, fa, fb, R.new]
  · simp [RA.foot, fa, fb]
  · intro a ha
    simp only [RA.foot, List.flatMap_nil, List.append_nil, List.mem_cons, List.not_mem_nil, or_false] at ha
    rcases ha with rfl | rfl | rfl | rfl | rfl | rfl
    · exact hx0
    · exact s0.free m1
    · exact s0.free m2
    · exact s0.free m3
    · exact s0.free m4
    · exact s0.free m5
theorem sc_ebr : FnScope ["self", "around"] ["self", "around"] (defScope s_Reader_end_bracket) := ⟨rfl, rfl, rfl, by decide +kernel, rfl, by decide +kernel, by decide +kernel⟩
theorem ok_end_bracket {f : Addr} {fd : FuncData} (F : Fun K "end_bracket" "Reader.end_bracket" s_Reader_end_bracket f fd) (T : RTxt K mg aO aJ aE aM) (TR : ClsT K CR rK) : FnOk P w K mg base CX0 1 f fd ["self", "around"] (spEndBracket K CR CP topZ) := by
  refine F.ok sc_ebr (fun vs H Q E h => ?_) (fun cdv A outer s H vs Q E hr h => ?_)
  · obtain ⟨_, _, _, _, _, rfl, _⟩ := h
    rfl
  obtain ⟨H0, x, st, n, r, rfl, R0, bd, hn, k⟩ := h
  refine ⟨_, pss_cons (ps_if (pt_cmpR op_ne (pv 1) pe_str (nomark _)) (pss_one (ps_ret (pe_ci rfl T.misplaced))) pss_nil)
    (pss_cons (ps_expr (pe_bm0 PySem.F.plainAttrs_list PySem.F.slot_list_pop PySem.F.type_list_pop mt_pop (pe_fld (pv 0) rfl)))
    (pss_cons (ps_fldaug (pv 0) pe_int in_sub) (pss_one (ps_ret (pe_ci rfl T.sound))))), ?_⟩
  refine ⟨_, rfl, rfl, _, rfl, ?_⟩
  have e1 : decide (V.str (topZ st) = V.str "(") = decide (st.top = some .paren) := topZ_is st .paren
  rw [e1]
  unfold R.endBracket at k
  by_cases h1 : st.top = some .paren
  · rw [if_neg (by simp [h1])] at k
    refine ifF (by rw [decide_eq_true h1]; rfl) ?_
    cases hp : st.pend with
    | nil => unfold R.top at h1; rw [hp] at h1; cases h1
    | cons p ps =>
      have al := R0.aE.len
      rw [hp] at al
      cases hq : r.qe with
      | nil => rw [hq] at al; simp at al
      | cons q qe =>
        have hl : r.qe.reverse.map (fun q => V.ref q.a) = qe.reverse.map (fun q => V.ref q.a) ++ [.ref q.a] := by rw [hq, List.reverse_cons, List.map_append]; rfl
        refine ⟨_, rfl, x, CR, r.dx, _, _, rfl, R0.ins, TR.cl, TR.no 4 _ rfl, lk_zip rKnd (i := 4) rfl, .inl ⟨rfl, _, SqL.of R0.pend⟩, r.pe, _, .ref q.a, rfl, rfl, R0.pend, by rw [hl]; simp, ?_⟩
        rw [hl, List.dropLast_concat]
        have R1 := (R0.pop hp hq).forget
        refine ⟨_, rfl, x, CR, r.dx, _, _, rfl, R1.ins, TR.cl, TR.no 5 _ rfl, lk_zip rKnd (i := 5) rfl, _, _, rfl, rfl, r.dx, _, R1.ins, zip_few (by decide), ?_⟩
        rw [put_zip (i := 5) rKnd rfl rfl]
        rw [hp] at k
        exact k _ _ (R1.fld (s' := { st with pend := ps, depth := st.depth - 1 }) rfl rfl rfl rfl rfl)
  · rw [if_pos (by simpa using h1)] at k
    refine ifT (by rw [decide_eq_false h1]; rfl) ?_
    exact k _ _ R0
theorem sc_ewt : FnScope ["self", "around"] ["self", "around"] (defScope s_Reader_end_watch) := ⟨rfl, rfl, rfl, by decide +kernel, rfl, by decide +kernel, by decide +kernel⟩
theorem ok_end_watch {f : Addr} {fd : FuncData} (F : Fun K "end_watch" "Reader.end_watch" s_Reader_end_watch f fd) (T : RTxt K mg aO aJ aE aM) (TR : ClsT K CR rK) : FnOk P w K mg base CX0 1 f fd ["self", "around"] (spEndWatch K CR CP topZ) := by
  refine F.ok sc_ewt (fun vs H Q E h => ?_) (fun cdv A outer s H vs Q E hr h => ?_)
  · obtain ⟨_, _, _, _, _, rfl, _⟩ := h
    rfl
  obtain ⟨H0, x, st, n, r, rfl, R0, bd, hn, k⟩ := h
  refine ⟨_, pss_cons (ps_if (pt_cmpR op_eq (pv 1) pe_str (nomark _)) (pss_one (ps_ret (pe_ci rfl T.misplaced))) pss_nil)
    (pss_cons (ps_expr (pe_bm PySem.F.plainAttrs_list PySem.F.slot_list_append PySem.F.type_list_append mt_append (pe_fld (pv 0) rfl)
      (pa_cons (pe_op op_sub (pe_callB call_len_seq (by rfl) T.len PySem.boot_len (pa_cons (pe_fld (pv 0) rfl) pa_nil)) pe_int) pa_nil)))
    (pss_cons (ps_fld (pv 0) (pe_cs rfl T.watch) rfl) (pss_one (ps_ret (pe_ci rfl T.sound))))), ?_⟩
  refine ⟨_, rfl, rfl, _, rfl, ?_⟩
  have e1 : decide (V.str (topZ st) = V.str "(") = decide (st.top = some .paren) := topZ_is st .paren
  rw [e1]
  unfold R.endWatch at k
  by_cases h1 : st.top = some .paren
  · rw [if_pos h1] at k
    refine ifT (decide_eq_true h1) ?_
    exact k _ _ R0
  · rw [if_neg h1] at k
    refine ifF (decide_eq_false h1) ?_
    refine ⟨_, rfl, x, CR, r.dx, _, _, rfl, R0.ins, TR.cl, TR.no 2 _ rfl, lk_zip rKnd (i := 2) rfl, .inl ⟨rfl, _, SqL.of R0.watches⟩, _, rfl, x, CR, r.dx, _, _, rfl, R0.ins, TR.cl, TR.no 3 _ rfl, lk_zip rKnd (i := 3) rfl, r.ps, _, rfl, .inl (SqL.of R0.parts), _, _, rfl, rfl,
      r.w, _, _, rfl, rfl, R0.watches, ?_, ?_⟩
    · rw [List.length_map]
      have := bd.ws
      exact Nat.lt_of_le_of_lt (show st.watches.length ≤ 5000 by omega) (by decide)
    rw [List.length_map, R0.aP.len]
    have R1 := R0.watchPut (i := (st.parts.length : Int) - 1)
    refine ⟨_, rfl, x, CR, r.dx, _, rfl, R1.ins, TR.cl, TR.no 0 _ rfl, zip_few (by decide), ?_⟩
    rw [put_zip (i := 0) rKnd rfl rfl]
    exact k _ _ (R1.fld (s' := { st with watches := st.watches ++ [(st.parts.length : Int) - 1], exp := .watch }) rfl rfl rfl rfl rfl)
end
end Hw

set_option maxHeartbeats 4000000
namespace Hw
open PySem L2
open Pm (PM R Op Ex)
structure STxt (K : PySem.W.Frag) (mg : Str → Option Value) (w : World) (aS : Addr) : Prop where
  at_ : mg "STRENGTHS" = some (.ref aS)
  op : ∀ op : Op, Pm.isLeaf op = false → KDct K w aS (opStr op) (.int (Pm.strength op))
  cl : KDct K w aS ")" (.int 0)
  sm : KDct K w aS ";" (.int 0)
def spEndStronger (K : PySem.W.Frag) (CR CP : Addr) : Sp := fun vs H Q _ => ∃ (H0 : Hp) (x : Addr) (s : R) (n m : Nat) (r : RA), vs = [.ref x, .int m] ∧ RdAt K CR CP H0 H x s [] r ∧ Pm.Bd s n ∧ n ≤ 5000 ∧ s.exp = .joint ∧
  ∀ (H' : Hp) (r' : RA), RdAt K CR CP H0 H' x (s.settle m) [] r' → Q .non H'
theorem bd_pop1 {s : R} {n : Nat} {p : PM} {ps : List PM} (h : Pm.Bd s n) (he : s.exp = .joint) (hp : s.pend = p :: ps) : Pm.Bd s.pop1 n := by
  unfold R.pop1
  rw [hp]
  refine ⟨?_, h.ws, h.kn, h.bg, fun q hq => h.ops q (by rw [hp]; exact List.mem_cons_of_mem _ hq), fun z => ?_⟩
  · have := h.pp
    rw [hp] at this
    simp at this ⊢
    omega
  · have z : s.exp = .needed ∨ s.exp = .span ∨ s.exp = .within := z
    rw [he] at z
    rcases z with z | z | z <;> cases z
section
variable {P : Program} {w : World} {K : PySem.W.Frag} {mg : Str → Option Value} {base : Heap} {CR CP aO aJ aE aM aS : Addr}
theorem sc_est : FnScope ["self", "strength", "part"] ["self", "strength"] (defScope s_Reader_end_stronger) := ⟨rfl, rfl, rfl, by decide +kernel, rfl, by decide +kernel, by decide +kernel⟩
theorem ok_end_stronger {f : Addr} {fd : FuncData} (F : Fun K "end_stronger" "Reader.end_stronger" s_Reader_end_stronger f fd) (T : RTxt K mg aO aJ aE aM) (TS : STxt K mg w aS) (TR : ClsT K CR rK) (TP : ClsT K CP pK) :
    FnOk P w K mg base CX0 1 f fd ["self", "strength"] (spEndStronger K CR CP) := by
  refine F.ok sc_est (fun vs H Q E h => ?_) (fun cdv A outer s H vs Q E hr h => ?_)
  · obtain ⟨_, _, _, _, _, _, rfl, _⟩ := h
    rfl
  obtain ⟨H0, x, st, n, m, r, rfl, R0, bd, hn, he, k⟩ := h
  refine ⟨_, pss_one (ps_while PassesOwn.never (PW.pt (pw_and (pt_cmpR op_gt (pe_callB call_len_seq (by rfl) T.len PySem.boot_len (pa_cons (pe_fld (pv 0) rfl) pa_nil)) pe_int (nomark _))
      (pw_and1 (pt_cmpR op_gt (pe_ix ix_kdict (pe_glob (v := .ref aS) rfl TS.at_ rfl) (pe_fld (pe_ix ix_list (pe_fld (pv 0) rfl) (pe_un un_neg pe_int) (fun _ _ => rfl)) rfl) (fun _ _ => rfl)) (pv 1) (nomark _)))))
    (pss_cons (ps_set (i := 2) sc_est.nd rfl (.inl rfl) (pe_bm0 PySem.F.plainAttrs_list PySem.F.slot_list_pop PySem.F.type_list_pop mt_pop (pe_fld (pv 0) rfl)))
    (pss_cons (ps_if (pt_cmpR op_in_seq (pe_fld (pv 2) rfl) (pe_glob (v := .ref aE) rfl T.opened.at_ rfl) (by rfl)) (pss_one (ps_fldaug (pv 0) pe_int in_sub)) pss_nil)
    (pss_cons (ps_expr (pe_bm PySem.F.plainAttrs_list PySem.F.slot_list_append PySem.F.type_list_append mt_append (pe_fld (pv 2) rfl)
        (pa_cons (pe_op op_sub (pe_callB call_len_seq (by rfl) T.len PySem.boot_len (pa_cons (pe_fld (pv 0) rfl) pa_nil)) pe_int) pa_nil)))
    (pss_one (ps_expr (pe_bm PySem.F.plainAttrs_list PySem.F.slot_list_append PySem.F.type_list_append mt_append (pe_fld (pv 0) rfl) (pa_cons (pv 2) pa_nil)))))))), ?_⟩
  refine ⟨fun c σ H' => ∃ (st' : R) (r' : RA) (v : Option V), σ = [some (.ref x), some (.int m), v] ∧ RdAt K CR CP H0 H' x st' [] r' ∧ st'.settle m = st.settle m ∧ Pm.Bd st' n ∧ st'.exp = .joint ∧ c = st'.pend.length, ⟨_, st, r, none, rfl, R0, rfl, bd, he, rfl⟩, ?_⟩
  rintro c σ H' ⟨st', r', v, rfl, R1, hs, bd', he', rfl⟩
  have al := R1.aE.len
  refine ⟨_, rfl, x, CR, r'.dx, _, _, rfl, R1.ins, TR.cl, TR.no 4 _ rfl, lk_zip rKnd (i := 4) rfl, r'.pe, _, rfl, .inl (SqL.of R1.pend), _, _, rfl, rfl, _, rfl, ?_⟩
  rw [List.length_map, List.length_reverse, al]
  cases hp : st'.pend with
  | nil =>
    refine ifF (decide_eq_false (by simp)) ?_
    have : st'.settle m = st' := Pm.settle_id (by intro p ps e; rw [hp] at e; cases e)
    rw [this] at hs
    rw [← hs] at k
    exact k _ _ R1
  | cons p ps =>
    refine ifT (decide_eq_true (by simp)) ?_
    rw [hp] at al
    cases hq : r'.qe with
    | nil => rw [hq] at al; simp at al
    | cons q qe =>
      have hl : r'.qe.reverse.map (fun q => V.ref q.a) = qe.reverse.map (fun q => V.ref q.a) ++ [.ref q.a] := by rw [hq, List.reverse_cons, List.map_append]; rfl
      have aE1 := R1.aE
      rw [hq, hp] at aE1
      have hpend := R1.pend
      rw [hl] at hpend
      have hop := bd'.ops p (by rw [hp]; exact List.mem_cons_self ..)
      refine ⟨_, rfl, x, CR, r'.dx, _, _, rfl, R1.ins, TR.cl, TR.no 4 _ rfl, lk_zip rKnd (i := 4) rfl, _, rfl, r'.pe, _, _, .ref q.a, rfl, rfl, SqL.of hpend, atI_last _ _, q.a, CP, q.dx, _, _, rfl, aE1.1.ins, TP.cl, TP.no 0 _ rfl, lk_zip pKnd (i := 0) rfl, aS, _, _, rfl, rfl, TS.op p.op hop.2, _, rfl, _, _, rfl, rfl, _, rfl, ?_⟩
      by_cases hlt : m < Pm.strength p.op
      · refine ifT (decide_eq_true (by omega)) ?_
        refine ⟨fun σ' H'' => ∃ (st'' : R) (r'' : RA) (v'' : Option V), σ' = [some (.ref x), some (.int m), v''] ∧ RdAt K CR CP H0 H'' x st'' [] r'' ∧ st''.settle m = st.settle m ∧ Pm.Bd st'' n ∧ st''.exp = .joint ∧ st''.pend = ps, fun σ' H'' ⟨st'', r'', v'', e1, e2, e3, e4, e5, e6⟩ => ⟨ps.length, by simp, st'', r'', v'', e1, e2, e3, e4, e5, by rw [e6]⟩, ?_⟩
        refine ⟨_, rfl, x, CR, r'.dx, _, _, rfl, R1.ins, TR.cl, TR.no 4 _ rfl, lk_zip rKnd (i := 4) rfl, .inl ⟨rfl, _, SqL.of R1.pend⟩, r'.pe, _, .ref q.a, rfl, rfl, R1.pend, by rw [hl]; simp, ?_⟩
        rw [hl, List.dropLast_concat]
        have R2 := R1.pop hp hq
        have aO1 := R2.aO
        refine ⟨_, rfl, q.a, CP, q.dx, _, _, rfl, aO1.1.ins, TP.cl, TP.no 0 _ rfl, lk_zip pKnd (i := 0) rfl, aE, _, rfl, .inr (T.opened.sq _), rfl, strs_flat _, _, rfl, ?_⟩
        rw [if_neg (by decide), opened_is]
        have qo0 : r'.qo = [] := by
          have := R1.aO
          cases hqo : r'.qo with
          | nil => rfl
          | cons a b => rw [hqo] at this; exact (this : False).elim
        have hq3 : ({ r' with qe := qe, qo := q :: r'.qo } : RA).qo = [q] := by show q :: r'.qo = [q]; rw [qo0]
        by_cases h2 : Pm.opened p.op = true
        · refine ifT h2 ?_
          refine ⟨_, rfl, x, CR, r'.dx, _, _, rfl, R2.ins, TR.cl, TR.no 5 _ rfl, lk_zip rKnd (i := 5) rfl, _, _, rfl, rfl, r'.dx, _, R2.ins, zip_few (by decide), ?_⟩
          rw [put_zip (i := 5) rKnd rfl rfl]
          have R3 := R2.fld (s' := { st' with pend := ps, depth := st'.depth - 1 }) rfl rfl rfl rfl rfl
          have EP1 : st'.pop1 = { st' with pend := ps, depth := st'.depth - 1, parts := st'.parts ++ [{ p with ops := p.ops ++ [(st'.parts.length : Int) - 1] }] } := by
            unfold R.pop1
            rw [hp]
            simp only [h2, if_true]
          have aO2 := R3.aO
          rw [hq3] at aO2
          refine ⟨_, rfl, q.a, CP, q.dx, _, _, rfl, aO2.1.ins, TP.cl, TP.no 1 _ rfl, lk_zip pKnd (i := 1) rfl, .inl ⟨rfl, _, SqL.of aO2.1.ops⟩, _, rfl, x, CR, r'.dx, _, _, rfl, R3.ins, TR.cl, TR.no 3 _ rfl, lk_zip rKnd (i := 3) rfl, r'.ps, _, rfl, .inl (SqL.of R3.parts), _, _, rfl, rfl,
            q.ops, _, _, rfl, rfl, aO2.1.ops, ?_, ?_⟩
          · rw [List.length_map]
            exact Nat.lt_of_le_of_lt (show p.ops.length ≤ 5000 by omega) (by decide)
          rw [List.length_map, R1.aP.len]
          have R4 := R3.outOps (i := (st'.parts.length : Int) - 1) hq3
          refine ⟨_, rfl, x, CR, r'.dx, _, _, rfl, R4.ins, TR.cl, TR.no 3 _ rfl, lk_zip rKnd (i := 3) rfl, .inl ⟨rfl, _, SqL.of R4.parts⟩, _, rfl, r'.ps, _, _, rfl, rfl, R4.parts, ?_, ?_⟩
          · rw [List.length_map, R1.aP.len]
            have := bd'.pp
            exact Nat.lt_of_le_of_lt (show st'.parts.length ≤ 5000 by omega) (by decide)
          have R5 := R4.done hq3
          exact ⟨_, _, _, rfl, by rw [EP1]; exact R5, by rw [← hs, Pm.settle_pop hp hlt], bd_pop1 bd' he' hp, by rw [EP1]; exact he', by rw [EP1]⟩
        · rw [Bool.not_eq_true] at h2
          refine ifF h2 ?_
          have R3 := R2
          have EP1 : st'.pop1 = { st' with pend := ps, parts := st'.parts ++ [{ p with ops := p.ops ++ [(st'.parts.length : Int) - 1] }] } := by
            unfold R.pop1
            rw [hp]
            simp only [h2, Bool.false_eq_true, if_false]
          have aO2 := R3.aO
          rw [hq3] at aO2
          refine ⟨_, rfl, q.a, CP, q.dx, _, _, rfl, aO2.1.ins, TP.cl, TP.no 1 _ rfl, lk_zip pKnd (i := 1) rfl, .inl ⟨rfl, _, SqL.of aO2.1.ops⟩, _, rfl, x, CR, r'.dx, _, _, rfl, R3.ins, TR.cl, TR.no 3 _ rfl, lk_zip rKnd (i := 3) rfl, r'.ps, _, rfl, .inl (SqL.of R3.parts), _, _, rfl, rfl,
            q.ops, _, _, rfl, rfl, aO2.1.ops, ?_, ?_⟩
          · rw [List.length_map]
            exact Nat.lt_of_le_of_lt (show p.ops.length ≤ 5000 by omega) (by decide)
          rw [List.length_map, R1.aP.len]
          have R4 := R3.outOps (i := (st'.parts.length : Int) - 1) hq3
          refine ⟨_, rfl, x, CR, r'.dx, _, _, rfl, R4.ins, TR.cl, TR.no 3 _ rfl, lk_zip rKnd (i := 3) rfl, .inl ⟨rfl, _, SqL.of R4.parts⟩, _, rfl, r'.ps, _, _, rfl, rfl, R4.parts, ?_, ?_⟩
          · rw [List.length_map, R1.aP.len]
            have := bd'.pp
            exact Nat.lt_of_le_of_lt (show st'.parts.length ≤ 5000 by omega) (by decide)
          have R5 := R4.done hq3
          exact ⟨_, _, _, rfl, by rw [EP1]; exact R5, by rw [← hs, Pm.settle_pop hp hlt], bd_pop1 bd' he' hp, by rw [EP1]; exact he', by rw [EP1]⟩
      · refine ifF (decide_eq_false (by omega)) ?_
        have : st'.settle m = st' := Pm.settle_id (by intro p' ps' e; rw [hp] at e; cases e; omega)
        rw [this] at hs
        rw [← hs] at k
        exact k _ _ R1
end
end Hw

set_option maxHeartbeats 4000000
namespace Hw
open PySem L2
open Pm (PM R Op Ex)
def spJoin (K : PySem.W.Frag) (CR CP : Addr) : Sp := fun vs H Q _ => ∃ (H0 : Hp) (x : Addr) (s : R) (n : Nat) (op : Op) (r : RA), vs = [.ref x, .str (opStr op), .str (topZ s)] ∧ RdAt K CR CP H0 H x s [] r ∧ Pm.Bd s n ∧ n ≤ 5000 ∧ Pm.isLeaf op = false ∧
  ∀ (H' : Hp) (r' : RA), RdAt K CR CP H0 H' x (s.joinOps op).2 [] r' → Q (.int (s.joinOps op).1) H'
def spBehind : Sp := fun vs H Q _ => ∃ op : Op, vs = [.str (opStr op)] ∧ Q (.str (exStr (Pm.behind op))) H
def spBounded : Sp := fun vs H Q _ => ∃ (x : List UInt8) (lo hi : Nat), vs = [.str (sb x), .int lo, .int hi] ∧ x ≠ [] ∧ (∀ c ∈ x, Pw.isDigit c = true) ∧ x.length ≤ 4096 ∧ Q (.bl (Pm.bounded x lo hi)) H
theorem int_sb {x : List UInt8} (h0 : x ≠ []) (hd : ∀ c ∈ x, Pw.isDigit c = true) (hl : x.length ≤ 640) : PySem.intText? (sb x) = some ((Pm.num x : Nat) : Int) := by
  have e1 : (sb x).cps.toList = x.map UInt8.toNat := rfl
  have hd2 : PySem.NumText.AllDigits (sb x).cps.toList := by
    rw [e1]
    intro c hc
    obtain ⟨b, hb, rfl⟩ := List.mem_map.mp hc
    have := hd b hb
    simp [Pw.isDigit] at this
    exact this
  rw [PySem.intText_digits hd2 (by rw [e1]; simpa using h0) (by rw [sb_len]; omega)]
  congr 2
  rw [e1]
  unfold PySem.NumText.digitsVal Pm.num
  rw [List.foldl_map]
  congr 1
  funext m b
  rw [Nat.mul_comm]
theorem nil_none {α : Type} {S : α → PM → Prop} {l : List α} (h : A2 S l []) : l = [] := by
  cases l with
  | nil => rfl
  | cons a b => exact (h : False).elim
section
variable {P : Program} {w : World} {K : PySem.W.Frag} {mg : Str → Option Value} {base : Heap} {CR CP aO aJ aE aM aS : Addr}
theorem sc_join : FnScope ["self", "token", "around", "last", "part"] ["self", "token", "around"] (defScope s_Reader_join_operands) := ⟨rfl, rfl, rfl, by decide +kernel, rfl, by decide +kernel, by decide +kernel⟩
theorem ok_join {f f1 f2 : Addr} {fd fd1 fd2 : FuncData} (F : Fun K "join_operands" "Reader.join_operands" s_Reader_join_operands f fd) (T : RTxt K mg aO aJ aE aM) (TR : ClsT K CR rK) (TP : ClsT K CP pK)
    (C1 : Maker P w K mg base 1 "Part" CP f1 fd1 ["self", "kind", "operands"] (spPart CP)) (C2 : Method P w K mg base 2 CR "begin" f2 fd2 ["self", "part"] (spBegin K CR CP)) :
    FnOk P w K mg base CX0 3 f fd ["self", "token", "around"] (spJoin K CR CP) := by
  refine F.ok sc_join (fun vs H Q E h => ?_) (fun cdv A outer s H vs Q E hr h => ?_)
  · obtain ⟨_, _, _, _, _, _, rfl, _⟩ := h
    rfl
  obtain ⟨H0, x, st, n, op, r, rfl, R0, bd, hn, hlf, k⟩ := h
  refine ⟨_, pss_cons (ps_if (PW.pt (pw_and (pt_cmpR op_eq (pv 1) pe_str (nomark _)) (pw_and1 (pt_cmpR op_eq (pv 2) pe_str (nomark _))))) (pss_one (ps_ret (pe_ci rfl T.misplaced))) pss_nil)
    (pss_cons (ps_fld (pv 0) (pe_ifExp (pt_cmpR op_eq (pv 1) pe_str (nomark _)) (pe_cs rfl T.within) (pe_cs rfl T.operand)) rfl)
    (pss_cons (ps_set (i := 3) sc_join.nd rfl (.inl rfl) (pe_op op_sub (pe_callB call_len_seq (by rfl) T.len PySem.boot_len (pa_cons (pe_fld (pv 0) rfl) pa_nil)) pe_int))
    (pss_cons (ps_if (PW.pt (pw_and (pt_cmpR op_eq (pv 1) (pv 2) (nomark _)) (pw_and1 (pt_cmpR op_ne (pv 1) pe_str (nomark _)))))
      (pss_cons (ps_set (i := 4) sc_join.nd rfl (.inl rfl) (pe_ix ix_list (pe_fld (pv 0) rfl) (pe_un un_neg pe_int) (fun _ _ => rfl)))
      (pss_cons (ps_expr (pe_bm PySem.F.plainAttrs_list PySem.F.slot_list_append PySem.F.type_list_append mt_append (pe_fld (pv 4) rfl) (pa_cons (pv 3) pa_nil)))
      (pss_one (ps_ret (pe_ci rfl T.sound))))) pss_nil)
    (pss_one (ps_ret (pe_meth (pv 0) TR.cl C2.M C2.G hr C2.b .nil pass0 (pa_cons (pe_make C1.M C1.G hr rfl C1.at_ C1.b .nil pass0 (pa_cons (pv 1) (pa_cons (pe_lst (pa_cons (pv 3) pa_nil)) pa_nil))) pa_nil))))))), ?_⟩
  have e1 : decide (V.str (opStr op) = V.str "since") = decide (op = .since) := opStr_eq op .since
  have e2 : decide (V.str (topZ st) = V.str "since") = decide (st.top = some .since) := topZ_is st .since
  have e3 : decide (V.str (opStr op) = V.str (topZ st)) = decide (st.top = some op) := by
    rw [← topZ_is st op]
    congr 1
    exact propext ⟨Eq.symm, Eq.symm⟩
  have e4 : decide (V.str (opStr op) = V.str "implies") = decide (op = .implies) := opStr_eq op .implies
  refine ⟨_, rfl, rfl, _, rfl, ?_⟩
  rw [e1]
  by_cases hs : op = .since
  · refine ifT (decide_eq_true hs) ?_
    refine ⟨_, rfl, rfl, _, rfl, ?_⟩
    rw [e2]
    by_cases hts : st.top = some .since
    · refine ifT (decide_eq_true hts) ?_
      unfold R.joinOps at k
      rw [if_pos ⟨hs, hts⟩] at k
      exact k _ _ R0
    · refine ifF (decide_eq_false hts) ?_
      have hns : ¬ (op = .since ∧ st.top = some .since) := fun z => hts z.2
      refine ⟨_, rfl, rfl, _, rfl, ?_⟩
      rw [e1]
      refine ifT (decide_eq_true hs) ?_
      refine ⟨_, rfl, x, CR, r.dx, _, rfl, R0.ins, TR.cl, TR.no 0 _ rfl, zip_few (by decide), ?_⟩
      rw [put_zip (i := 0) rKnd rfl rfl]
      have R1 := R0.fld (s' := { st with exp := .within }) rfl rfl rfl rfl rfl
      have hexv : (if op = .since then Ex.within else Ex.operand) = .within := if_pos hs
      refine ⟨_, rfl, x, CR, r.dx, _, _, rfl, R1.ins, TR.cl, TR.no 3 _ rfl, lk_zip rKnd (i := 3) rfl, r.ps, _, rfl, .inl (SqL.of R1.parts), _, _, rfl, rfl, ?_⟩
      rw [List.length_map, R1.aP.len]
      have fin : ¬ (st.top = some op ∧ op ≠ .implies) → tRet (tMeth CR "begin" (spBegin K CR CP) [] E0 (tVar 0) (tCons (tMake CP (spPart CP) [] E0 (tCons (tVar 1) (tCons (tLst (tCons (tVar 3) tNil)) tNil))) tNil)) { nx := fun _ H' => Q .non H', rt := Q }
          [some (.ref x), some (.str (opStr op)), some (.str (topZ st)), some (.int ((st.parts.length : Int) - 1)), none] (upd H x (.ins CR r.dx (rK.zip (rV r { st with exp := .within })))) := by
        intro hnot
        refine ⟨_, rfl, x, r.dx, _, rfl, R1.ins, lk_none (by decide +kernel), _, rfl, _, rfl, (by show 1 ≤ sizeLine; decide), fun l hl => ?_⟩
        intro y dy ny ndy ney
        refine ⟨y, dy, l, opStr op, rfl, upd_same, rfl, ?_⟩
        obtain ⟨sm, PA1, my, nyl⟩ := made_part (C := CP) (ns := [(st.parts.length : Int) - 1]) op rfl hl ny ndy ney
        have R2 := R1.made sm PA1 my hl nyl
        refine ⟨H0, x, _, _, ⟨y, dy, l⟩, _, rfl, R2, by show _ :: r.qo = _; rw [nil_none R0.aO], ⟨(sz_of bd hn).pp, (sz_of bd hn).bg⟩, rfl, fun H' r' R3 => ?_⟩
        unfold R.joinOps at k
        rw [if_neg hns, if_neg hnot, hexv] at k
        exact k _ _ R3
      refine ⟨_, rfl, _, rfl, rfl, _, rfl, ?_⟩
      rw [e3]
      by_cases ht : st.top = some op
      · refine ifT (decide_eq_true ht) ?_
        refine ⟨_, rfl, rfl, _, rfl, ?_⟩
        rw [e4]
        by_cases hi : op = .implies
        · refine ifF (by rw [decide_eq_true hi]; rfl) ?_
          exact fin (fun z => z.2 hi)
        · refine ifT (by rw [decide_eq_false hi]; rfl) ?_
          cases hp : st.pend with
          | nil => unfold R.top at ht; rw [hp] at ht; cases ht
          | cons p ps =>
            have al := R0.aE.len
            rw [hp] at al
            cases hq : r.qe with
            | nil => rw [hq] at al; simp at al
            | cons q qe =>
              have hl : r.qe.reverse.map (fun q => V.ref q.a) = qe.reverse.map (fun q => V.ref q.a) ++ [.ref q.a] := by rw [hq, List.reverse_cons, List.map_append]; rfl
              have aE1 := R1.aE
              rw [hq] at aE1
              have aE1 : A2 (PartAt CP _) (q :: qe) (p :: ps) := hp ▸ aE1
              have hpend := R1.pend
              rw [hl] at hpend
              have hop := bd.ops p (by rw [hp]; exact List.mem_cons_self ..)
              refine ⟨_, rfl, x, CR, r.dx, _, _, rfl, R1.ins, TR.cl, TR.no 4 _ rfl, lk_zip rKnd (i := 4) rfl, _, rfl, r.pe, _, _, .ref q.a, rfl, rfl, SqL.of hpend, atI_last _ _, ?_⟩
              refine ⟨_, rfl, q.a, CP, q.dx, _, _, rfl, aE1.1.ins, TP.cl, TP.no 1 _ rfl, lk_zip pKnd (i := 1) rfl, .inl ⟨rfl, _, SqL.of aE1.1.ops⟩, _, rfl, q.ops, _, _, rfl, rfl, aE1.1.ops, ?_, ?_⟩
              · rw [List.length_map]
                exact Nat.lt_of_le_of_lt (show p.ops.length ≤ 5000 by omega) (by decide)
              have R2 := R1.topOps (i := (st.parts.length : Int) - 1) (p := p) (st := ps) hp hq
              unfold R.joinOps at k
              rw [if_neg hns, if_pos ⟨ht, hi⟩, hexv, hp] at k
              exact k _ _ R2
      · refine ifF (decide_eq_false ht) ?_
        exact fin (fun z => ht z.1)
  · refine ifF (decide_eq_false hs) ?_
    have hns : ¬ (op = .since ∧ st.top = some .since) := fun z => hs z.1
    refine ⟨_, rfl, rfl, _, rfl, ?_⟩
    rw [e1]
    refine ifF (decide_eq_false hs) ?_
    refine ⟨_, rfl, x, CR, r.dx, _, rfl, R0.ins, TR.cl, TR.no 0 _ rfl, zip_few (by decide), ?_⟩
    rw [put_zip (i := 0) rKnd rfl rfl]
    have R1 := R0.fld (s' := { st with exp := .operand }) rfl rfl rfl rfl rfl
    have hexv : (if op = .since then Ex.within else Ex.operand) = .operand := if_neg hs
    refine ⟨_, rfl, x, CR, r.dx, _, _, rfl, R1.ins, TR.cl, TR.no 3 _ rfl, lk_zip rKnd (i := 3) rfl, r.ps, _, rfl, .inl (SqL.of R1.parts), _, _, rfl, rfl, ?_⟩
    rw [List.length_map, R1.aP.len]
    have fin : ¬ (st.top = some op ∧ op ≠ .implies) → tRet (tMeth CR "begin" (spBegin K CR CP) [] E0 (tVar 0) (tCons (tMake CP (spPart CP) [] E0 (tCons (tVar 1) (tCons (tLst (tCons (tVar 3) tNil)) tNil))) tNil)) { nx := fun _ H' => Q .non H', rt := Q }
        [some (.ref x), some (.str (opStr op)), some (.str (topZ st)), some (.int ((st.parts.length : Int) - 1)), none] (upd H x (.ins CR r.dx (rK.zip (rV r { st with exp := .operand })))) := by
      intro hnot
      refine ⟨_, rfl, x, r.dx, _, rfl, R1.ins, lk_none (by decide +kernel), _, rfl, _, rfl, (by show 1 ≤ sizeLine; decide), fun l hl => ?_⟩
      intro y dy ny ndy ney
      refine ⟨y, dy, l, opStr op, rfl, upd_same, rfl, ?_⟩
      obtain ⟨sm, PA1, my, nyl⟩ := made_part (C := CP) (ns := [(st.parts.length : Int) - 1]) op rfl hl ny ndy ney
      have R2 := R1.made sm PA1 my hl nyl
      refine ⟨H0, x, _, _, ⟨y, dy, l⟩, _, rfl, R2, by show _ :: r.qo = _; rw [nil_none R0.aO], ⟨(sz_of bd hn).pp, (sz_of bd hn).bg⟩, rfl, fun H' r' R3 => ?_⟩
      unfold R.joinOps at k
      rw [if_neg hns, if_neg hnot, hexv] at k
      exact k _ _ R3
    refine ⟨_, rfl, _, rfl, rfl, _, rfl, ?_⟩
    rw [e3]
    by_cases ht : st.top = some op
    · refine ifT (decide_eq_true ht) ?_
      refine ⟨_, rfl, rfl, _, rfl, ?_⟩
      rw [e4]
      by_cases hi : op = .implies
      · refine ifF (by rw [decide_eq_true hi]; rfl) ?_
        exact fin (fun z => z.2 hi)
      · refine ifT (by rw [decide_eq_false hi]; rfl) ?_
        cases hp : st.pend with
        | nil => unfold R.top at ht; rw [hp] at ht; cases ht
        | cons p ps =>
          have al := R0.aE.len
          rw [hp] at al
          cases hq : r.qe with
          | nil => rw [hq] at al; simp at al
          | cons q qe =>
            have hl : r.qe.reverse.map (fun q => V.ref q.a) = qe.reverse.map (fun q => V.ref q.a) ++ [.ref q.a] := by rw [hq, List.reverse_cons, List.map_append]; rfl
            have aE1 := R1.aE
            rw [hq] at aE1
            have aE1 : A2 (PartAt CP _) (q :: qe) (p :: ps) := hp ▸ aE1
            have hpend := R1.pend
            rw [hl] at hpend
            have hop := bd.ops p (by rw [hp]; exact List.mem_cons_self ..)
            refine ⟨_, rfl, x, CR, r.dx, _, _, rfl, R1.ins, TR.cl, TR.no 4 _ rfl, lk_zip rKnd (i := 4) rfl, _, rfl, r.pe, _, _, .ref q.a, rfl, rfl, SqL.of hpend, atI_last _ _, ?_⟩
            refine ⟨_, rfl, q.a, CP, q.dx, _, _, rfl, aE1.1.ins, TP.cl, TP.no 1 _ rfl, lk_zip pKnd (i := 1) rfl, .inl ⟨rfl, _, SqL.of aE1.1.ops⟩, _, rfl, q.ops, _, _, rfl, rfl, aE1.1.ops, ?_, ?_⟩
            · rw [List.length_map]
              exact Nat.lt_of_le_of_lt (show p.ops.length ≤ 5000 by omega) (by decide)
            have R2 := R1.topOps (i := (st.parts.length : Int) - 1) (p := p) (st := ps) hp hq
            unfold R.joinOps at k
            rw [if_neg hns, if_pos ⟨ht, hi⟩, hexv, hp] at k
            exact k _ _ R2
    · refine ifF (decide_eq_false ht) ?_
      exact fin (fun z => ht z.1)
end
end Hw

set_option maxHeartbeats 4000000
namespace Hw
open PySem L2
open Pm (PM R Op Ex)
open Pw (ascii)
def joinsB : List (List UInt8) := [ascii "since", ascii "and", ascii "or", ascii "implies", ascii ")", ascii ";"]
def opensB : List (List UInt8) := [ascii "(", ascii "not", ascii "once", ascii "always", ascii "before", ascii "least"]
theorem joints_eq : joints.map V.str = joinsB.map fun b => V.str (sb b) := by decide +kernel
theorem openings_eq : openings.map V.str = opensB.map fun b => V.str (sb b) := by decide +kernel
theorem lit_close : (")" : Str) = sb (ascii ")") := by decide +kernel
theorem lit_semi : (";" : Str) = sb (ascii ";") := by decide +kernel
theorem lit_colon : (":" : Str) = sb (ascii ":") := by decide +kernel
theorem lit_within : ("within" : Str) = sb (ascii "within") := by decide +kernel
theorem lit_yes : ("yes" : Str) = sb (ascii "yes") := by decide +kernel
theorem lit_no : ("no" : Str) = sb (ascii "no") := by decide +kernel
theorem joinOp_sb {w : List UInt8} {op : Op} (h : Pm.joinOp w = some op) : sb w = opStr op := by
  unfold Pm.joinOp at h
  split at h
  · rename_i e; cases h; rw [e]; decide +kernel
  split at h
  · rename_i e; cases h; rw [e]; decide +kernel
  split at h
  · rename_i e; cases h; rw [e]; decide +kernel
  split at h
  · rename_i e; cases h; rw [e]; decide +kernel
  · cases h
theorem openOp_sb {w : List UInt8} {op : Op} (h : Pm.openOp w = some op) : sb w = opStr op := by
  unfold Pm.openOp at h
  split at h
  · rename_i e; cases h; rw [e]; decide +kernel
  split at h
  · rename_i e; cases h; rw [e]; decide +kernel
  split at h
  · rename_i e; cases h; rw [e]; decide +kernel
  split at h
  · rename_i e; cases h; rw [e]; decide +kernel
  split at h
  · rename_i e; cases h; rw [e]; decide +kernel
  split at h
  · rename_i e; cases h; rw [e]; decide +kernel
  · cases h
theorem opens_is (w : List UInt8) : inV (.str (sb w)) (openings.map V.str) = (Pm.openOp w).isSome := by
  rw [openings_eq, inV_sb]
  unfold opensB Pm.openOp
  simp only [List.contains_cons, List.contains_nil, Bool.or_false]
  by_cases h1 : w = ascii "("
  · rw [h1]; decide +kernel
  by_cases h2 : w = ascii "not"
  · rw [h2]; decide +kernel
  by_cases h3 : w = ascii "once"
  · rw [h3]; decide +kernel
  by_cases h4 : w = ascii "always"
  · rw [h4]; decide +kernel
  by_cases h5 : w = ascii "before"
  · rw [h5]; decide +kernel
  by_cases h6 : w = ascii "least"
  · rw [h6]; decide +kernel
  simp [h1, h2, h3, h4, h5, h6]
theorem joins_is (w : List UInt8) : inV (.str (sb w)) (joints.map V.str) = (decide (w = ascii ")") || (decide (w = ascii ";") || (Pm.joinOp w).isSome)) := by
  rw [joints_eq, inV_sb]
  unfold joinsB Pm.joinOp
  simp only [List.contains_cons, List.contains_nil, Bool.or_false]
  by_cases h1 : w = ascii "since"
  · rw [h1]; decide +kernel
  by_cases h2 : w = ascii "and"
  · rw [h2]; decide +kernel
  by_cases h3 : w = ascii "or"
  · rw [h3]; decide +kernel
  by_cases h4 : w = ascii "implies"
  · rw [h4]; decide +kernel
  by_cases h5 : w = ascii ")"
  · rw [h5]; decide +kernel
  by_cases h6 : w = ascii ";"
  · rw [h6]; decide +kernel
  simp [h1, h2, h3, h4, h5, h6]
/-- a taking method: the token's text; what the mirror does -/
def spTake (K : PySem.W.Frag) (CR CP : Addr) (ask : R → Prop) (go : R → List UInt8 → Nat × R) : Sp := fun vs H Q _ => ∃ (H0 : Hp) (x : Addr) (s : R) (n : Nat) (t : List UInt8) (r : RA), vs = [.ref x, .str (sb t)] ∧ RdAt K CR CP H0 H x s [] r ∧ Pm.Bd s n ∧ n ≤ 5000 ∧ ask s ∧ t ≠ [] ∧
  (Pm.headDigit t = true → ∀ c ∈ t, Pw.isDigit c = true) ∧ t.length ≤ 4096 ∧ ∀ (H' : Hp) (r' : RA), RdAt K CR CP H0 H' x (go s t).2 [] r' → Q (.int (go s t).1) H'
section
variable {P : Program} {w : World} {K : PySem.W.Frag} {mg : Str → Option Value} {base : Heap} {CR CP aO aJ aE aM aS : Addr}
theorem sc_beh : FnScope ["token"] ["token"] (defScope s_behind_opening) := ⟨rfl, rfl, rfl, by decide +kernel, rfl, by decide +kernel, by decide +kernel⟩
theorem ok_behind {f : Addr} {fd : FuncData} (F : Fun K "behind_opening" "behind_opening" s_behind_opening f fd) (T : RTxt K mg aO aJ aE aM) : FnOk P w K mg base CX0 1 f fd ["token"] spBehind := by
  refine F.ok sc_beh (fun vs H Q E h => ?_) (fun cdv A outer s H vs Q E hr h => ?_)
  · obtain ⟨_, rfl, _⟩ := h
    rfl
  obtain ⟨op, rfl, k⟩ := h
  refine ⟨_, pss_cons (ps_if (pt_cmpR op_eq (pv 0) pe_str (nomark _)) (pss_one (ps_ret (pe_cs rfl T.needed))) pss_nil)
    (pss_cons (ps_if (PW.pt (pw_or (pt_cmpR op_eq (pv 0) pe_str (nomark _)) (pw_or1 (pt_cmpR op_eq (pv 0) pe_str (nomark _))))) (pss_one (ps_ret (pe_cs rfl T.within))) pss_nil)
    (pss_one (ps_ret (pe_cs rfl T.operand)))), ?_⟩
  have e1 : decide (V.str (opStr op) = V.str "least") = decide (op = .least) := opStr_eq op .least
  have e2 : decide (V.str (opStr op) = V.str "once") = decide (op = .once) := opStr_eq op .once
  have e3 : decide (V.str (opStr op) = V.str "always") = decide (op = .always) := opStr_eq op .always
  refine ⟨_, rfl, rfl, _, rfl, ?_⟩
  rw [e1]
  by_cases h1 : op = .least
  · refine ifT (decide_eq_true h1) ?_
    subst h1
    exact k
  refine ifF (decide_eq_false h1) ?_
  refine ⟨_, rfl, rfl, _, rfl, ?_⟩
  rw [e2]
  by_cases h2 : op = .once
  · refine ifT (decide_eq_true h2) ?_
    subst h2
    exact k
  refine ifF (decide_eq_false h2) ?_
  refine ⟨_, rfl, rfl, _, rfl, ?_⟩
  rw [e3]
  by_cases h3 : op = .always
  · refine ifT (decide_eq_true h3) ?_
    subst h3
    exact k
  refine ifF (decide_eq_false h3) ?_
  have : Pm.behind op = .operand := by cases op <;> first | rfl | exact absurd rfl h1 | exact absurd rfl h2 | exact absurd rfl h3
  rw [this] at k
  exact k
theorem sc_bnd : FnScope ["token", "lowest", "highest"] ["token", "lowest", "highest"] (defScope s_is_bounded) := ⟨rfl, rfl, rfl, by decide +kernel, rfl, by decide +kernel, by decide +kernel⟩
theorem ok_bounded {f : Addr} {fd : FuncData} (F : Fun K "is_bounded" "is_bounded" s_is_bounded f fd) (T : RTxt K mg aO aJ aE aM) : FnOk P w K mg base CX0 1 f fd ["token", "lowest", "highest"] spBounded := by
  refine F.ok sc_bnd (fun vs H Q E h => ?_) (fun cdv A outer s H vs Q E hr h => ?_)
  · obtain ⟨_, _, _, rfl, _⟩ := h
    rfl
  obtain ⟨t, lo, hi, rfl, h0, hd, hl, k⟩ := h
  refine ⟨_, pss_one (ps_ret (pe_and (pe_cmpR op_le (pe_callB call_len_str (by rfl) T.len PySem.boot_len (pa_cons (pv 0) pa_nil)) (pe_ci rfl T.mostFigures) (nomark _))
    (pe_one (pe_chain op_le op_le (pv 1) (pe_callTy call_int_str (by rfl) T.int (by decide +kernel) (pa_cons (pv 0) pa_nil)) (pv 2))))), ?_⟩
  refine ⟨_, rfl, sb t, rfl, by rw [sb_len]; exact Nat.le_trans hl (by decide), _, _, rfl, rfl, _, rfl, ?_⟩
  rw [sb_len]
  unfold Pm.bounded at k
  by_cases h1 : t.length ≤ 10
  · refine ifT (decide_eq_true (by omega)) ?_
    rw [decide_eq_true h1, Bool.true_and] at k
    refine ⟨_, rfl, _, rfl, sb t, _, rfl, int_sb h0 hd (by omega), by rw [sb_len]; omega, _, _, rfl, rfl, _, rfl, ?_⟩
    by_cases h2 : lo ≤ Pm.num t
    · refine ifT (decide_eq_true (by omega)) ?_
      rw [decide_eq_true h2, Bool.true_and] at k
      refine ⟨_, rfl, _, _, rfl, rfl, ?_⟩
      have : decide ((Pm.num t : Int) ≤ (hi : Int)) = decide (Pm.num t ≤ hi) := by
        by_cases z : Pm.num t ≤ hi
        · rw [decide_eq_true z, decide_eq_true (by omega)]
        · rw [decide_eq_false z, decide_eq_false (by omega)]
      rw [← this] at k
      exact k
    · refine ifF (decide_eq_false (by omega)) ?_
      rw [decide_eq_false h2, Bool.false_and] at k
      exact k
  · refine ifF (decide_eq_false (by omega)) ?_
    rw [decide_eq_false h1, Bool.false_and] at k
    exact k
theorem sc_tcol : FnScope ["self", "token"] ["self", "token"] (defScope s_Reader_take_colon) := ⟨rfl, rfl, rfl, by decide +kernel, rfl, by decide +kernel, by decide +kernel⟩
theorem ok_take_colon {f : Addr} {fd : FuncData} (F : Fun K "take_colon" "Reader.take_colon" s_Reader_take_colon f fd) (T : RTxt K mg aO aJ aE aM) (TR : ClsT K CR rK) :
    FnOk P w K mg base CX0 1 f fd ["self", "token"] (spTake K CR CP (fun _ => True) R.takeColon) := by
  refine F.ok sc_tcol (fun vs H Q E h => ?_) (fun cdv A outer s H vs Q E hr h => ?_)
  · obtain ⟨_, _, _, _, _, _, rfl, _⟩ := h
    rfl
  obtain ⟨H0, x, st, n, t, r, rfl, R0, bd, hn, _, h0, hd, hl, k⟩ := h
  refine ⟨_, pss_cons (ps_if (pt_cmpR op_ne (pv 1) pe_str (nomark _)) (pss_one (ps_ret (pe_ci rfl T.misplaced))) pss_nil)
    (pss_cons (ps_fld (pv 0) (pe_cs rfl T.operand) rfl) (pss_one (ps_ret (pe_ci rfl T.sound)))), ?_⟩
  refine ⟨_, rfl, rfl, _, rfl, ?_⟩
  rw [eq_lit lit_colon]
  unfold R.takeColon at k
  by_cases h1 : t = ascii ":"
  · refine ifF (by rw [decide_eq_true h1]; rfl) ?_
    rw [if_neg (fun z => z h1)] at k
    refine ⟨_, rfl, x, CR, r.dx, _, rfl, R0.ins, TR.cl, TR.no 0 _ rfl, zip_few (by decide), ?_⟩
    rw [put_zip (i := 0) rKnd rfl rfl]
    exact k _ _ (R0.fld (s' := { st with exp := .operand }) rfl rfl rfl rfl rfl)
  · refine ifT (by rw [decide_eq_false h1]; rfl) ?_
    rw [if_pos h1] at k
    exact k _ _ R0
end
end Hw

set_option maxHeartbeats 4000000
namespace Hw
open PySem L2
open Pm (PM R Op Ex)
open Pw (ascii)
theorem valV_known (x : List UInt8) : ∀ l : List (List UInt8), valV (l.map fun n => ((Sum.inr (sb n) : Key), V.bl true)) (Sum.inr (sb x)) = if l.contains x = true then some (.bl true) else none
  | [] => rfl
  | n :: r => by
    rw [List.map_cons, List.contains_cons]
    by_cases h : n = x
    · rw [valV_pos (by rw [h])]
      simp [h]
    · have h2 : (x == n) = false := by rw [beq_eq_false_iff_ne]; exact fun e => h e.symm
      rw [valV_neg (fun e => h (sb_inj.mp (Sum.inr.inj e))), valV_known x r, h2, Bool.false_or]
theorem putK_known {x : List UInt8} {l : List (List UInt8)} (h : l.contains x = false) : putK (l.map fun n => ((Sum.inr (sb n) : Key), V.bl true)) (Sum.inr (sb x)) (.bl true) = (l ++ [x]).map fun n => ((Sum.inr (sb n) : Key), V.bl true) := by
  unfold putK
  rw [if_neg, List.map_append]
  · rfl
  · intro z
    rw [List.any_map, List.any_eq_true] at z
    obtain ⟨n, hn, e⟩ := z
    have e : (Sum.inr (sb n) : Key) = Sum.inr (sb x) := of_decide_eq_true e
    have : n = x := sb_inj.mp (Sum.inr.inj e)
    subst this
    rw [← Bool.not_eq_true] at h
    exact h (by simpa using hn)
section
variable {P : Program} {w : World} {K : PySem.W.Frag} {mg : Str → Option Value} {base : Heap} {CR CP aO aJ aE aM aS : Addr}
theorem sc_tw : FnScope ["self", "token"] ["self", "token"] (defScope s_Reader_take_watch) := ⟨rfl, rfl, rfl, by decide +kernel, rfl, by decide +kernel, by decide +kernel⟩
theorem ok_take_watch {f f1 : Addr} {fd fd1 : FuncData} (F : Fun K "take_watch" "Reader.take_watch" s_Reader_take_watch f fd) (T : RTxt K mg aO aJ aE aM) (TR : ClsT K CR rK)
    (C1 : Callee P w K mg base 2 "is_name" f1 fd1 ["token"] spIsName) : FnOk P w K mg base CX0 3 f fd ["self", "token"] (spTake K CR CP (fun _ => True) R.takeWatch) := by
  refine F.ok sc_tw (fun vs H Q E h => ?_) (fun cdv A outer s H vs Q E hr h => ?_)
  · obtain ⟨_, _, _, _, _, _, rfl, _⟩ := h
    rfl
  obtain ⟨H0, x, st, n, t, r, rfl, R0, bd, hn, _, h0, hd, hl, k⟩ := h
  have hu := hu_of hr
  refine ⟨_, pss_cons (ps_if (pt_not (pt_val (pe_call C1.G hr rfl C1.at_ C1.kp C1.b .nil pass0 (pa_cons (pv 1) pa_nil)))) (pss_one (ps_ret (pe_ci rfl T.misplaced))) pss_nil)
    (pss_cons (ps_if (PW.pt (pw_or (pt_cmp (pc_din hu (pv 1) (pe_fld (pv 0) rfl))) (pw_or1 (pt_cmpR op_eq (pe_callB call_len_seq (by rfl) T.len PySem.boot_len (pa_cons (pe_fld (pv 0) rfl) pa_nil)) (pe_ci rfl T.mostWatches) (nomark _)))))
      (pss_one (ps_ret (pe_ci rfl T.oob))) pss_nil)
    (pss_cons (ps_dput hu (pe_fld (pv 0) rfl) (pv 1) pe_bl rfl)
    (pss_cons (ps_fld (pv 0) (pe_cs rfl T.colon) rfl) (pss_one (ps_ret (pe_ci rfl T.sound)))))), ?_⟩
  unfold R.takeWatch at k
  refine ⟨_, rfl, t, rfl, h0, _, rfl, ?_⟩
  by_cases h1 : Pm.isName t = true
  · rw [if_neg (by rw [h1]; decide)] at k
    refine ifF (by rw [h1]; rfl) ?_
    refine ⟨_, rfl, _, rfl, x, CR, r.dx, _, _, rfl, R0.ins, TR.cl, TR.no 1 _ rfl, lk_zip rKnd (i := 1) rfl, r.k, _, rfl, DGet.k (k := Sum.inr (sb t)) R0.known, _, rfl, ?_⟩
    rw [valV_known]
    by_cases h2 : st.known.contains t = true
    · refine ifT (by rw [if_pos h2]; rfl) ?_
      rw [if_pos (.inl h2)] at k
      exact k _ _ R0
    · refine ifF (by rw [if_neg h2]; rfl) ?_
      refine ⟨_, rfl, x, CR, r.dx, _, _, rfl, R0.ins, TR.cl, TR.no 2 _ rfl, lk_zip rKnd (i := 2) rfl, r.w, _, rfl, .inl (SqL.of R0.watches), rfl, _, rfl, ?_⟩
      rw [List.length_map]
      have e16 : decide (V.int (st.watches.length : Nat) = V.int 16) = decide (st.watches.length = 16) := by
        by_cases z : st.watches.length = 16
        · rw [decide_eq_true z, decide_eq_true (by rw [z]; rfl)]
        · rw [decide_eq_false z, decide_eq_false (fun q => z (by have := V.int.inj q; omega))]
      rw [e16]
      by_cases h3 : st.watches.length = 16
      · refine ifT (decide_eq_true h3) ?_
        rw [if_pos (.inr h3)] at k
        exact k _ _ R0
      · refine ifF (decide_eq_false h3) ?_
        rw [if_neg (fun z => z.elim h2 h3)] at k
        refine ⟨_, rfl, x, CR, r.dx, _, _, rfl, R0.ins, TR.cl, TR.no 1 _ rfl, lk_zip rKnd (i := 1) rfl, _, rfl, r.k, _, rfl, DPut.k (k := Sum.inr (sb t)) R0.known ?_, ?_⟩
        · rw [List.length_map]
          have := bd.kn
          exact Nat.lt_of_le_of_lt (show st.known.length ≤ 5000 by omega) (by decide)
        rw [putK_known (Bool.not_eq_true _ ▸ h2)]
        have R1 := R0.knownPut (n := t)
        refine ⟨_, rfl, x, CR, r.dx, _, rfl, R1.ins, TR.cl, TR.no 0 _ rfl, zip_few (by decide), ?_⟩
        rw [put_zip (i := 0) rKnd rfl rfl]
        exact k _ _ (R1.fld (s' := { st with known := st.known ++ [t], exp := .colon }) rfl rfl rfl rfl rfl)
  · rw [Bool.not_eq_true] at h1
    rw [if_pos h1] at k
    refine ifT (by rw [h1]; rfl) ?_
    exact k _ _ R0
end
end Hw

set_option maxHeartbeats 4000000
namespace Hw
open PySem L2
open Pm (PM R Op Ex)
open Pw (ascii)
section
variable {P : Program} {w : World} {K : PySem.W.Frag} {mg : Str → Option Value} {base : Heap} {CR CP aO aJ aE aM aS : Addr}
theorem sc_take_needed : FnScope ["self", "token", "part"] ["self", "token"] (defScope s_Reader_take_needed) := ⟨rfl, rfl, rfl, by decide +kernel, rfl, by decide +kernel, by decide +kernel⟩
theorem ok_take_needed {f f1 f2 : Addr} {fd fd1 fd2 : FuncData} (F : Fun K "take_needed" "Reader.take_needed" s_Reader_take_needed f fd) (T : RTxt K mg aO aJ aE aM) (TR : ClsT K CR rK) (TP : ClsT K CP pK)
    (C1 : Callee P w K mg base 1 "is_figure" f1 fd1 ["sign"] spIsFigure) (C2 : Callee P w K mg base 1 "is_bounded" f2 fd2 ["token", "lowest", "highest"] spBounded) :
    FnOk P w K mg base CX0 2 f fd ["self", "token"] (spTake K CR CP (fun s => s.pend ≠ []) R.takeNeeded) := by
  refine F.ok sc_take_needed (fun vs H Q E h => ?_) (fun cdv A outer s H vs Q E hr h => ?_)
  · obtain ⟨_, _, _, _, _, _, rfl, _⟩ := h
    rfl
  obtain ⟨H0, x, st, n, t, r, rfl, R0, bd, hn, hne, h0, hd, hl, k⟩ := h
  refine ⟨_, pss_cons (ps_if (pt_not (pt_val (pe_call C1.G hr rfl C1.at_ C1.kp C1.b .nil pass0 (pa_cons (pe_item_str (pv 1) pe_int (fun _ _ => rfl)) pa_nil)))) (pss_one (ps_ret (pe_ci rfl T.misplaced))) pss_nil)
    (pss_cons (ps_if (pt_not (pt_val (pe_call C2.G hr rfl C2.at_ C2.kp C2.b .nil pass0 (pa_cons (pv 1) (pa_cons pe_int (pa_cons (pe_ci rfl T.mostNeeded) pa_nil)))))) (pss_one (ps_ret (pe_ci rfl T.oob))) pss_nil)
    (pss_cons (ps_set (i := 2) sc_take_needed.nd rfl (.inl rfl) (pe_ix ix_list (pe_fld (pv 0) rfl) (pe_un un_neg pe_int) (fun _ _ => rfl)))
    (pss_cons (ps_fld (pv 2) (pe_callTy call_int_str (by rfl) T.int (by decide +kernel) (pa_cons (pv 1) pa_nil)) rfl)
    (pss_cons (ps_fldaug (pv 0) (pe_fld (pv 2) rfl) in_add) (pss_cons (ps_fld (pv 0) (pe_cs rfl T.within) rfl) (pss_one (ps_ret (pe_ci rfl T.sound)))))))), ?_⟩
  unfold R.takeNeeded at k
  cases t with
  | nil => exact absurd rfl h0
  | cons c tr =>
  have ehd : Pm.headDigit (c :: tr) = Pw.isDigit c := rfl
  refine ⟨_, rfl, _, _, c.toNat, rfl, rfl, by decide, by decide, by rw [sb_len]; simp, sb_at rfl, c.toNat, rfl, _, rfl, ?_⟩
  rw [figure_is]
  by_cases h1 : Pw.isDigit c = true
  · rw [if_neg (by rw [ehd, h1]; decide)] at k
    refine ifF (by rw [h1]; rfl) ?_
    have hdg := hd (by rw [ehd]; exact h1)
    refine ⟨_, rfl, c :: tr, 1, 64, rfl, h0, hdg, hl, _, rfl, ?_⟩
    by_cases h2 : Pm.bounded (c :: tr) 1 64 = true
    · rw [if_neg (by rw [h2]; decide)] at k
      refine ifF (by rw [h2]; rfl) ?_
      have hlen : (c :: tr).length ≤ 10 := by
        unfold Pm.bounded at h2
        simp only [Bool.and_eq_true, decide_eq_true_eq] at h2
        exact h2.1
      cases hp : st.pend with
      | nil => exact absurd hp hne
      | cons p ps =>
      have al := R0.aE.len
      rw [hp] at al
      cases hq : r.qe with
      | nil => rw [hq] at al; simp at al
      | cons q qe =>
      have hlq : r.qe.reverse.map (fun q => V.ref q.a) = qe.reverse.map (fun q => V.ref q.a) ++ [.ref q.a] := by rw [hq, List.reverse_cons, List.map_append]; rfl
      have aE1 := R0.aE
      rw [hq, hp] at aE1
      have hpend := R0.pend
      rw [hlq] at hpend
      refine ⟨_, rfl, x, CR, r.dx, _, _, rfl, R0.ins, TR.cl, TR.no 4 _ rfl, lk_zip rKnd (i := 4) rfl, _, rfl, r.pe, _, _, .ref q.a, rfl, rfl, SqL.of hpend, atI_last _ _, ?_⟩
      refine ⟨_, rfl, sb (c :: tr), _, rfl, int_sb h0 hdg (by omega), by rw [sb_len]; omega, _, rfl, q.a, CP, q.dx, _, rfl, aE1.1.ins, TP.cl, TP.no 3 _ rfl, zip_few (by decide), ?_⟩
      rw [put_zip (i := 3) pKnd rfl rfl]
      have R1 := R0.topFld (p' := { p with needed := Pm.num (c :: tr) }) hp hq rfl
      have aE2 := R1.aE
      rw [hq] at aE2
      refine ⟨_, rfl, x, CR, r.dx, _, _, rfl, R1.ins, TR.cl, TR.no 6 _ rfl, lk_zip rKnd (i := 6) rfl, _, rfl, q.a, CP, q.dx, _, _, rfl, aE2.1.ins, TP.cl, TP.no 3 _ rfl, lk_zip pKnd (i := 3) rfl, _, _, rfl, rfl, r.dx, _, R1.ins, zip_few (by decide), ?_⟩
      rw [put_zip (i := 6) rKnd rfl rfl]
      have R2 := R1.fld (s' := { st with pend := { p with needed := Pm.num (c :: tr) } :: ps, total := st.total + Pm.num (c :: tr) }) rfl rfl rfl rfl rfl
      refine ⟨_, rfl, x, CR, r.dx, _, rfl, R2.ins, TR.cl, TR.no 0 _ rfl, zip_few (by decide), ?_⟩
      rw [put_zip (i := 0) rKnd rfl rfl]
      rw [hp] at k
      exact k _ _ (R2.fld (s' := { st with pend := { p with needed := Pm.num (c :: tr) } :: ps, total := st.total + Pm.num (c :: tr), exp := .within }) rfl rfl rfl rfl rfl)
    · rw [Bool.not_eq_true] at h2
      rw [if_pos h2] at k
      refine ifT (by rw [h2]; rfl) ?_
      exact k _ _ R0
  · rw [Bool.not_eq_true] at h1
    rw [if_pos (by rw [ehd]; exact h1)] at k
    refine ifT (by rw [h1]; rfl) ?_
    exact k _ _ R0
theorem sc_take_span : FnScope ["self", "token", "part"] ["self", "token"] (defScope s_Reader_take_span) := ⟨rfl, rfl, rfl, by decide +kernel, rfl, by decide +kernel, by decide +kernel⟩
theorem ok_take_span {f f1 f2 : Addr} {fd fd1 fd2 : FuncData} (F : Fun K "take_span" "Reader.take_span" s_Reader_take_span f fd) (T : RTxt K mg aO aJ aE aM) (TR : ClsT K CR rK) (TP : ClsT K CP pK)
    (C1 : Callee P w K mg base 1 "is_figure" f1 fd1 ["sign"] spIsFigure) (C2 : Callee P w K mg base 1 "is_bounded" f2 fd2 ["token", "lowest", "highest"] spBounded) :
    FnOk P w K mg base CX0 2 f fd ["self", "token"] (spTake K CR CP (fun s => s.pend ≠ []) R.takeSpan) := by
  refine F.ok sc_take_span (fun vs H Q E h => ?_) (fun cdv A outer s H vs Q E hr h => ?_)
  · obtain ⟨_, _, _, _, _, _, rfl, _⟩ := h
    rfl
  obtain ⟨H0, x, st, n, t, r, rfl, R0, bd, hn, hne, h0, hd, hl, k⟩ := h
  refine ⟨_, pss_cons (ps_if (pt_not (pt_val (pe_call C1.G hr rfl C1.at_ C1.kp C1.b .nil pass0 (pa_cons (pe_item_str (pv 1) pe_int (fun _ _ => rfl)) pa_nil)))) (pss_one (ps_ret (pe_ci rfl T.misplaced))) pss_nil)
    (pss_cons (ps_if (pt_not (pt_val (pe_call C2.G hr rfl C2.at_ C2.kp C2.b .nil pass0 (pa_cons (pv 1) (pa_cons pe_int (pa_cons (pe_ci rfl T.mostSpan) pa_nil)))))) (pss_one (ps_ret (pe_ci rfl T.oob))) pss_nil)
    (pss_cons (ps_set (i := 2) sc_take_span.nd rfl (.inl rfl) (pe_ix ix_list (pe_fld (pv 0) rfl) (pe_un un_neg pe_int) (fun _ _ => rfl)))
    (pss_cons (ps_fld (pv 2) (pe_callTy call_int_str (by rfl) T.int (by decide +kernel) (pa_cons (pv 1) pa_nil)) rfl)
    (pss_cons (ps_fld (pv 0) (pe_cs rfl T.operand) rfl) (pss_one (ps_ret (pe_ci rfl T.sound))))))), ?_⟩
  unfold R.takeSpan at k
  cases t with
  | nil => exact absurd rfl h0
  | cons c tr =>
  have ehd : Pm.headDigit (c :: tr) = Pw.isDigit c := rfl
  refine ⟨_, rfl, _, _, c.toNat, rfl, rfl, by decide, by decide, by rw [sb_len]; simp, sb_at rfl, c.toNat, rfl, _, rfl, ?_⟩
  rw [figure_is]
  by_cases h1 : Pw.isDigit c = true
  · rw [if_neg (by rw [ehd, h1]; decide)] at k
    refine ifF (by rw [h1]; rfl) ?_
    have hdg := hd (by rw [ehd]; exact h1)
    refine ⟨_, rfl, c :: tr, 0, 4294967295, rfl, h0, hdg, hl, _, rfl, ?_⟩
    by_cases h2 : Pm.bounded (c :: tr) 0 4294967295 = true
    · rw [if_neg (by rw [h2]; decide)] at k
      refine ifF (by rw [h2]; rfl) ?_
      have hlen : (c :: tr).length ≤ 10 := by
        unfold Pm.bounded at h2
        simp only [Bool.and_eq_true, decide_eq_true_eq] at h2
        exact h2.1
      cases hp : st.pend with
      | nil => exact absurd hp hne
      | cons p ps =>
      have al := R0.aE.len
      rw [hp] at al
      cases hq : r.qe with
      | nil => rw [hq] at al; simp at al
      | cons q qe =>
      have hlq : r.qe.reverse.map (fun q => V.ref q.a) = qe.reverse.map (fun q => V.ref q.a) ++ [.ref q.a] := by rw [hq, List.reverse_cons, List.map_append]; rfl
      have aE1 := R0.aE
      rw [hq, hp] at aE1
      have hpend := R0.pend
      rw [hlq] at hpend
      refine ⟨_, rfl, x, CR, r.dx, _, _, rfl, R0.ins, TR.cl, TR.no 4 _ rfl, lk_zip rKnd (i := 4) rfl, _, rfl, r.pe, _, _, .ref q.a, rfl, rfl, SqL.of hpend, atI_last _ _, ?_⟩
      refine ⟨_, rfl, sb (c :: tr), _, rfl, int_sb h0 hdg (by omega), by rw [sb_len]; omega, _, rfl, q.a, CP, q.dx, _, rfl, aE1.1.ins, TP.cl, TP.no 4 _ rfl, zip_few (by decide), ?_⟩
      rw [put_zip (i := 4) pKnd rfl rfl]
      have R1 := R0.topFld (p' := { p with span := some (Pm.num (c :: tr)) }) hp hq rfl
      have aE2 := R1.aE
      rw [hq] at aE2
      have R2 := R1
      refine ⟨_, rfl, x, CR, r.dx, _, rfl, R2.ins, TR.cl, TR.no 0 _ rfl, zip_few (by decide), ?_⟩
      rw [put_zip (i := 0) rKnd rfl rfl]
      rw [hp] at k
      exact k _ _ (R2.fld (s' := { st with pend := { p with span := some (Pm.num (c :: tr)) } :: ps, exp := .operand }) rfl rfl rfl rfl rfl)
    · rw [Bool.not_eq_true] at h2
      rw [if_pos h2] at k
      refine ifT (by rw [h2]; rfl) ?_
      exact k _ _ R0
  · rw [Bool.not_eq_true] at h1
    rw [if_pos (by rw [ehd]; exact h1)] at k
    refine ifT (by rw [h1]; rfl) ?_
    exact k _ _ R0
end
end Hw

set_option maxHeartbeats 4000000
namespace Hw
open PySem L2
open Pm (PM R Op Ex)
open Pw (ascii)
theorem bd_settle {s : R} {n k : Nat} (h : Pm.Bd s n) (he : s.exp = .joint) : Pm.Bd (s.settle k) n := h.settle k he
section
variable {P : Program} {w : World} {K : PySem.W.Frag} {mg : Str → Option Value} {base : Heap} {CR CP aO aJ aE aM aS : Addr}
theorem sc_tj : FnScope ["self", "token", "around"] ["self", "token"] (defScope s_Reader_take_joint) := ⟨rfl, rfl, rfl, by decide +kernel, rfl, by decide +kernel, by decide +kernel⟩
theorem ok_take_joint {f f1 f2 f3 f4 : Addr} {fd fd1 fd2 fd3 fd4 : FuncData} (F : Fun K "take_joint" "Reader.take_joint" s_Reader_take_joint f fd) (T : RTxt K mg aO aJ aE aM) (TS : STxt K mg w aS) (TR : ClsT K CR rK) (TP : ClsT K CP pK)
    (C1 : Method P w K mg base 1 CR "end_stronger" f1 fd1 ["self", "strength"] (spEndStronger K CR CP)) (C2 : Method P w K mg base 1 CR "end_bracket" f2 fd2 ["self", "around"] (spEndBracket K CR CP topZ))
    (C3 : Method P w K mg base 1 CR "end_watch" f3 fd3 ["self", "around"] (spEndWatch K CR CP topZ)) (C4 : Method P w K mg base 3 CR "join_operands" f4 fd4 ["self", "token", "around"] (spJoin K CR CP)) :
    FnOk P w K mg base CX0 4 f fd ["self", "token"] (spTake K CR CP (fun s => s.exp = .joint) R.takeJoint) := by
  refine F.ok sc_tj (fun vs H Q E h => ?_) (fun cdv A outer s H vs Q E hr h => ?_)
  · obtain ⟨_, _, _, _, _, _, rfl, _⟩ := h
    rfl
  obtain ⟨H0, x, st, n, t, r, rfl, R0, bd, hn, he, h0, hd, hl, k⟩ := h
  have hr1 : Room 1 _ := hr.mono (by decide)
  refine ⟨_, pss_cons (ps_if (pt_cmpR op_notIn_seq (pv 1) (pe_glob (v := .ref aJ) rfl T.joins.at_ rfl) (by rfl)) (pss_one (ps_ret (pe_ci rfl T.misplaced))) pss_nil)
    (pss_cons (ps_expr (pe_meth (pv 0) TR.cl C1.M C1.G hr1 C1.b .nil pass0 (pa_cons (pe_ix ix_kdict (pe_glob (v := .ref aS) rfl TS.at_ rfl) (pv 1) (fun _ _ => rfl)) pa_nil)))
    (pss_cons (ps_set (i := 2) sc_tj.nd rfl (.inl rfl) (pe_ifExp (pt_cmpR op_gt (pe_callB call_len_seq (by rfl) T.len PySem.boot_len (pa_cons (pe_fld (pv 0) rfl) pa_nil)) pe_int (nomark _))
        (pe_fld (pe_ix ix_list (pe_fld (pv 0) rfl) (pe_un un_neg pe_int) (fun _ _ => rfl)) rfl) pe_str))
    (pss_cons (ps_if (pt_cmpR op_eq (pv 1) pe_str (nomark _)) (pss_one (ps_ret (pe_meth (pv 0) TR.cl C2.M C2.G hr1 C2.b .nil pass0 (pa_cons (pv 2) pa_nil)))) pss_nil)
    (pss_cons (ps_if (pt_cmpR op_eq (pv 1) pe_str (nomark _)) (pss_one (ps_ret (pe_meth (pv 0) TR.cl C3.M C3.G hr1 C3.b .nil pass0 (pa_cons (pv 2) pa_nil)))) pss_nil)
    (pss_one (ps_ret (pe_meth (pv 0) TR.cl C4.M C4.G hr C4.b .nil pass0 (pa_cons (pv 1) (pa_cons (pv 2) pa_nil))))))))), ?_⟩
  refine ⟨_, rfl, aJ, _, rfl, .inr (T.joins.sq _), rfl, strs_flat _, _, rfl, ?_⟩
  rw [if_pos rfl, joins_is]
  unfold R.takeJoint at k
  by_cases c1 : t = ascii ")"
  · refine ifF (by rw [decide_eq_true c1]; rfl) ?_
    rw [if_pos c1] at k
    refine ⟨_, rfl, x, r.dx, _, rfl, R0.ins, lk_none (by decide +kernel), _, rfl, aS, _, _, rfl, rfl, by rw [c1, ← lit_close]; exact TS.cl, H0, x, st, n, 0, r, rfl, R0, bd, hn, he, fun H1 r1 R1 => ?_⟩
    have bd1 : Pm.Bd (st.settle 0) n := bd_settle bd he
    have al := R1.aE.len
    refine ⟨_, rfl, x, CR, r1.dx, _, _, rfl, R1.ins, TR.cl, TR.no 4 _ rfl, lk_zip rKnd (i := 4) rfl, r1.pe, _, rfl, .inl (SqL.of R1.pend), _, _, rfl, rfl, _, rfl, ?_⟩
    rw [List.length_map, List.length_reverse, al]
    cases hp : (st.settle 0).pend with
    | nil =>
      have tz : topZ (st.settle 0) = "" := by unfold topZ R.top; rw [hp]; rfl
      refine ifF (decide_eq_false (by simp)) ?_
      refine ⟨_, rfl, rfl, _, rfl, ?_⟩
      rw [eq_lit lit_close]
      refine ifT (decide_eq_true c1) ?_
      exact ⟨_, rfl, x, r1.dx, _, rfl, R1.ins, lk_none (by decide +kernel), _, rfl, H0, x, st.settle 0, n, r1, by rw [tz]; rfl, R1, bd1, hn, k⟩
    | cons p ps =>
      have tz : topZ (st.settle 0) = opStr p.op := by unfold topZ R.top; rw [hp]; rfl
      refine ifT (decide_eq_true (by simp)) ?_
      rw [hp] at al
      cases hq : r1.qe with
      | nil => rw [hq] at al; simp at al
      | cons q qe =>
      have hlq : r1.qe.reverse.map (fun q => V.ref q.a) = qe.reverse.map (fun q => V.ref q.a) ++ [.ref q.a] := by rw [hq, List.reverse_cons, List.map_append]; rfl
      have aE1 := R1.aE
      rw [hq, hp] at aE1
      have hpend := R1.pend
      rw [hlq] at hpend
      refine ⟨_, rfl, x, CR, r1.dx, _, _, rfl, R1.ins, TR.cl, TR.no 4 _ rfl, lk_zip rKnd (i := 4) rfl, _, rfl, r1.pe, _, _, .ref q.a, rfl, rfl, SqL.of hpend, atI_last _ _, q.a, CP, q.dx, _, _, rfl, aE1.1.ins, TP.cl, TP.no 0 _ rfl, lk_zip pKnd (i := 0) rfl, ?_⟩
      refine ⟨_, rfl, rfl, _, rfl, ?_⟩
      rw [eq_lit lit_close]
      refine ifT (decide_eq_true c1) ?_
      exact ⟨_, rfl, x, r1.dx, _, rfl, R1.ins, lk_none (by decide +kernel), _, rfl, H0, x, st.settle 0, n, r1, by rw [tz]; rfl, R1, bd1, hn, k⟩
  rw [if_neg c1] at k
  by_cases c2 : t = ascii ";"
  · refine ifF (by rw [decide_eq_true c2, Bool.true_or, Bool.or_true]; rfl) ?_
    rw [if_pos c2] at k
    refine ⟨_, rfl, x, r.dx, _, rfl, R0.ins, lk_none (by decide +kernel), _, rfl, aS, _, _, rfl, rfl, by rw [c2, ← lit_semi]; exact TS.sm, H0, x, st, n, 0, r, rfl, R0, bd, hn, he, fun H1 r1 R1 => ?_⟩
    have bd1 : Pm.Bd (st.settle 0) n := bd_settle bd he
    have al := R1.aE.len
    refine ⟨_, rfl, x, CR, r1.dx, _, _, rfl, R1.ins, TR.cl, TR.no 4 _ rfl, lk_zip rKnd (i := 4) rfl, r1.pe, _, rfl, .inl (SqL.of R1.pend), _, _, rfl, rfl, _, rfl, ?_⟩
    rw [List.length_map, List.length_reverse, al]
    cases hp : (st.settle 0).pend with
    | nil =>
      have tz : topZ (st.settle 0) = "" := by unfold topZ R.top; rw [hp]; rfl
      refine ifF (decide_eq_false (by simp)) ?_
      refine ⟨_, rfl, rfl, _, rfl, ?_⟩
      rw [eq_lit lit_close]
      refine ifF (decide_eq_false c1) ?_
      refine ⟨_, rfl, rfl, _, rfl, ?_⟩
      rw [eq_lit lit_semi]
      refine ifT (decide_eq_true c2) ?_
      exact ⟨_, rfl, x, r1.dx, _, rfl, R1.ins, lk_none (by decide +kernel), _, rfl, H0, x, st.settle 0, n, r1, by rw [tz]; rfl, R1, bd1, hn, k⟩
    | cons p ps =>
      have tz : topZ (st.settle 0) = opStr p.op := by unfold topZ R.top; rw [hp]; rfl
      refine ifT (decide_eq_true (by simp)) ?_
      rw [hp] at al
      cases hq : r1.qe with
      | nil => rw [hq] at al; simp at al
      | cons q qe =>
      have hlq : r1.qe.reverse.map (fun q => V.ref q.a) = qe.reverse.map (fun q => V.ref q.a) ++ [.ref q.a] := by rw [hq, List.reverse_cons, List.map_append]; rfl
      have aE1 := R1.aE
      rw [hq, hp] at aE1
      have hpend := R1.pend
      rw [hlq] at hpend
      refine ⟨_, rfl, x, CR, r1.dx, _, _, rfl, R1.ins, TR.cl, TR.no 4 _ rfl, lk_zip rKnd (i := 4) rfl, _, rfl, r1.pe, _, _, .ref q.a, rfl, rfl, SqL.of hpend, atI_last _ _, q.a, CP, q.dx, _, _, rfl, aE1.1.ins, TP.cl, TP.no 0 _ rfl, lk_zip pKnd (i := 0) rfl, ?_⟩
      refine ⟨_, rfl, rfl, _, rfl, ?_⟩
      rw [eq_lit lit_close]
      refine ifF (decide_eq_false c1) ?_
      refine ⟨_, rfl, rfl, _, rfl, ?_⟩
      rw [eq_lit lit_semi]
      refine ifT (decide_eq_true c2) ?_
      exact ⟨_, rfl, x, r1.dx, _, rfl, R1.ins, lk_none (by decide +kernel), _, rfl, H0, x, st.settle 0, n, r1, by rw [tz]; rfl, R1, bd1, hn, k⟩
  rw [if_neg c2] at k
  cases hj : Pm.joinOp t with
  | none =>
    rw [hj] at k
    refine ifT (by rw [decide_eq_false c1, decide_eq_false c2]; rfl) ?_
    exact k _ _ R0
  | some op =>
    rw [hj] at k
    refine ifF (by rw [decide_eq_false c1, decide_eq_false c2]; rfl) ?_
    refine ⟨_, rfl, x, r.dx, _, rfl, R0.ins, lk_none (by decide +kernel), _, rfl, aS, _, _, rfl, rfl, by rw [joinOp_sb hj]; exact TS.op op (Pm.joinOp_notLeaf hj), H0, x, st, n, (Pm.strength op), r, rfl, R0, bd, hn, he, fun H1 r1 R1 => ?_⟩
    have bd1 : Pm.Bd (st.settle (Pm.strength op)) n := bd_settle bd he
    have al := R1.aE.len
    refine ⟨_, rfl, x, CR, r1.dx, _, _, rfl, R1.ins, TR.cl, TR.no 4 _ rfl, lk_zip rKnd (i := 4) rfl, r1.pe, _, rfl, .inl (SqL.of R1.pend), _, _, rfl, rfl, _, rfl, ?_⟩
    rw [List.length_map, List.length_reverse, al]
    cases hp : (st.settle (Pm.strength op)).pend with
    | nil =>
      have tz : topZ (st.settle (Pm.strength op)) = "" := by unfold topZ R.top; rw [hp]; rfl
      refine ifF (decide_eq_false (by simp)) ?_
      refine ⟨_, rfl, rfl, _, rfl, ?_⟩
      rw [eq_lit lit_close]
      refine ifF (decide_eq_false c1) ?_
      refine ⟨_, rfl, rfl, _, rfl, ?_⟩
      rw [eq_lit lit_semi]
      refine ifF (decide_eq_false c2) ?_
      exact ⟨_, rfl, x, r1.dx, _, rfl, R1.ins, lk_none (by decide +kernel), _, rfl, _, rfl, H0, x, st.settle (Pm.strength op), n, op, r1, by rw [tz, joinOp_sb hj]; rfl, R1, bd1, hn, Pm.joinOp_notLeaf hj, k⟩
    | cons p ps =>
      have tz : topZ (st.settle (Pm.strength op)) = opStr p.op := by unfold topZ R.top; rw [hp]; rfl
      refine ifT (decide_eq_true (by simp)) ?_
      rw [hp] at al
      cases hq : r1.qe with
      | nil => rw [hq] at al; simp at al
      | cons q qe =>
      have hlq : r1.qe.reverse.map (fun q => V.ref q.a) = qe.reverse.map (fun q => V.ref q.a) ++ [.ref q.a] := by rw [hq, List.reverse_cons, List.map_append]; rfl
      have aE1 := R1.aE
      rw [hq, hp] at aE1
      have hpend := R1.pend
      rw [hlq] at hpend
      refine ⟨_, rfl, x, CR, r1.dx, _, _, rfl, R1.ins, TR.cl, TR.no 4 _ rfl, lk_zip rKnd (i := 4) rfl, _, rfl, r1.pe, _, _, .ref q.a, rfl, rfl, SqL.of hpend, atI_last _ _, q.a, CP, q.dx, _, _, rfl, aE1.1.ins, TP.cl, TP.no 0 _ rfl, lk_zip pKnd (i := 0) rfl, ?_⟩
      refine ⟨_, rfl, rfl, _, rfl, ?_⟩
      rw [eq_lit lit_close]
      refine ifF (decide_eq_false c1) ?_
      refine ⟨_, rfl, rfl, _, rfl, ?_⟩
      rw [eq_lit lit_semi]
      refine ifF (decide_eq_false c2) ?_
      exact ⟨_, rfl, x, r1.dx, _, rfl, R1.ins, lk_none (by decide +kernel), _, rfl, _, rfl, H0, x, st.settle (Pm.strength op), n, op, r1, by rw [tz, joinOp_sb hj]; rfl, R1, bd1, hn, Pm.joinOp_notLeaf hj, k⟩
end
end Hw

set_option maxHeartbeats 4000000
namespace Hw
open PySem L2
open Pm (PM R Op Ex)
open Pw (ascii)
theorem sz_exp {s : R} {e : Ex} (h : Sz s) : Sz { s with exp := e } := ⟨h.pp, h.bg⟩
section
variable {P : Program} {w : World} {K : PySem.W.Frag} {mg : Str → Option Value} {base : Heap} {CR CP aO aJ aE aM aS : Addr}
theorem sc_to : FnScope ["self", "token", "part"] ["self", "token"] (defScope s_Reader_take_operand) := ⟨rfl, rfl, rfl, by decide +kernel, rfl, by decide +kernel, by decide +kernel⟩
theorem ok_take_operand {f f1 f2 f3 f4 f5 : Addr} {fd fd1 fd2 fd3 fd4 fd5 : FuncData} (F : Fun K "take_operand" "Reader.take_operand" s_Reader_take_operand f fd) (T : RTxt K mg aO aJ aE aM) (TR : ClsT K CR rK) (TP : ClsT K CP pK)
    (C1 : Callee P w K mg base 1 "behind_opening" f1 fd1 ["token"] spBehind) (C2 : Method P w K mg base 2 CR "begin" f2 fd2 ["self", "part"] (spBegin K CR CP)) (C3 : Method P w K mg base 1 CR "put" f3 fd3 ["self", "part"] (spPut K CR CP))
    (C4 : Callee P w K mg base 2 "is_name" f4 fd4 ["token"] spIsName) (C5 : Maker P w K mg base 1 "Part" CP f5 fd5 ["self", "kind", "operands"] (spPart CP)) :
    FnOk P w K mg base CX0 3 f fd ["self", "token"] (spTake K CR CP (fun s => s.exp = .operand ∨ s.exp = .within) R.takeOperand) := by
  refine F.ok sc_to (fun vs H Q E h => ?_) (fun cdv A outer s H vs Q E hr h => ?_)
  · obtain ⟨_, _, _, _, _, _, rfl, _⟩ := h
    rfl
  obtain ⟨H0, x, st, n, t, r, rfl, R0, bd, hn, he, h0, hd, hl, k⟩ := h
  have hr1 : Room 1 _ := hr.mono (by decide)
  refine ⟨_, pss_cons (ps_if (PW.pt (pw_and (pt_cmpR op_eq (pv 1) pe_str (nomark _)) (pw_and1 (pt_cmpR op_eq (pe_fld (pv 0) rfl) (pe_cs rfl T.within) (nomark _)))))
      (pss_cons (ps_fld (pv 0) (pe_cs rfl T.span) rfl) (pss_one (ps_ret (pe_ci rfl T.sound)))) pss_nil)
    (pss_cons (ps_if (pt_cmpR op_in_seq (pv 1) (pe_glob (v := .ref aO) rfl T.opens.at_ rfl) (by rfl))
      (pss_cons (ps_fld (pv 0) (pe_call C1.G hr1 rfl C1.at_ C1.kp C1.b .nil pass0 (pa_cons (pv 1) pa_nil)) rfl)
        (pss_one (ps_ret (pe_meth (pv 0) TR.cl C2.M C2.G hr C2.b .nil pass0 (pa_cons (pe_make C5.M C5.G hr rfl C5.at_ C5.b .nil pass0 (pa_cons (pv 1) (pa_cons (pe_lst pa_nil) pa_nil))) pa_nil))))) pss_nil)
    (pss_cons (ps_if (PW.pt (pw_or (pt_cmpR op_eq (pv 1) pe_str (nomark _)) (pw_or1 (pt_cmpR op_eq (pv 1) pe_str (nomark _)))))
      (pss_one (ps_ret (pe_meth (pv 0) TR.cl C3.M C3.G hr1 C3.b .nil pass0 (pa_cons (pe_make C5.M C5.G hr rfl C5.at_ C5.b .nil pass0 (pa_cons (pv 1) (pa_cons (pe_lst pa_nil) pa_nil))) pa_nil)))) pss_nil)
    (pss_cons (ps_if (pt_val (pe_call C4.G hr rfl C4.at_ C4.kp C4.b .nil pass0 (pa_cons (pv 1) pa_nil)))
      (pss_cons (ps_set (i := 2) sc_to.nd rfl (.inl rfl) (pe_make C5.M C5.G hr rfl C5.at_ C5.b .nil pass0 (pa_cons pe_str (pa_cons (pe_lst pa_nil) pa_nil))))
      (pss_cons (ps_fld (pv 2) (pv 1) rfl)
      (pss_one (ps_ret (pe_meth (pv 0) TR.cl C3.M C3.G hr1 C3.b .nil pass0 (pa_cons (pv 2) pa_nil)))))) pss_nil)
    (pss_one (ps_ret (pe_ci rfl T.misplaced)))))), ?_⟩
  have qo0 : r.qo = [] := nil_none R0.aO
  unfold R.takeOperand at k
  refine ⟨_, rfl, rfl, _, rfl, ?_⟩
  rw [eq_lit lit_within]
  by_cases c1 : t = ascii "within"
  · refine ifT (decide_eq_true c1) ?_
    refine ⟨_, rfl, x, CR, r.dx, _, _, rfl, R0.ins, TR.cl, TR.no 0 _ rfl, lk_zip rKnd (i := 0) rfl, rfl, _, rfl, ?_⟩
    rw [exStr_eq]
    by_cases c2 : st.exp = .within
    · refine ifT (decide_eq_true c2) ?_
      rw [if_pos ⟨c1, c2⟩] at k
      refine ⟨_, rfl, x, CR, r.dx, _, rfl, R0.ins, TR.cl, TR.no 0 _ rfl, zip_few (by decide), ?_⟩
      rw [put_zip (i := 0) rKnd rfl rfl]
      exact k _ _ (R0.fld (s' := { st with exp := .span }) rfl rfl rfl rfl rfl)
    · refine ifF (decide_eq_false c2) ?_
      rw [if_neg (fun z => c2 z.2)] at k
      refine ⟨_, rfl, aO, _, rfl, .inr (T.opens.sq _), rfl, strs_flat _, _, rfl, ?_⟩
      rw [if_neg (by decide), opens_is]
      cases ho : Pm.openOp t with
      | some op =>
        rw [ho] at k
        refine ifT (by rfl) ?_
        have es := openOp_sb ho
        refine ⟨_, rfl, op, by rw [es]; rfl, _, rfl, x, CR, r.dx, _, rfl, R0.ins, TR.cl, TR.no 0 _ rfl, zip_few (by decide), ?_⟩
        rw [put_zip (i := 0) rKnd rfl rfl]
        have R1 := R0.fld (s' := { st with exp := Pm.behind op }) rfl rfl rfl rfl rfl
        refine ⟨_, rfl, x, r.dx, _, rfl, R1.ins, lk_none (by decide +kernel), _, rfl, Nat.zero_le _, fun l hl => ?_⟩
        intro y dy ny ndy ney
        refine ⟨y, dy, l, sb t, rfl, upd_same, rfl, ?_⟩
        obtain ⟨sm, PA1, my, nyl⟩ := made_part (C := CP) (ns := []) op es hl ny ndy ney
        have R2 := R1.made sm PA1 my hl nyl
        exact ⟨H0, x, _, _, ⟨y, dy, l⟩, _, rfl, R2, by show _ :: r.qo = _; rw [qo0], sz_exp (sz_of bd hn), rfl, k⟩
      | none =>
        rw [ho] at k
        refine ifF rfl ?_
        have k : ∀ (H' : Hp) (r' : RA), RdAt K CR CP H0 H' x (if t = ascii "yes" then st.put { op := .yes, ops := [] } else if t = ascii "no" then st.put { op := .no, ops := [] } else if Pm.isName t = true then st.put { op := .name, ops := [], name := t } else (3, st)).2 [] r' →
          Q (.int (if t = ascii "yes" then st.put { op := .yes, ops := [] } else if t = ascii "no" then st.put { op := .no, ops := [] } else if Pm.isName t = true then st.put { op := .name, ops := [], name := t } else (3, st)).1) H' := k
        refine ⟨_, rfl, rfl, _, rfl, ?_⟩
        rw [eq_lit lit_yes]
        by_cases y1 : t = ascii "yes"
        · refine ifT (decide_eq_true y1) ?_
          rw [if_pos y1] at k
          refine ⟨_, rfl, x, r.dx, _, rfl, R0.ins, lk_none (by decide +kernel), _, rfl, Nat.zero_le _, fun l hl => ?_⟩
          intro y dy ny ndy ney
          refine ⟨y, dy, l, sb t, rfl, upd_same, rfl, ?_⟩
          obtain ⟨sm, PA1, my, nyl⟩ := made_part (C := CP) (ns := []) (z := sb t) .yes (by rw [y1]; exact lit_yes.symm) hl ny ndy ney
          have R2 := R0.made sm PA1 my hl nyl
          exact ⟨H0, x, _, _, ⟨y, dy, l⟩, _, rfl, R2, by show _ :: r.qo = _; rw [qo0], sz_of bd hn, k⟩
        refine ifF (decide_eq_false y1) ?_
        rw [if_neg y1] at k
        refine ⟨_, rfl, rfl, _, rfl, ?_⟩
        rw [eq_lit lit_no]
        by_cases y2 : t = ascii "no"
        · refine ifT (decide_eq_true y2) ?_
          rw [if_pos y2] at k
          refine ⟨_, rfl, x, r.dx, _, rfl, R0.ins, lk_none (by decide +kernel), _, rfl, Nat.zero_le _, fun l hl => ?_⟩
          intro y dy ny ndy ney
          refine ⟨y, dy, l, sb t, rfl, upd_same, rfl, ?_⟩
          obtain ⟨sm, PA1, my, nyl⟩ := made_part (C := CP) (ns := []) (z := sb t) .no (by rw [y2]; exact lit_no.symm) hl ny ndy ney
          have R2 := R0.made sm PA1 my hl nyl
          exact ⟨H0, x, _, _, ⟨y, dy, l⟩, _, rfl, R2, by show _ :: r.qo = _; rw [qo0], sz_of bd hn, k⟩
        refine ifF (decide_eq_false y2) ?_
        rw [if_neg y2] at k
        refine ⟨_, rfl, t, rfl, h0, _, rfl, ?_⟩
        by_cases y3 : Pm.isName t = true
        · refine ifT y3 ?_
          rw [if_pos y3] at k
          refine ⟨Nat.zero_le _, fun l hl => ?_⟩
          intro y dy ny ndy ney
          refine ⟨y, dy, l, "name", rfl, upd_same, rfl, ?_⟩
          obtain ⟨sm, PA1, my, nyl⟩ := made_part (C := CP) (ns := []) (z := "name") .name rfl hl ny ndy ney
          have R2 := R0.made sm PA1 my hl nyl
          have hq2 : ({ r with qo := ⟨y, dy, l⟩ :: r.qo } : RA).qo = [⟨y, dy, l⟩] := by show _ :: r.qo = _; rw [qo0]
          refine ⟨_, rfl, _, rfl, y, CP, dy, _, rfl, PA1.ins, TP.cl, TP.no 2 _ rfl, zip_few (by decide), ?_⟩
          rw [put_zip (i := 2) pKnd rfl rfl]
          have R3 := R2.outFld (p' := { op := .name, ops := [], name := t }) hq2 rfl
          exact ⟨_, rfl, x, r.dx, _, rfl, R3.ins, lk_none (by decide +kernel), _, rfl, H0, x, _, _, ⟨y, dy, l⟩, _, rfl, R3, hq2, sz_of bd hn, k⟩
        · rw [Bool.not_eq_true] at y3
          refine ifF y3 ?_
          rw [if_neg (by rw [y3]; decide)] at k
          exact k _ _ R0
  · refine ifF (decide_eq_false c1) ?_
    rw [if_neg (fun z => c1 z.1)] at k
    refine ⟨_, rfl, aO, _, rfl, .inr (T.opens.sq _), rfl, strs_flat _, _, rfl, ?_⟩
    rw [if_neg (by decide), opens_is]
    cases ho : Pm.openOp t with
    | some op =>
      rw [ho] at k
      refine ifT (by rfl) ?_
      have es := openOp_sb ho
      refine ⟨_, rfl, op, by rw [es]; rfl, _, rfl, x, CR, r.dx, _, rfl, R0.ins, TR.cl, TR.no 0 _ rfl, zip_few (by decide), ?_⟩
      rw [put_zip (i := 0) rKnd rfl rfl]
      have R1 := R0.fld (s' := { st with exp := Pm.behind op }) rfl rfl rfl rfl rfl
      refine ⟨_, rfl, x, r.dx, _, rfl, R1.ins, lk_none (by decide +kernel), _, rfl, Nat.zero_le _, fun l hl => ?_⟩
      intro y dy ny ndy ney
      refine ⟨y, dy, l, sb t, rfl, upd_same, rfl, ?_⟩
      obtain ⟨sm, PA1, my, nyl⟩ := made_part (C := CP) (ns := []) op es hl ny ndy ney
      have R2 := R1.made sm PA1 my hl nyl
      exact ⟨H0, x, _, _, ⟨y, dy, l⟩, _, rfl, R2, by show _ :: r.qo = _; rw [qo0], sz_exp (sz_of bd hn), rfl, k⟩
    | none =>
      rw [ho] at k
      refine ifF rfl ?_
      have k : ∀ (H' : Hp) (r' : RA), RdAt K CR CP H0 H' x (if t = ascii "yes" then st.put { op := .yes, ops := [] } else if t = ascii "no" then st.put { op := .no, ops := [] } else if Pm.isName t = true then st.put { op := .name, ops := [], name := t } else (3, st)).2 [] r' →
        Q (.int (if t = ascii "yes" then st.put { op := .yes, ops := [] } else if t = ascii "no" then st.put { op := .no, ops := [] } else if Pm.isName t = true then st.put { op := .name, ops := [], name := t } else (3, st)).1) H' := k
      refine ⟨_, rfl, rfl, _, rfl, ?_⟩
      rw [eq_lit lit_yes]
      by_cases y1 : t = ascii "yes"
      · refine ifT (decide_eq_true y1) ?_
        rw [if_pos y1] at k
        refine ⟨_, rfl, x, r.dx, _, rfl, R0.ins, lk_none (by decide +kernel), _, rfl, Nat.zero_le _, fun l hl => ?_⟩
        intro y dy ny ndy ney
        refine ⟨y, dy, l, sb t, rfl, upd_same, rfl, ?_⟩
        obtain ⟨sm, PA1, my, nyl⟩ := made_part (C := CP) (ns := []) (z := sb t) .yes (by rw [y1]; exact lit_yes.symm) hl ny ndy ney
        have R2 := R0.made sm PA1 my hl nyl
        exact ⟨H0, x, _, _, ⟨y, dy, l⟩, _, rfl, R2, by show _ :: r.qo = _; rw [qo0], sz_of bd hn, k⟩
      refine ifF (decide_eq_false y1) ?_
      rw [if_neg y1] at k
      refine ⟨_, rfl, rfl, _, rfl, ?_⟩
      rw [eq_lit lit_no]
      by_cases y2 : t = ascii "no"
      · refine ifT (decide_eq_true y2) ?_
        rw [if_pos y2] at k
        refine ⟨_, rfl, x, r.dx, _, rfl, R0.ins, lk_none (by decide +kernel), _, rfl, Nat.zero_le _, fun l hl => ?_⟩
        intro y dy ny ndy ney
        refine ⟨y, dy, l, sb t, rfl, upd_same, rfl, ?_⟩
        obtain ⟨sm, PA1, my, nyl⟩ := made_part (C := CP) (ns := []) (z := sb t) .no (by rw [y2]; exact lit_no.symm) hl ny ndy ney
        have R2 := R0.made sm PA1 my hl nyl
        exact ⟨H0, x, _, _, ⟨y, dy, l⟩, _, rfl, R2, by show _ :: r.qo = _; rw [qo0], sz_of bd hn, k⟩
      refine ifF (decide_eq_false y2) ?_
      rw [if_neg y2] at k
      refine ⟨_, rfl, t, rfl, h0, _, rfl, ?_⟩
      by_cases y3 : Pm.isName t = true
      · refine ifT y3 ?_
        rw [if_pos y3] at k
        refine ⟨Nat.zero_le _, fun l hl => ?_⟩
        intro y dy ny ndy ney
        refine ⟨y, dy, l, "name", rfl, upd_same, rfl, ?_⟩
        obtain ⟨sm, PA1, my, nyl⟩ := made_part (C := CP) (ns := []) (z := "name") .name rfl hl ny ndy ney
        have R2 := R0.made sm PA1 my hl nyl
        have hq2 : ({ r with qo := ⟨y, dy, l⟩ :: r.qo } : RA).qo = [⟨y, dy, l⟩] := by show _ :: r.qo = _; rw [qo0]
        refine ⟨_, rfl, _, rfl, y, CP, dy, _, rfl, PA1.ins, TP.cl, TP.no 2 _ rfl, zip_few (by decide), ?_⟩
        rw [put_zip (i := 2) pKnd rfl rfl]
        have R3 := R2.outFld (p' := { op := .name, ops := [], name := t }) hq2 rfl
        exact ⟨_, rfl, x, r.dx, _, rfl, R3.ins, lk_none (by decide +kernel), _, rfl, H0, x, _, _, ⟨y, dy, l⟩, _, rfl, R3, hq2, sz_of bd hn, k⟩
      · rw [Bool.not_eq_true] at y3
        refine ifF y3 ?_
        rw [if_neg (by rw [y3]; decide)] at k
        exact k _ _ R0
theorem sc_iw : FnScope ["self"] ["self"] (defScope s_Reader_is_whole) := ⟨rfl, rfl, rfl, by decide +kernel, rfl, by decide +kernel, by decide +kernel⟩
def spIsWhole (K : PySem.W.Frag) (CR CP : Addr) : Sp := fun vs H Q _ => ∃ (H0 : Hp) (x : Addr) (s : R) (r : RA), vs = [.ref x] ∧ RdAt K CR CP H0 H x s [] r ∧ Q (.bl (decide (s.exp = .watch ∧ s.watches ≠ []))) H
def spTooLarge (K : PySem.W.Frag) (CR CP : Addr) : Sp := fun vs H Q _ => ∃ (H0 : Hp) (x : Addr) (s : R) (r : RA), vs = [.ref x] ∧ RdAt K CR CP H0 H x s [] r ∧ Q (.bl (decide (256 < s.parts.length ∨ 1024 < s.total))) H
theorem ok_is_whole {f : Addr} {fd : FuncData} (F : Fun K "is_whole" "Reader.is_whole" s_Reader_is_whole f fd) (T : RTxt K mg aO aJ aE aM) (TR : ClsT K CR rK) : FnOk P w K mg base CX0 1 f fd ["self"] (spIsWhole K CR CP) := by
  refine F.ok sc_iw (fun vs H Q E h => ?_) (fun cdv A outer s H vs Q E hr h => ?_)
  · obtain ⟨_, _, _, _, rfl, _⟩ := h
    rfl
  obtain ⟨H0, x, st, r, rfl, R0, k⟩ := h
  refine ⟨_, pss_one (ps_ret (pe_and (pe_cmpR op_eq (pe_fld (pv 0) rfl) (pe_cs rfl T.watch) (nomark _)) (pe_one (pe_cmpR op_gt (pe_callB call_len_seq (by rfl) T.len PySem.boot_len (pa_cons (pe_fld (pv 0) rfl) pa_nil)) pe_int (nomark _))))), ?_⟩
  refine ⟨_, rfl, x, CR, r.dx, _, _, rfl, R0.ins, TR.cl, TR.no 0 _ rfl, lk_zip rKnd (i := 0) rfl, rfl, _, rfl, ?_⟩
  rw [exStr_eq]
  by_cases c : st.exp = .watch
  · refine ifT (decide_eq_true c) ?_
    refine ⟨_, rfl, x, CR, r.dx, _, _, rfl, R0.ins, TR.cl, TR.no 2 _ rfl, lk_zip rKnd (i := 2) rfl, r.w, _, rfl, .inl (SqL.of R0.watches), _, _, rfl, rfl, ?_⟩
    rw [List.length_map]
    have e : decide ((0 : Int) < (st.watches.length : Nat)) = decide (st.exp = .watch ∧ st.watches ≠ []) := by
      cases hw : st.watches with
      | nil => simp
      | cons a b => simp [c]
    rw [← e] at k
    exact k
  · refine ifF (decide_eq_false c) ?_
    rw [decide_eq_false (fun z => c z.1)] at k
    exact k
theorem sc_il : FnScope ["self"] ["self"] (defScope s_Reader_is_too_large) := ⟨rfl, rfl, rfl, by decide +kernel, rfl, by decide +kernel, by decide +kernel⟩
theorem ok_is_too_large {f : Addr} {fd : FuncData} (F : Fun K "is_too_large" "Reader.is_too_large" s_Reader_is_too_large f fd) (T : RTxt K mg aO aJ aE aM) (TR : ClsT K CR rK) : FnOk P w K mg base CX0 1 f fd ["self"] (spTooLarge K CR CP) := by
  refine F.ok sc_il (fun vs H Q E h => ?_) (fun cdv A outer s H vs Q E hr h => ?_)
  · obtain ⟨_, _, _, _, rfl, _⟩ := h
    rfl
  obtain ⟨H0, x, st, r, rfl, R0, k⟩ := h
  refine ⟨_, pss_one (ps_ret (pe_or (pe_cmpR op_gt (pe_callB call_len_seq (by rfl) T.len PySem.boot_len (pa_cons (pe_fld (pv 0) rfl) pa_nil)) (pe_ci rfl T.mostParts) (nomark _)) (pe_one (pe_cmpR op_gt (pe_fld (pv 0) rfl) (pe_ci rfl T.mostAll) (nomark _))))), ?_⟩
  refine ⟨_, rfl, x, CR, r.dx, _, _, rfl, R0.ins, TR.cl, TR.no 3 _ rfl, lk_zip rKnd (i := 3) rfl, r.ps, _, rfl, .inl (SqL.of R0.parts), _, _, rfl, rfl, _, rfl, ?_⟩
  rw [List.length_map, R0.aP.len]
  by_cases c : 256 < st.parts.length
  · refine ifT (decide_eq_true (by omega)) ?_
    rw [decide_eq_true (.inl c)] at k
    exact k
  · refine ifF (decide_eq_false (by omega)) ?_
    refine ⟨_, rfl, x, CR, r.dx, _, _, rfl, R0.ins, TR.cl, TR.no 6 _ rfl, lk_zip rKnd (i := 6) rfl, _, _, rfl, rfl, ?_⟩
    have e : decide ((1024 : Int) < (st.total : Nat)) = decide (256 < st.parts.length ∨ 1024 < st.total) := by
      by_cases z : 1024 < st.total
      · rw [decide_eq_true (show (1024 : Int) < (st.total : Nat) by omega), decide_eq_true (show 256 < st.parts.length ∨ 1024 < st.total from .inr z)]
      · rw [decide_eq_false (show ¬ (1024 : Int) < (st.total : Nat) by omega), decide_eq_false (show ¬ (256 < st.parts.length ∨ 1024 < st.total) from fun q => q.elim c z)]
    rw [← e] at k
    exact k
end
end Hw

set_option maxHeartbeats 4000000
namespace Hw
open PySem L2
open Pm (PM R Op Ex)
open Pw (ascii)
section
variable {P : Program} {w : World} {K : PySem.W.Frag} {mg : Str → Option Value} {base : Heap} {CR CP aO aJ aE aM aS : Addr}
theorem sc_take : FnScope ["self", "token"] ["self", "token"] (defScope s_Reader_take) := ⟨rfl, rfl, rfl, by decide +kernel, rfl, by decide +kernel, by decide +kernel⟩
theorem ok_take {f f1 f2 f3 f4 f5 f6 : Addr} {fd fd1 fd2 fd3 fd4 fd5 fd6 : FuncData} (F : Fun K "take" "Reader.take" s_Reader_take f fd) (T : RTxt K mg aO aJ aE aM) (TR : ClsT K CR rK)
    (C1 : Method P w K mg base 3 CR "take_watch" f1 fd1 ["self", "token"] (spTake K CR CP (fun _ => True) R.takeWatch))
    (C2 : Method P w K mg base 1 CR "take_colon" f2 fd2 ["self", "token"] (spTake K CR CP (fun _ => True) R.takeColon))
    (C3 : Method P w K mg base 2 CR "take_needed" f3 fd3 ["self", "token"] (spTake K CR CP (fun s => s.pend ≠ []) R.takeNeeded))
    (C4 : Method P w K mg base 2 CR "take_span" f4 fd4 ["self", "token"] (spTake K CR CP (fun s => s.pend ≠ []) R.takeSpan))
    (C5 : Method P w K mg base 4 CR "take_joint" f5 fd5 ["self", "token"] (spTake K CR CP (fun s => s.exp = .joint) R.takeJoint))
    (C6 : Method P w K mg base 3 CR "take_operand" f6 fd6 ["self", "token"] (spTake K CR CP (fun s => s.exp = .operand ∨ s.exp = .within) R.takeOperand)) :
    FnOk P w K mg base CX0 5 f fd ["self", "token"] (spTake K CR CP (fun _ => True) R.take) := by
  refine F.ok sc_take (fun vs H Q E h => ?_) (fun cdv A outer s H vs Q E hr h => ?_)
  · obtain ⟨_, _, _, _, _, _, rfl, _⟩ := h
    rfl
  obtain ⟨H0, x, st, n, t, r, rfl, R0, bd, hn, _, h0, hd, hl, k⟩ := h
  have hr1 : Room 1 _ := hr.mono (by decide)
  have hr2 : Room 2 _ := hr.mono (by decide)
  have hr3 : Room 3 _ := hr.mono (by decide)
  refine ⟨_, pss_cons (ps_if (pt_cmpR op_eq (pe_fld (pv 0) rfl) (pe_cs rfl T.watch) (nomark _)) (pss_one (ps_ret (pe_meth (pv 0) TR.cl C1.M C1.G hr3 C1.b .nil pass0 (pa_cons (pv 1) pa_nil)))) pss_nil)
    (pss_cons (ps_if (pt_cmpR op_eq (pe_fld (pv 0) rfl) (pe_cs rfl T.colon) (nomark _)) (pss_one (ps_ret (pe_meth (pv 0) TR.cl C2.M C2.G hr1 C2.b .nil pass0 (pa_cons (pv 1) pa_nil)))) pss_nil)
    (pss_cons (ps_if (pt_cmpR op_eq (pe_fld (pv 0) rfl) (pe_cs rfl T.needed) (nomark _)) (pss_one (ps_ret (pe_meth (pv 0) TR.cl C3.M C3.G hr2 C3.b .nil pass0 (pa_cons (pv 1) pa_nil)))) pss_nil)
    (pss_cons (ps_if (pt_cmpR op_eq (pe_fld (pv 0) rfl) (pe_cs rfl T.span) (nomark _)) (pss_one (ps_ret (pe_meth (pv 0) TR.cl C4.M C4.G hr2 C4.b .nil pass0 (pa_cons (pv 1) pa_nil)))) pss_nil)
    (pss_cons (ps_if (pt_cmpR op_eq (pe_fld (pv 0) rfl) (pe_cs rfl T.joint) (nomark _)) (pss_one (ps_ret (pe_meth (pv 0) TR.cl C5.M C5.G hr C5.b .nil pass0 (pa_cons (pv 1) pa_nil)))) pss_nil)
    (pss_one (ps_ret (pe_meth (pv 0) TR.cl C6.M C6.G hr3 C6.b .nil pass0 (pa_cons (pv 1) pa_nil)))))))), ?_⟩
  unfold R.take at k
  refine ⟨_, rfl, x, CR, r.dx, _, _, rfl, R0.ins, TR.cl, TR.no 0 _ rfl, lk_zip rKnd (i := 0) rfl, rfl, _, rfl, ?_⟩
  rw [exStr_eq]
  by_cases he : st.exp = .watch
  · refine ifT (decide_eq_true he) ?_
    rw [he] at k
    exact ⟨_, rfl, x, r.dx, _, rfl, R0.ins, lk_none (by decide +kernel), _, rfl, H0, x, st, n, t, r, rfl, R0, bd, hn, trivial, h0, hd, hl, k⟩
  refine ifF (decide_eq_false he) ?_
  have n_watch := he
  clear he
  refine ⟨_, rfl, x, CR, r.dx, _, _, rfl, R0.ins, TR.cl, TR.no 0 _ rfl, lk_zip rKnd (i := 0) rfl, rfl, _, rfl, ?_⟩
  rw [exStr_eq]
  by_cases he : st.exp = .colon
  · refine ifT (decide_eq_true he) ?_
    rw [he] at k
    exact ⟨_, rfl, x, r.dx, _, rfl, R0.ins, lk_none (by decide +kernel), _, rfl, H0, x, st, n, t, r, rfl, R0, bd, hn, trivial, h0, hd, hl, k⟩
  refine ifF (decide_eq_false he) ?_
  have n_colon := he
  clear he
  refine ⟨_, rfl, x, CR, r.dx, _, _, rfl, R0.ins, TR.cl, TR.no 0 _ rfl, lk_zip rKnd (i := 0) rfl, rfl, _, rfl, ?_⟩
  rw [exStr_eq]
  by_cases he : st.exp = .needed
  · refine ifT (decide_eq_true he) ?_
    rw [he] at k
    exact ⟨_, rfl, x, r.dx, _, rfl, R0.ins, lk_none (by decide +kernel), _, rfl, H0, x, st, n, t, r, rfl, R0, bd, hn, bd.top (.inl he), h0, hd, hl, k⟩
  refine ifF (decide_eq_false he) ?_
  have n_needed := he
  clear he
  refine ⟨_, rfl, x, CR, r.dx, _, _, rfl, R0.ins, TR.cl, TR.no 0 _ rfl, lk_zip rKnd (i := 0) rfl, rfl, _, rfl, ?_⟩
  rw [exStr_eq]
  by_cases he : st.exp = .span
  · refine ifT (decide_eq_true he) ?_
    rw [he] at k
    exact ⟨_, rfl, x, r.dx, _, rfl, R0.ins, lk_none (by decide +kernel), _, rfl, H0, x, st, n, t, r, rfl, R0, bd, hn, bd.top (.inr (.inl he)), h0, hd, hl, k⟩
  refine ifF (decide_eq_false he) ?_
  have n_span := he
  clear he
  refine ⟨_, rfl, x, CR, r.dx, _, _, rfl, R0.ins, TR.cl, TR.no 0 _ rfl, lk_zip rKnd (i := 0) rfl, rfl, _, rfl, ?_⟩
  rw [exStr_eq]
  by_cases he : st.exp = .joint
  · refine ifT (decide_eq_true he) ?_
    rw [he] at k
    exact ⟨_, rfl, x, r.dx, _, rfl, R0.ins, lk_none (by decide +kernel), _, rfl, H0, x, st, n, t, r, rfl, R0, bd, hn, he, h0, hd, hl, k⟩
  refine ifF (decide_eq_false he) ?_
  have n_joint := he
  clear he
  have he : st.exp = .operand ∨ st.exp = .within := by
    cases e : st.exp
    case operand => exact .inl rfl
    case within => exact .inr rfl
    all_goals first | exact absurd e n_watch | exact absurd e n_colon | exact absurd e n_needed | exact absurd e n_span | exact absurd e n_joint
  have k : ∀ (H' : Hp) (r' : RA), RdAt K CR CP H0 H' x (st.takeOperand t).2 [] r' → Q (.int (st.takeOperand t).1) H' := by
    rcases he with e | e <;> (rw [e] at k; exact k)
  exact ⟨_, rfl, x, r.dx, _, rfl, R0.ins, lk_none (by decide +kernel), _, rfl, H0, x, st, n, t, r, rfl, R0, bd, hn, he, h0, hd, hl, k⟩
end
end Hw

set_option maxHeartbeats 4000000
namespace Hw
open PySem L2
open Pm (PM R Op Ex)
open Pw (ascii)
structure FTxt (mg : Str → Option Value) : Prop where
  unknown : CI mg "UNKNOWN" 2
  ended : CI mg "ENDED" 1
  large : CI mg "TOO_LARGE" 6
  mostIn : CI mg "MOST_IN_NAME" 64
/-- bytes that are their own signs -/
theorem gl_name {c : UInt8} (h : Pw.inName c = true) : gl c.toNat = c.toNat := by
  have : ∀ n, n < 256 → inWord n = true → gl n = n := by decide +kernel
  refine this _ (UInt8.toNat_lt c) ?_
  rw [← gl_inWord _ (UInt8.toNat_lt c), inWord_is]
  exact h
theorem gl_sgn' {c : UInt8} (h : Pm.isSgn c = true) : gl c.toNat = c.toNat := by
  have : ∀ n, n < 256 → decide (gl n ∈ ("():;" : Str).cps.toList) = true → gl n = n := by decide +kernel
  refine this _ (UInt8.toNat_lt c) ?_
  rw [sgn_is]
  exact h
theorem digit_name {c : UInt8} (h : Pw.isDigit c = true) : Pw.inName c = true := by
  unfold Pw.inName
  rw [h]
  simp
/-- the token's bytes are their own signs -/
theorem endT_facts {bs : List UInt8} {p : Nat} (hp : p < bs.length) :
    p ≤ Pm.endT bs p ∧ Pm.endT bs p ≤ bs.length ∧ (∀ c ∈ (bs.drop p).take (Pm.endT bs p - p), gl c.toNat = c.toNat) ∧
    (Pm.headDigit ((bs.drop p).take (Pm.endT bs p - p)) = true → ∀ c ∈ (bs.drop p).take (Pm.endT bs p - p), Pw.isDigit c = true) := by
  obtain ⟨c, r, hc, hd⟩ := get_drop hp
  have hlen : (c :: r).length = bs.length - p := by rw [← hd, List.length_drop]
  unfold Pm.endT
  rw [hd]
  simp only
  by_cases h1 : Pw.isSmall c = true
  · rw [if_pos h1, Nat.add_sub_cancel_left, Pm.takeWhile_take]
    refine ⟨by omega, by have := Pm.tw_le (q := Pw.inName) (c :: r); omega, fun x hx => gl_name (Pm.takeWhile_all _ x hx), fun h => ?_⟩
    rw [List.takeWhile_cons, if_pos (by simp [Pw.inName, h1])] at h
    have h : Pw.isDigit c = true := h
    rw [Pm.small_not_digit h1] at h
    cases h
  · rw [if_neg h1]
    by_cases h2 : Pw.isDigit c = true
    · rw [if_pos h2, Nat.add_sub_cancel_left, Pm.takeWhile_take]
      exact ⟨by omega, by have := Pm.tw_le (q := Pw.isDigit) (c :: r); omega, fun x hx => gl_name (digit_name (Pm.takeWhile_all _ x hx)), fun _ x hx => Pm.takeWhile_all _ x hx⟩
    · rw [if_neg h2]
      by_cases h3 : Pm.isSgn c = true
      · rw [if_pos h3, Nat.add_sub_cancel_left]
        refine ⟨by omega, by omega, fun x hx => ?_, fun h => ?_⟩
        · have : x = c := by simpa using hx
          rw [this]
          exact gl_sgn' h3
        · have h : Pw.isDigit c = true := h
          exact absurd h h2
      · rw [if_neg h3, Nat.sub_self]
        exact ⟨Nat.le_refl _, by omega, fun x hx => (nomatch hx), fun h => (nomatch h)⟩
theorem cut_spl {bs : List UInt8} {p e : Nat} (hpe : p ≤ e) (he : e ≤ bs.length) (h : ∀ c ∈ (bs.drop p).take (e - p), gl c.toNat = c.toNat) :
    cutS (spl bs) (some (p : Int)) (some (e : Int)) = sb ((bs.drop p).take (e - p)) := by
  unfold cutS
  rw [HT.sIx_nat, HT.sIx_nat, spl_len, Nat.min_eq_left he, Nat.min_eq_left (Nat.le_trans hpe he)]
  unfold sb
  congr 2
  show ((bs.map fun b => gl b.toNat).drop p).take (e - p) = _
  rw [← List.map_drop, ← List.map_take]
  exact List.map_congr_left h
theorem gl_zero {c : UInt8} : decide (V.str (s1 (gl c.toNat)) = V.str "0") = decide (c = 48) := by
  have h : ∀ n, n < 256 → decide (V.str (s1 (gl n)) = V.str "0") = decide (n = 48) := by decide +kernel
  rw [h _ (UInt8.toNat_lt c)]
  by_cases z : c = 48
  · rw [decide_eq_true z, decide_eq_true (by rw [z]; rfl)]
  · rw [decide_eq_false z, decide_eq_false (show ¬ c.toNat = 48 from fun q => z (UInt8.toNat_inj.mp q))]
theorem dec_int (a b : Nat) : decide (V.int (a : Int) = V.int (b : Int)) = decide (a = b) := by
  by_cases z : a = b
  · rw [decide_eq_true z, decide_eq_true (by rw [z])]
  · rw [decide_eq_false z, decide_eq_false (fun q => z (by have := V.int.inj q; omega))]
/-- the fault's list, or none and the reader behind the token -/
def Out (K : PySem.W.Frag) (CR CP : Addr) (H0 : Hp) (x : Addr) (Q : VK) : Except Pw.Fault R → Prop
  | .error f => ∀ (H' : Hp) (l : Addr), Same H0 H' → H' l = some (.lst [.int f.kind, .int f.place]) → Q (.ref l) H'
  | .ok s => ∀ (H' : Hp) (l : Addr) (r : RA), RdAt K CR CP H0 H' x s [] r → H' l = some (.lst []) → Q (.ref l) H'
def spFaultTok (K : PySem.W.Frag) (CR CP : Addr) : Sp := fun vs H Q _ => ∃ (H0 : Hp) (x : Addr) (s : R) (n p : Nat) (bs : List UInt8) (r : RA), vs = [.ref x, .str (spl bs), .int p, .int (Pm.endT bs p)] ∧
  RdAt K CR CP H0 H x s [] r ∧ Pm.Bd s n ∧ n ≤ 5000 ∧ p < bs.length ∧ bs.length ≤ 4096 ∧ Out K CR CP H0 x Q (Pm.faultT bs s p (Pm.endT bs p))
section
variable {P : Program} {w : World} {K : PySem.W.Frag} {mg : Str → Option Value} {base : Heap} {CR CP aO aJ aE aM aS : Addr}
theorem sc_fot : FnScope ["reader", "text", "start", "end", "kind"] ["reader", "text", "start", "end"] (defScope s_fault_of_token) := ⟨rfl, rfl, rfl, by decide +kernel, rfl, by decide +kernel, by decide +kernel⟩
theorem ok_fault_of_token {f f1 f2 f3 : Addr} {fd fd1 fd2 fd3 : FuncData} (F : Fun K "fault_of_token" "fault_of_token" s_fault_of_token f fd) (T : RTxt K mg aO aJ aE aM) (TF : FTxt mg) (TR : ClsT K CR rK)
    (C1 : Callee P w K mg base 1 "is_letter" f1 fd1 ["sign"] spIsLetter) (C2 : Callee P w K mg base 1 "is_figure" f2 fd2 ["sign"] spIsFigure)
    (C3 : Method P w K mg base 5 CR "take" f3 fd3 ["self", "token"] (spTake K CR CP (fun _ => True) R.take)) :
    FnOk P w K mg base CX0 6 f fd ["reader", "text", "start", "end"] (spFaultTok K CR CP) := by
  refine F.ok sc_fot (fun vs H Q E h => ?_) (fun cdv A outer s H vs Q E hr h => ?_)
  · obtain ⟨_, _, _, _, _, _, _, rfl, _⟩ := h
    rfl
  obtain ⟨H0, x, st, n, p, bs, r, rfl, R0, bd, hn, hp, hl, k⟩ := h
  have hr1 : Room 1 _ := hr.mono (by decide)
  refine ⟨_, pss_cons (ps_if (pt_cmpR op_eq (pv 3) (pv 2) (nomark _)) (pss_one (ps_ret (pe_lst (pa_cons (pe_ci rfl TF.unknown) (pa_cons (pv 2) pa_nil))))) pss_nil)
    (C8.pss_cut (ps_if (PW.pt (pw_and (pt_cmpR op_eq (pe_item_str (pv 1) (pv 2) (fun _ _ => rfl)) pe_str (nomark _)) (pw_and1 (pt_cmpR op_gt (pv 3) (pe_op op_add (pv 2) pe_int) (nomark _)))))
      (pss_one (ps_ret (pe_lst (pa_cons (pe_ci rfl TF.unknown) (pa_cons (pe_op op_add (pv 2) pe_int) pa_nil))))) pss_nil)
    (C8.pss_cut (ps_if (PW.pt (pw_and (pt_val (pe_call C1.G hr1 rfl C1.at_ C1.kp C1.b .nil pass0 (pa_cons (pe_item_str (pv 1) (pv 2) (fun _ _ => rfl)) pa_nil))) (pw_and1 (pt_cmpR op_gt (pe_op op_sub (pv 3) (pv 2)) (pe_ci rfl TF.mostIn) (nomark _)))))
      (pss_one (ps_ret (pe_lst (pa_cons (pe_ci rfl T.oob) (pa_cons (pv 2) pa_nil))))) pss_nil)
    (C8.pss_cut (ps_if (PW.pt (pw_and (pt_val (pe_call C1.G hr1 rfl C1.at_ C1.kp C1.b .nil pass0 (pa_cons (pe_item_str (pv 1) (pv 2) (fun _ _ => rfl)) pa_nil)))
        (pw_and (pt_cmpR op_gt (pv 2) pe_int (nomark _)) (pw_and1 (pt_val (pe_call C2.G hr1 rfl C2.at_ C2.kp C2.b .nil pass0 (pa_cons (pe_item_str (pv 1) (pe_op op_sub (pv 2) pe_int) (fun _ _ => rfl)) pa_nil)))))))
      (pss_one (ps_ret (pe_lst (pa_cons (pe_ci rfl T.misplaced) (pa_cons (pv 2) pa_nil))))) pss_nil)
    (pss_cons (ps_set (i := 4) sc_fot.nd rfl (.inl rfl) (pe_meth (pv 0) TR.cl C3.M C3.G hr C3.b .nil pass0 (pa_cons (pe_slice sl_str (pv 1) (po_some (pv 2)) (po_some (pv 3))) pa_nil)))
    (pss_one (ps_ret (pe_ifExp (pt_cmpR op_eq (pv 4) (pe_ci rfl T.sound) (nomark _)) (pe_lst pa_nil) (pe_lst (pa_cons (pv 4) (pa_cons (pv 2) pa_nil)))))))))), ?_⟩
  obtain ⟨hpe, hel, hgl, hdg⟩ := endT_facts hp
  obtain ⟨e, he⟩ : ∃ e, e = Pm.endT bs p := ⟨_, rfl⟩
  rw [← he] at hpe hel hgl hdg k ⊢
  obtain ⟨c, rr, hc, hd⟩ := get_drop hp
  have hgd : bs.getD p 0 = c := by rw [List.getD, hc]; rfl
  unfold Pm.faultT at k
  rw [hgd] at k
  refine ⟨_, rfl, _, rfl, rfl, _, rfl, ?_⟩
  rw [dec_int]
  by_cases c1 : e = p
  · refine ifT (decide_eq_true c1) ?_
    rw [if_pos c1] at k
    exact ⟨_, rfl, (by show 2 ≤ sizeLine; decide), fun l hl => k _ l (same_upd R0.same (R0.same.free hl)) upd_same⟩
  refine ifF (decide_eq_false c1) ?_
  rw [if_neg c1] at k
  have R0' := R0
  refine ⟨fun σ' H' => σ' = [some (.ref x), some (.str (spl bs)), some (.int p), some (.int e), none] ∧ H' = H ∧ ¬ (c = 48 ∧ p + 1 < e), ?_, ?_⟩
  · refine ⟨_, rfl, _, rfl, _, _, _, rfl, rfl, by omega, by omega, by rw [spl_len]; omega, spl_at hc, rfl, _, rfl, ?_⟩
    rw [gl_zero]
    by_cases c2 : c = 48
    · refine ifT (decide_eq_true c2) ?_
      refine ⟨_, rfl, _, rfl, _, _, rfl, rfl, _, _, rfl, rfl, _, rfl, ?_⟩
      by_cases c3 : p + 1 < e
      · refine ifT (decide_eq_true (by omega)) ?_
        rw [if_pos ⟨c2, c3⟩] at k
        exact ⟨_, rfl, _, _, rfl, rfl, (by show 2 ≤ sizeLine; decide), fun l hl => k _ l (same_upd R0.same (R0.same.free hl)) upd_same⟩
      · refine ifF (decide_eq_false (by omega)) ?_
        exact ⟨rfl, rfl, fun z => c3 z.2⟩
    · refine ifF (decide_eq_false c2) ?_
      exact ⟨rfl, rfl, fun z => c2 z.1⟩
  rintro σ' H' ⟨rfl, rfl, n2⟩
  rw [if_neg n2] at k
  refine ⟨fun σ' H'' => σ' = [some (.ref x), some (.str (spl bs)), some (.int p), some (.int e), none] ∧ H'' = H' ∧ ¬ (Pw.isSmall c = true ∧ 64 < e - p), ?_, ?_⟩
  · refine ⟨_, rfl, _, rfl, _, _, _, rfl, rfl, by omega, by omega, by rw [spl_len]; omega, spl_at hc, _, rfl, _, rfl, ?_⟩
    rw [small_gl]
    by_cases c2 : Pw.isSmall c = true
    · refine ifT c2 ?_
      refine ⟨_, rfl, _, rfl, _, _, rfl, rfl, _, _, rfl, rfl, _, rfl, ?_⟩
      by_cases c3 : 64 < e - p
      · refine ifT (decide_eq_true (by omega)) ?_
        rw [if_pos ⟨c2, c3⟩] at k
        exact ⟨_, rfl, (by show 2 ≤ sizeLine; decide), fun l hl => k _ l (same_upd R0.same (R0.same.free hl)) upd_same⟩
      · refine ifF (decide_eq_false (by omega)) ?_
        exact ⟨rfl, rfl, fun z => c3 z.2⟩
    · rw [Bool.not_eq_true] at c2
      refine ifF c2 ?_
      exact ⟨rfl, rfl, fun z => by rw [c2] at z; cases z.1⟩
  rintro σ' H'' ⟨rfl, rfl, n3⟩
  rw [if_neg n3] at k
  refine ⟨fun σ' H' => σ' = [some (.ref x), some (.str (spl bs)), some (.int p), some (.int e), none] ∧ H' = H'' ∧ ¬ (Pw.isSmall c = true ∧ 0 < p ∧ Pw.isDigit (bs.getD (p - 1) 0) = true), ?_, ?_⟩
  · refine ⟨_, rfl, _, rfl, _, _, _, rfl, rfl, by omega, by omega, by rw [spl_len]; omega, spl_at hc, _, rfl, _, rfl, ?_⟩
    rw [small_gl]
    by_cases c2 : Pw.isSmall c = true
    · refine ifT c2 ?_
      refine ⟨_, rfl, _, _, rfl, rfl, _, rfl, ?_⟩
      by_cases c3 : 0 < p
      · refine ifT (decide_eq_true (by omega)) ?_
        obtain ⟨c', rr', hc', hd'⟩ := get_drop (show p - 1 < bs.length by omega)
        have hgd' : bs.getD (p - 1) 0 = c' := by rw [List.getD, hc']; rfl
        have hcast : ((p : Int) - 1) = ((p - 1 : Nat) : Int) := by omega
        refine ⟨_, rfl, _, rfl, _, _, rfl, rfl, _, (p : Int) - 1, gl c'.toNat, rfl, rfl, by omega, by omega, by rw [spl_len]; omega, by rw [hcast, Int.toNat_natCast]; exact spl_at hc', _, rfl, _, rfl, ?_⟩
        rw [figure_gl]
        rw [hgd'] at k ⊢
        by_cases c4 : Pw.isDigit c' = true
        · refine ifT c4 ?_
          rw [if_pos ⟨c2, c3, c4⟩] at k
          exact ⟨_, rfl, (by show 2 ≤ sizeLine; decide), fun l hl => k _ l (same_upd R0.same (R0.same.free hl)) upd_same⟩
        · rw [Bool.not_eq_true] at c4
          refine ifF c4 ?_
          exact ⟨rfl, rfl, fun z => by rw [c4] at z; cases z.2.2⟩
      · refine ifF (decide_eq_false (by omega)) ?_
        exact ⟨rfl, rfl, fun z => c3 z.2.1⟩
    · rw [Bool.not_eq_true] at c2
      refine ifF c2 ?_
      exact ⟨rfl, rfl, fun z => by rw [c2] at z; cases z.1⟩
  rintro σ' H' ⟨rfl, rfl, n4⟩
  rw [if_neg n4] at k
  have htl : ((bs.drop p).take (e - p)).length = e - p := by rw [List.length_take, List.length_drop]; omega
  refine ⟨_, rfl, x, r.dx, _, rfl, R0.ins, lk_none (by decide +kernel), _, rfl, _, rfl, _, rfl, _, rfl, _, rfl, spl bs, rfl, by rw [spl_len]; exact Nat.le_trans hl (by decide), ?_⟩
  refine ⟨H0, x, st, n, (bs.drop p).take (e - p), r, by rw [cut_spl hpe hel hgl]; rfl, R0, bd, hn, trivial, ?_, hdg, by rw [htl]; omega, fun H1 r1 R1 => ?_⟩
  · intro z
    rw [z] at htl
    simp at htl
    omega
  refine ⟨_, rfl, rfl, _, rfl, ?_⟩
  have e0 : decide (V.int ((st.take ((bs.drop p).take (e - p))).1 : Nat) = V.int 0) = decide ((st.take ((bs.drop p).take (e - p))).1 = 0) := dec_int _ 0
  rw [e0]
  by_cases c5 : (st.take ((bs.drop p).take (e - p))).1 = 0
  · refine ifT (decide_eq_true c5) ?_
    rw [if_pos c5] at k
    exact ⟨Nat.zero_le _, fun l hl => k _ l r1 (R1.mono (same_upd (Same.refl H1) hl)) upd_same⟩
  · refine ifF (decide_eq_false c5) ?_
    rw [if_neg c5] at k
    exact ⟨_, rfl, _, rfl, (by show 2 ≤ sizeLine; decide), fun l hl => k _ l (same_upd R1.same (R1.same.free hl)) upd_same⟩
end
end Hw

set_option maxHeartbeats 4000000
namespace Hw
open PySem L2
open Pm (PM R Op Ex)
open Pw (ascii)
theorem skipB_ge (bs : List UInt8) (p : Nat) : p ≤ Pm.skipB bs p := Nat.le_add_right _ _
theorem skipB_le {bs : List UInt8} {p : Nat} (h : p ≤ bs.length) : Pm.skipB bs p ≤ bs.length := by
  unfold Pm.skipB
  have := Pm.tw_le (q := Pm.isBlank) (bs.drop p)
  rw [List.length_drop] at this
  omega
theorem faultT_ok {bs : List UInt8} {s s' : R} {p e : Nat} (h : Pm.faultT bs s p e = .ok s') : e ≠ p ∧ s' = (s.take ((bs.drop p).take (e - p))).2 := by
  unfold Pm.faultT at h
  split at h
  · cases h
  split at h
  · cases h
  split at h
  · cases h
  split at h
  · cases h
  split at h
  · rename_i c _ _ _ _
    cases h
    exact ⟨c, rfl⟩
  · cases h
def spFirstFault (K : PySem.W.Frag) (CR CP : Addr) : Sp := fun vs H Q _ => ∃ (H0 : Hp) (x : Addr) (bs : List UInt8) (r : RA), vs = [.ref x, .str (spl bs)] ∧
  RdAt K CR CP H0 H x R.new [] r ∧ bs.length ≤ 4096 ∧ Out K CR CP H0 x Q (Pm.loopM bs (bs.length + 1) (Pm.skipB bs 0) R.new)
section
variable {P : Program} {w : World} {K : PySem.W.Frag} {mg : Str → Option Value} {base : Heap} {CR CP aO aJ aE aM aS : Addr}
theorem sc_ff : FnScope ["reader", "text", "start", "end", "fault"] ["reader", "text"] (defScope s_first_fault) := ⟨rfl, rfl, rfl, by decide +kernel, rfl, by decide +kernel, by decide +kernel⟩
theorem ok_first_fault {f f1 f2 f3 f4 f5 : Addr} {fd fd1 fd2 fd3 fd4 fd5 : FuncData} (F : Fun K "first_fault" "first_fault" s_first_fault f fd) (T : RTxt K mg aO aJ aE aM) (TF : FTxt mg) (TR : ClsT K CR rK)
    (C1 : Callee P w K mg base 1 "skip_blanks" f1 fd1 ["text", "start"] spSkip) (C2 : Callee P w K mg base 4 "end_of_token" f2 fd2 ["text", "start"] spEndTok)
    (C3 : Callee P w K mg base 6 "fault_of_token" f3 fd3 ["reader", "text", "start", "end"] (spFaultTok K CR CP))
    (C4 : Method P w K mg base 1 CR "is_whole" f4 fd4 ["self"] (spIsWhole K CR CP)) (C5 : Method P w K mg base 1 CR "is_too_large" f5 fd5 ["self"] (spTooLarge K CR CP)) :
    FnOk P w K mg base CX0 7 f fd ["reader", "text"] (spFirstFault K CR CP) := by
  refine F.ok sc_ff (fun vs H Q E h => ?_) (fun cdv A outer s H vs Q E hr h => ?_)
  · obtain ⟨_, _, _, _, rfl, _⟩ := h
    rfl
  obtain ⟨H0, x, bs, r, rfl, R0, hl, k⟩ := h
  have hr1 : Room 1 _ := hr.mono (by decide)
  have hr4 : Room 4 _ := hr.mono (by decide)
  refine ⟨_, pss_cons (ps_set (i := 2) sc_ff.nd rfl (.inl rfl) (pe_call C1.G hr1 rfl C1.at_ C1.kp C1.b .nil pass0 (pa_cons (pv 1) (pa_cons pe_int pa_nil))))
    (pss_cons (ps_while PassesOwn.never (pt_cmpR op_lt (pv 2) (pe_callB call_len_str (by rfl) T.len PySem.boot_len (pa_cons (pv 1) pa_nil)) (nomark _))
      (pss_cons (ps_set (i := 3) sc_ff.nd rfl (.inl rfl) (pe_call C2.G hr4 rfl C2.at_ C2.kp C2.b .nil pass0 (pa_cons (pv 1) (pa_cons (pv 2) pa_nil))))
      (pss_cons (ps_set (i := 4) sc_ff.nd rfl (.inl rfl) (pe_call C3.G hr rfl C3.at_ C3.kp C3.b .nil pass0 (pa_cons (pv 0) (pa_cons (pv 1) (pa_cons (pv 2) (pa_cons (pv 3) pa_nil))))))
      (pss_cons (ps_if (pt_cmpR op_gt (pe_callB call_len_seq (by rfl) T.len PySem.boot_len (pa_cons (pv 4) pa_nil)) pe_int (nomark _)) (pss_one (ps_ret (pv 4))) pss_nil)
      (pss_one (ps_set (i := 2) sc_ff.nd rfl (.inl rfl) (pe_call C1.G hr1 rfl C1.at_ C1.kp C1.b .nil pass0 (pa_cons (pv 1) (pa_cons (pv 3) pa_nil)))))))))
    (pss_cons (ps_if (pt_not (pt_val (pe_meth0 (pv 0) TR.cl C4.M C4.G hr1 C4.b .nil pass0))) (pss_one (ps_ret (pe_lst (pa_cons (pe_ci rfl TF.ended) (pa_cons (pe_callB call_len_str (by rfl) T.len PySem.boot_len (pa_cons (pv 1) pa_nil)) pa_nil))))) pss_nil)
    (pss_cons (ps_if (pt_val (pe_meth0 (pv 0) TR.cl C5.M C5.G hr1 C5.b .nil pass0)) (pss_one (ps_ret (pe_lst (pa_cons (pe_ci rfl TF.large) (pa_cons pe_int pa_nil))))) pss_nil)
    (pss_one (ps_ret (pe_lst pa_nil)))))), ?_⟩
  have hlz : (spl bs).length ≤ sizeLine := by rw [spl_len]; exact Nat.le_trans hl (by decide)
  refine ⟨_, rfl, bs, 0, rfl, Nat.zero_le _, hl, ?_⟩
  refine ⟨fun c σ H' => ∃ (s' : R) (r' : RA) (n p j : Nat) (v3 v4 : Option V), σ = [some (.ref x), some (.str (spl bs)), some (.int p), v3, v4] ∧ RdAt K CR CP H0 H' x s' [] r' ∧ Pm.Bd s' n ∧ n ≤ p ∧ p ≤ bs.length ∧ bs.length - p < j ∧
    Out K CR CP H0 x Q (Pm.loopM bs j p s') ∧ c = bs.length - p, ⟨_, R.new, r, 0, Pm.skipB bs 0, bs.length + 1, none, none, rfl, R0, Pm.Bd.new, Nat.zero_le _, skipB_le (Nat.zero_le _), by omega, k, rfl⟩, ?_⟩
  rintro c σ H' ⟨s', r', n, p, j, v3, v4, rfl, R1, bd, hnp, hpl, hj, k, rfl⟩
  obtain ⟨j, rfl⟩ : ∃ i, j = i + 1 := ⟨j - 1, by omega⟩
  rw [Pm.loopM] at k
  refine ⟨_, rfl, _, rfl, spl bs, rfl, hlz, _, _, rfl, rfl, _, rfl, ?_⟩
  rw [spl_len]
  by_cases c1 : p < bs.length
  · refine ifT (decide_eq_true (by omega)) ?_
    rw [if_pos c1] at k
    refine ⟨fun σ' H'' => ∃ (s'' : R) (r'' : RA) (n' p' : Nat) (v3 v4 : Option V), σ' = [some (.ref x), some (.str (spl bs)), some (.int p'), v3, v4] ∧ RdAt K CR CP H0 H'' x s'' [] r'' ∧ Pm.Bd s'' n' ∧ n' ≤ p' ∧ p' ≤ bs.length ∧ p < p' ∧
      Out K CR CP H0 x Q (Pm.loopM bs j p' s''), fun σ' H'' ⟨s'', r'', n', p', v3, v4, e1, e2, e3, e4, e5, e6, e7⟩ => ⟨bs.length - p', by omega, s'', r'', n', p', j, v3, v4, e1, e2, e3, e4, e5, by omega, e7, rfl⟩, ?_⟩
    obtain ⟨hpe, hel, _, _⟩ := endT_facts c1
    refine ⟨_, rfl, _, rfl, bs, p, rfl, c1, hl, ?_⟩
    refine ⟨_, rfl, _, rfl, _, rfl, _, rfl, H0, x, s', n, p, bs, r', rfl, R1, bd, by omega, c1, hl, ?_⟩
    cases hf : Pm.faultT bs s' p (Pm.endT bs p) with
    | error fl =>
      rw [hf] at k
      intro H2 l sm hL
      refine ⟨_, rfl, l, _, rfl, .inl (SqL.of hL), _, _, rfl, rfl, _, rfl, ?_⟩
      refine ifT (by rfl) ?_
      exact ⟨_, rfl, k H2 l sm hL⟩
    | ok s2 =>
      rw [hf] at k
      intro H2 l r2 R2 hL
      refine ⟨_, rfl, l, _, rfl, .inl (SqL.of hL), _, _, rfl, rfl, _, rfl, ?_⟩
      refine ifF (by rfl) ?_
      refine ⟨_, rfl, _, rfl, bs, Pm.endT bs p, rfl, hel, hl, ?_⟩
      obtain ⟨ne, es⟩ := faultT_ok hf
      have hg := skipB_ge bs (Pm.endT bs p)
      refine ⟨s2, r2, n + 1, Pm.skipB bs (Pm.endT bs p), _, _, rfl, R2, by rw [es]; exact bd.take, by omega, skipB_le hel, by omega, k⟩
  · refine ifF (decide_eq_false (by omega)) ?_
    rw [if_neg c1] at k
    unfold R.finish at k
    refine ⟨_, rfl, x, r'.dx, _, rfl, R1.ins, lk_none (by decide +kernel), H0, x, s', r', rfl, R1, _, rfl, ?_⟩
    by_cases c2 : s'.exp = .watch ∧ s'.watches ≠ []
    · refine ifF (by rw [decide_eq_true c2]; rfl) ?_
      rw [if_pos c2] at k
      refine ⟨_, rfl, x, r'.dx, _, rfl, R1.ins, lk_none (by decide +kernel), H0, x, s', r', rfl, R1, _, rfl, ?_⟩
      by_cases c3 : 256 < s'.parts.length ∨ 1024 < s'.total
      · refine ifT (decide_eq_true c3) ?_
        rw [if_pos c3] at k
        exact ⟨(by show 2 ≤ sizeLine; decide), fun l hl => k _ l (same_upd R1.same (R1.same.free hl)) upd_same⟩
      · refine ifF (decide_eq_false c3) ?_
        rw [if_neg c3] at k
        exact ⟨Nat.zero_le _, fun l hl => k _ l r' (R1.mono (same_upd (Same.refl H') hl)) upd_same⟩
    · refine ifT (by rw [decide_eq_false c2]; rfl) ?_
      rw [if_neg c2] at k
      refine ⟨_, rfl, spl bs, rfl, hlz, (by show 2 ≤ sizeLine; decide), fun l hl => ?_⟩
      rw [spl_len]
      exact k _ l (same_upd R1.same (R1.same.free hl)) upd_same
end
end Hw

set_option maxHeartbeats 4000000
namespace Hw
open PySem L2
open Pm (PM R Op Ex)
open Pw (ascii)
def uK : List Str := ["parts", "watches", "kinds"]
theorem uKnd : uK.Nodup := by decide +kernel
def gK : List Str := ["answer", "rules"]
theorem gKnd : gK.Nodup := by decide +kernel
theorem put_new3 (v0 v1 v2 : V) : putF "kinds" v2 (putF "watches" v1 (putF "parts" v0 [])) = uK.zip [v0, v1, v2] := by
  rw [put_first, put_snoc _ _ _ _ (by decide +kernel) rfl, put_snoc _ _ _ _ (by decide +kernel) rfl]
  rfl
theorem put_new2 (v0 v1 : V) : putF "rules" v1 (putF "answer" v0 []) = gK.zip [v0, v1] := by
  rw [put_first, put_snoc _ _ _ _ (by decide +kernel) rfl]
  rfl
/-- behind the making of an object -/
theorem made_obj {H : Hp} {C y dy : Addr} {fs : List (Str × V)} (ny : H y = none) (nd : H dy = none) :
    Same H (upd (upd (upd H dy (.own y)) y (.ins C dy [])) y (.ins C dy fs)) ∧ (upd (upd (upd H dy (.own y)) y (.ins C dy [])) y (.ins C dy fs)) y = some (.ins C dy fs) :=
  ⟨fun b o e => by rw [upd_ne (ne_of_none e ny), upd_ne (ne_of_none e ny), upd_ne (ne_of_none e nd)]; exact e, upd_same⟩
/-! ## Rules in the heap -/
structure UA where
  a : Addr
  dx : Addr
  ps : Addr
  w : Addr
  b : Addr
  qs : List PA
  bv : List V
def UA.foot (u : UA) : List Addr := u.a :: u.ps :: u.w :: u.b :: u.qs.flatMap paA
structure RulesAt (K : PySem.W.Frag) (CU CP : Addr) (H : Hp) (u : UA) (ps : List PM) (wt : List Int) (bg : List Pw.Mem) : Prop where
  ins : H u.a = some (.ins CU u.dx (uK.zip [.ref u.ps, .ref u.w, .ref u.b]))
  parts : H u.ps = some (.lst (u.qs.map fun q => V.ref q.a))
  watches : H u.w = some (.lst (wt.map V.int))
  beg : H u.b = some (.lst u.bv)
  aP : A2 (PartAt CP H) u.qs ps
  aB : A2 (KindV K H) u.bv bg
theorem RulesAt.mono {K : PySem.W.Frag} {CU CP : Addr} {H H' : Hp} {u : UA} {ps : List PM} {wt : List Int} {bg : List Pw.Mem} (h : RulesAt K CU CP H u ps wt bg) (s : Same H H') : RulesAt K CU CP H' u ps wt bg :=
  ⟨s _ _ h.ins, s _ _ h.parts, s _ _ h.watches, s _ _ h.beg, parts_same s h.aP, h.aB.imp fun _ _ _ q => q.same s⟩
def spRules (C : Addr) : Sp := fun vs H Q _ => ∃ (p dx : Addr) (v0 v1 v2 : V), vs = [.ref p, v0, v1, v2] ∧ H p = some (.ins C dx []) ∧ Q .non (upd H p (.ins C dx (uK.zip [v0, v1, v2])))
def spReading (C : Addr) : Sp := fun vs H Q _ => ∃ (p dx : Addr) (v0 v1 : V), vs = [.ref p, v0, v1] ∧ H p = some (.ins C dx []) ∧ Q .non (upd H p (.ins C dx (gK.zip [v0, v1])))
/-- what is read: the answer's numbers, the rules -/
def readOut (bs : List UInt8) : List Int × Option Pw.Watches := if 4096 < bs.length then ([-2], none) else match Pw.read bs with
  | .error e => ([-6, (e.kind : Int), (e.place : Int)], none)
  | .ok ws => ([(ws.length : Int)], some ws)
def RulesV (K : PySem.W.Frag) (CU CP : Addr) (H0 H : Hp) (v : V) : Option Pw.Watches → Prop
  | none => v = .non
  | some ws => ∃ u : UA, v = .ref u.a ∧ RulesAt K CU CP H u (Pm.stateOf ws).parts (Pm.stateOf ws).watches (Pw.freshOf ws) ∧ ∀ a ∈ u.foot, H0 a = none
def spRead (K : PySem.W.Frag) (CG CU CP : Addr) : Sp := fun vs H Q _ => ∃ (a : Addr) (bs : List UInt8), vs = [.ref a] ∧ SqL K H a (bv bs) ∧ bs.length ≤ 16000 ∧
  ∀ (H' : Hp) (y dy l : Addr) (v : V), Same H H' → H' y = some (.ins CG dy (gK.zip [.ref l, v])) → H' l = some (.lst ((readOut bs).1.map V.int)) → H l = none → H y = none → RulesV K CU CP H H' v (readOut bs).2 → Q (.ref y) H'
structure QTxt (mg : Str → Option Value) : Prop where
  tooLong : CI mg "TOO_LONG" (-2)
  faulty : CI mg "FAULTY" (-6)
  mostBytes : CI mg "MOST_BYTES" 4096
section
variable {P : Program} {w : World} {K : PySem.W.Frag} {mg : Str → Option Value} {base : Heap} {CR CP CU CG aO aJ aE aM aS : Addr}
theorem sc_rules : FnScope ["self", "parts", "watches", "kinds"] ["self", "parts", "watches", "kinds"] (defScope s_Rules_init) := ⟨rfl, rfl, rfl, by decide +kernel, rfl, by decide +kernel, by decide +kernel⟩
theorem ok_rules {f : Addr} {fd : FuncData} (F : Fun K "__init__" "Rules.__init__" s_Rules_init f fd) (T : ClsT K CU uK) : FnOk P w K mg base CX0 1 f fd ["self", "parts", "watches", "kinds"] (spRules CU) := by
  refine F.ok sc_rules (fun vs H Q E h => ?_) (fun cdv A outer s H vs Q E hr h => ?_)
  · obtain ⟨p, dx, _, _, _, rfl, _⟩ := h
    rfl
  obtain ⟨p, dx, v0, v1, v2, rfl, hp, k⟩ := h
  refine ⟨_, pss_cons (ps_fld (pv 0) (pv 1) rfl) (pss_cons (ps_fld (pv 0) (pv 2) rfl) (pss_one (ps_fld (pv 0) (pv 3) rfl))), ?_⟩
  refine ⟨_, rfl, _, rfl, p, CU, dx, [], rfl, hp, T.cl, T.no 0 _ rfl, (by show 0 < 1000; decide), ?_⟩
  refine ⟨_, rfl, _, rfl, p, CU, dx, _, rfl, upd_same, T.cl, T.no 1 _ rfl, (by show 1 < 1000; decide), ?_⟩
  refine ⟨_, rfl, _, rfl, p, CU, dx, _, rfl, upd_same, T.cl, T.no 2 _ rfl, (Nat.lt_of_lt_of_le (lt_put (lt_put (n := 1) (by decide))) (by decide)), ?_⟩
  rw [upd_upd, upd_upd, put_new3]
  exact k
theorem sc_reading : FnScope ["self", "answer", "rules"] ["self", "answer", "rules"] (defScope s_Reading_init) := ⟨rfl, rfl, rfl, by decide +kernel, rfl, by decide +kernel, by decide +kernel⟩
theorem ok_reading {f : Addr} {fd : FuncData} (F : Fun K "__init__" "Reading.__init__" s_Reading_init f fd) (T : ClsT K CG gK) : FnOk P w K mg base CX0 1 f fd ["self", "answer", "rules"] (spReading CG) := by
  refine F.ok sc_reading (fun vs H Q E h => ?_) (fun cdv A outer s H vs Q E hr h => ?_)
  · obtain ⟨p, dx, _, _, rfl, _⟩ := h
    rfl
  obtain ⟨p, dx, v0, v1, rfl, hp, k⟩ := h
  refine ⟨_, pss_cons (ps_fld (pv 0) (pv 1) rfl) (pss_one (ps_fld (pv 0) (pv 2) rfl)), ?_⟩
  refine ⟨_, rfl, _, rfl, p, CG, dx, [], rfl, hp, T.cl, T.no 0 _ rfl, (by show 0 < 1000; decide), ?_⟩
  refine ⟨_, rfl, _, rfl, p, CG, dx, _, rfl, upd_same, T.cl, T.no 1 _ rfl, (by show 1 < 1000; decide), ?_⟩
  rw [upd_upd, put_new2]
  exact k
theorem sc_read : FnScope ["row", "reader", "fault"] ["row"] (defScope s_read) := ⟨rfl, rfl, rfl, by decide +kernel, rfl, by decide +kernel, by decide +kernel⟩
theorem ok_read {f f1 f2 f3 f4 f5 : Addr} {fd fd1 fd2 fd3 fd4 fd5 : FuncData} (F : Fun K "read" "read" s_read f fd) (T : RTxt K mg aO aJ aE aM) (TQ : QTxt mg) (TR : ClsT K CR rK)
    (C1 : Maker P w K mg base 1 "Reading" CG f1 fd1 ["self", "answer", "rules"] (spReading CG)) (C2 : Maker P w K mg base 1 "Reader" CR f2 fd2 ["self"] (spRInit K CR CP))
    (C3 : Callee P w K mg base 2 "spell" f3 fd3 ["row"] (spSpell K)) (C4 : Callee P w K mg base 7 "first_fault" f4 fd4 ["reader", "text"] (spFirstFault K CR CP))
    (C5 : Maker P w K mg base 1 "Rules" CU f5 fd5 ["self", "parts", "watches", "kinds"] (spRules CU)) :
    FnOk P w K mg base CX0 8 f fd ["row"] (spRead K CG CU CP) := by
  refine F.ok sc_read (fun vs H Q E h => ?_) (fun cdv A outer s H vs Q E hr h => ?_)
  · obtain ⟨_, _, rfl, _⟩ := h
    rfl
  obtain ⟨a, bs, rfl, hS, hl, k⟩ := h
  have hr2 : Room 2 _ := hr.mono (by decide)
  refine ⟨_, pss_cons (ps_if (pt_cmpR op_gt (pe_callB call_len_seq (by rfl) T.len PySem.boot_len (pa_cons (pv 0) pa_nil)) (pe_ci rfl TQ.mostBytes) (nomark _))
      (pss_one (ps_ret (pe_make C1.M C1.G hr2 rfl C1.at_ C1.b .nil pass0 (pa_cons (pe_lst (pa_cons (pe_ci rfl TQ.tooLong) pa_nil)) (pa_cons pe_non pa_nil))))) pss_nil)
    (pss_cons (ps_set (i := 1) sc_read.nd rfl (.inl rfl) (pe_make0 C2.M C2.G hr2 rfl C2.at_ C2.b .nil pass0))
    (pss_cons (ps_set (i := 2) sc_read.nd rfl (.inl rfl) (pe_call C4.G hr rfl C4.at_ C4.kp C4.b .nil pass0 (pa_cons (pv 1) (pa_cons (pe_call C3.G hr2 rfl C3.at_ C3.kp C3.b .nil pass0 (pa_cons (pv 0) pa_nil)) pa_nil))))
    (pss_cons (ps_if (pt_cmpR op_gt (pe_callB call_len_seq (by rfl) T.len PySem.boot_len (pa_cons (pv 2) pa_nil)) pe_int (nomark _))
      (pss_one (ps_ret (pe_make C1.M C1.G hr2 rfl C1.at_ C1.b .nil pass0 (pa_cons (pe_op op_cat (pe_lst (pa_cons (pe_ci rfl TQ.faulty) pa_nil)) (pv 2)) (pa_cons pe_non pa_nil))))) pss_nil)
    (pss_one (ps_ret (pe_make C1.M C1.G hr2 rfl C1.at_ C1.b .nil pass0 (pa_cons (pe_lst (pa_cons (pe_callB call_len_seq (by rfl) T.len PySem.boot_len (pa_cons (pe_fld (pv 1) rfl) pa_nil)) pa_nil))
      (pa_cons (pe_make C5.M C5.G hr2 rfl C5.at_ C5.b .nil pass0 (pa_cons (pe_fld (pv 1) rfl) (pa_cons (pe_fld (pv 1) rfl) (pa_cons (pe_fld (pv 1) rfl) pa_nil)))) pa_nil)))))))), ?_⟩
  refine ⟨_, rfl, a, _, rfl, .inl hS, _, _, rfl, rfl, _, rfl, ?_⟩
  rw [List.length_map]
  by_cases c1 : 4096 < bs.length
  · refine ifT (decide_eq_true (by omega)) ?_
    have er : readOut bs = ([-2], none) := by unfold readOut; rw [if_pos c1]
    rw [er] at k
    refine ⟨(by show 1 ≤ sizeLine; decide), fun l hl => ?_⟩
    intro y dy ny ndy ney
    refine ⟨y, dy, _, _, rfl, upd_same, rfl, ?_⟩
    obtain ⟨sm, hy⟩ := made_obj (C := CG) (fs := gK.zip [.ref l, .non]) ny ndy
    exact k _ y dy l .non ((same_upd (Same.refl H) hl).trans sm) hy (sm _ _ upd_same) hl ((same_upd (Same.refl H) hl).free ny) rfl
  refine ifF (decide_eq_false (by omega)) ?_
  intro x dx nx ndx nex
  have s0 : Same H (upd (upd H dx (.own x)) x (.ins CR dx [])) := same_upd (same_upd (Same.refl H) ndx) nx
  refine ⟨H, x, dx, rfl, s0, nx, upd_same, fun H1 r1 R1 => ⟨rfl, ?_⟩⟩
  refine ⟨_, rfl, _, rfl, a, bs, rfl, R1.same.seq hS, hl, fun H2 sm2 => ?_⟩
  have R2 := R1.mono sm2
  refine ⟨H, x, bs, r1, rfl, R2, by omega, ?_⟩
  rw [Pm.read_loop]
  cases hr : Pw.read bs with
  | error e =>
    have er : readOut bs = ([-6, (e.kind : Int), (e.place : Int)], none) := by unfold readOut; rw [if_neg c1, hr]
    rw [er] at k
    intro H3 l sm3 hL
    refine ⟨_, rfl, l, _, rfl, .inl (SqL.of hL), _, _, rfl, rfl, _, rfl, ?_⟩
    refine ifT (by rfl) ?_
    refine ⟨(by show 1 ≤ sizeLine; decide), fun l1 hl1 => ?_⟩
    have sm4 : Same H3 (upd H3 l1 (.lst [.int (-6)])) := same_upd (Same.refl H3) hl1
    refine ⟨_, rfl, l1, l, _, _, rfl, rfl, upd_same, sm4 _ _ hL, (by show 3 ≤ sizeLine; decide), fun l2 hl2 => ?_⟩
    have sm5 : Same H3 (upd (upd H3 l1 (.lst [.int (-6)])) l2 (.lst ([.int (-6)] ++ [.int e.kind, .int e.place]))) := sm4.trans (same_upd (Same.refl _) hl2)
    intro y dy ny ndy ney
    refine ⟨y, dy, _, _, rfl, upd_same, rfl, ?_⟩
    obtain ⟨sm, hy⟩ := made_obj (C := CG) (fs := gK.zip [.ref l2, .non]) ny ndy
    exact k _ y dy l2 .non ((sm3.trans sm5).trans sm) hy (sm _ _ upd_same) ((sm3.trans sm4).free hl2) ((sm3.trans sm5).free ny) rfl
  | ok ws =>
    have er : readOut bs = ([(ws.length : Int)], some ws) := by unfold readOut; rw [if_neg c1, hr]
    rw [er] at k
    intro H3 l r3 R3 hL
    have S := Pm.sOf ws
    refine ⟨_, rfl, l, _, rfl, .inl (SqL.of hL), _, _, rfl, rfl, _, rfl, ?_⟩
    refine ifF (by rfl) ?_
    refine ⟨_, rfl, x, CR, r3.dx, _, _, rfl, R3.ins, TR.cl, TR.no 2 _ rfl, lk_zip rKnd (i := 2) rfl, r3.w, _, rfl, .inl (SqL.of R3.watches), (by show 1 ≤ sizeLine; decide), fun l1 hl1 => ?_⟩
    rw [List.length_map, S.wlen]
    have sm4 : Same H3 (upd H3 l1 (.lst [.int ws.length])) := same_upd (Same.refl H3) hl1
    have R4 := R3.mono sm4
    refine ⟨_, rfl, x, CR, r3.dx, _, _, rfl, R4.ins, TR.cl, TR.no 3 _ rfl, lk_zip rKnd (i := 3) rfl, _, rfl, x, CR, r3.dx, _, _, rfl, R4.ins, TR.cl, TR.no 2 _ rfl, lk_zip rKnd (i := 2) rfl, _, rfl, x, CR, r3.dx, _, _, rfl, R4.ins, TR.cl, TR.no 7 _ rfl, lk_zip rKnd (i := 7) rfl, ?_⟩
    intro u du nu ndu neu
    refine ⟨u, du, _, _, _, rfl, upd_same, rfl, ?_⟩
    obtain ⟨sm5, hu⟩ := made_obj (C := CU) (fs := uK.zip [.ref r3.ps, .ref r3.w, .ref r3.b]) nu ndu
    intro y dy ny ndy ney
    refine ⟨y, dy, _, _, rfl, upd_same, rfl, ?_⟩
    obtain ⟨sm6, hy⟩ := made_obj (C := CG) (fs := gK.zip [.ref l1, .ref u]) ny ndy
    have R6 := (R4.mono sm5).mono sm6
    refine k _ y dy l1 (.ref u) R6.same hy (sm6 _ _ (sm5 _ _ upd_same)) (R3.same.free hl1) ((R4.mono sm5).same.free ny) ⟨⟨u, du, r3.ps, r3.w, r3.b, r3.qs, r3.bv⟩, rfl, ⟨sm6 _ _ hu, R6.parts, R6.watches, R6.beg, R6.aP, by have := R6.aB; rw [S.beg] at this; exact this⟩, ?_⟩
    intro b hb
    simp only [UA.foot, List.mem_cons] at hb
    rcases hb with rfl | rfl | rfl | rfl | z
    · exact R4.same.free nu
    · exact R3.new _ (by simp [RA.foot])
    · exact R3.new _ (by simp [RA.foot])
    · exact R3.new _ (by simp [RA.foot])
    · exact R3.new _ (by simp only [RA.foot, List.mem_cons, List.mem_append, z, true_or, or_true])
end
end Hw

set_option maxHeartbeats 4000000
namespace Hw
open PySem L2
open Pm (PM R Op Ex)
open Pw (Mem)
/-- the names that hold, as a dict of their spelled texts -/
def NamesAt (H : Hp) (d : Addr) (here : List (List UInt8)) : Prop := ∃ kvs : List (Key × V), H d = some (.dK kvs) ∧ ∀ z : Str, (valV kvs (Sum.inr z)).isSome = here.any (fun n => decide (spl n = z))
theorem spl_name {x n : List UInt8} (h : ∀ c ∈ x, Pw.inName c = true) : spl n = sb x ↔ n = x := by
  constructor
  · intro e
    have e1 : n.map (fun b => gl b.toNat) = x.map UInt8.toNat := congrArg Array.toList (congrArg Str.cps e)
    clear e
    induction n generalizing x with
    | nil => cases x with
      | nil => rfl
      | cons a b => simp at e1
    | cons a n ih =>
      cases x with
      | nil => simp at e1
      | cons b x =>
        simp only [List.map_cons, List.cons.injEq] at e1
        have hb := h b (List.mem_cons_self ..)
        have : a = b := by
          have h1 : gl a.toNat = b.toNat := e1.1
          have h2 : gl b.toNat = b.toNat := gl_name hb
          have key : ∀ m, m < 256 → inWord (gl m) = true → gl m = m := by decide +kernel
          have h3 : gl a.toNat = a.toNat := key _ (UInt8.toNat_lt a) (by rw [h1, ← h2, inWord_is]; exact hb)
          exact UInt8.toNat_inj.mp (h3.symm.trans h1)
        rw [this, ih (fun c hc => h c (List.mem_cons_of_mem _ hc)) e1.2]
  · intro e
    subst e
    unfold spl sb
    congr 2
    exact List.map_congr_left fun c hc => gl_name (h c hc)
theorem names_has {here : List (List UInt8)} {x : List UInt8} (h : ∀ c ∈ x, Pw.inName c = true) : here.any (fun n => decide (spl n = sb x)) = here.contains x := by
  induction here with
  | nil => rfl
  | cons a r ih =>
    rw [List.any_cons, List.contains_cons, ih]
    congr 1
    rw [Bool.eq_iff_iff]
    simp only [decide_eq_true_eq, beq_iff_eq]
    rw [spl_name h]
    exact ⟨Eq.symm, Eq.symm⟩
def spNear (CP : Addr) : Sp := fun vs H Q _ => ∃ (q : PA) (p : PM) (now past : Int), vs = [.ref q.a, .int now, .int past] ∧ PartAt CP H q p ∧ Q (.bl (Pw.within p.span now past)) H
def spItself (CP : Addr) : Sp := fun vs H Q _ => ∃ (q : PA) (p : PM) (vl d : Addr) (vals : List Bool) (here : List (List UInt8)), vs = [.ref q.a, .ref vl, .ref d] ∧ PartAt CP H q p ∧ H vl = some (.lst (vals.map V.bl)) ∧ NamesAt H d here ∧
  (p.op = .name → ∀ c ∈ p.name, Pw.inName c = true) ∧ (p.op = .not_ → vals.length = 1) ∧ (p.op = .yes ∨ p.op = .no ∨ p.op = .name ∨ p.op = .not_ ∨ p.op = .and_ ∨ p.op = .or_ ∨ vals.length = 2) ∧
  Q (.bl (Pm.byItself here p vals)) H
structure HTxt (mg : Str → Option Value) : Prop where
  all : mg "all" = none
  any : mg "any" = none
theorem atI0 {α : Type} {a : α} {l : List α} : atI (a :: l) 0 = some a := by
  unfold atI ixN
  rw [if_pos (by decide), if_pos (by simp)]
  rfl
theorem atI1 {α : Type} {a b : α} {l : List α} : atI (a :: b :: l) 1 = some b := by
  unfold atI ixN
  rw [if_pos (by decide), if_pos (by simp; omega)]
  rfl
section
variable {P : Program} {w : World} {K : PySem.W.Frag} {mg : Str → Option Value} {base : Heap} {CP : Addr}
theorem sc_near : FnScope ["part", "moment", "past"] ["part", "moment", "past"] (defScope s_is_near) := ⟨rfl, rfl, rfl, by decide +kernel, rfl, by decide +kernel, by decide +kernel⟩
theorem ok_near {f : Addr} {fd : FuncData} (F : Fun K "is_near" "is_near" s_is_near f fd) (TP : ClsT K CP pK) : FnOk P w K mg base CX0 1 f fd ["part", "moment", "past"] (spNear CP) := by
  refine F.ok sc_near (fun vs H Q E h => ?_) (fun cdv A outer s H vs Q E hr h => ?_)
  · obtain ⟨_, _, _, _, rfl, _⟩ := h
    rfl
  obtain ⟨q, p, now, past, rfl, hP, k⟩ := h
  refine ⟨_, pss_one (ps_ret (pe_or (pe_cmpR op_isN (pe_fld (pv 0) rfl) pe_non (nomark _)) (pe_one (pe_cmpR op_le (pe_op op_sub (pv 1) (pv 2)) (pe_fld (pv 0) rfl) (nomark _))))), ?_⟩
  refine ⟨_, rfl, q.a, CP, q.dx, _, _, rfl, hP.ins, TP.cl, TP.no 4 _ rfl, lk_zip pKnd (i := 4) rfl, rfl, _, rfl, ?_⟩
  cases hs : p.span with
  | none =>
    rw [hs] at k
    refine ifT (by rfl) ?_
    exact k
  | some n =>
    rw [hs] at k
    refine ifF (by rfl) ?_
    have hP' := hP.ins
    refine ⟨_, rfl, _, rfl, _, _, rfl, rfl, _, rfl, q.a, CP, q.dx, _, _, rfl, hP.ins, TP.cl, TP.no 4 _ rfl, lk_zip pKnd (i := 4) rfl, _, (n : Int), rfl, by rw [hs]; rfl, k⟩
theorem sc_its : FnScope ["part", "values", "names"] ["part", "values", "names"] (defScope s_holds_by_itself) := ⟨rfl, rfl, rfl, by decide +kernel, rfl, by decide +kernel, by decide +kernel⟩
theorem ok_itself {f : Addr} {fd : FuncData} (F : Fun K "holds_by_itself" "holds_by_itself" s_holds_by_itself f fd) (TP : ClsT K CP pK) (TH : HTxt mg) : FnOk P w K mg base CX0 1 f fd ["part", "values", "names"] (spItself CP) := by
  refine F.ok sc_its (fun vs H Q E h => ?_) (fun cdv A outer s H vs Q E hr h => ?_)
  · obtain ⟨_, _, _, _, _, _, rfl, _⟩ := h
    rfl
  obtain ⟨q, p, vl, d, vals, here, rfl, hP, hv, ⟨kvs, hd, hk⟩, hnm, hnot, hops, k⟩ := h
  have hu := hu_of hr
  refine ⟨_, pss_cons (ps_if (pt_cmpR op_eq (pe_fld (pv 0) rfl) pe_str (nomark _)) (pss_one (ps_ret pe_bl)) pss_nil)
    (pss_cons (ps_if (pt_cmpR op_eq (pe_fld (pv 0) rfl) pe_str (nomark _)) (pss_one (ps_ret pe_bl)) pss_nil)
    (pss_cons (ps_if (pt_cmpR op_eq (pe_fld (pv 0) rfl) pe_str (nomark _)) (pss_one (ps_ret (pe_cmp (pc_din hu (pe_fld (pv 0) rfl) (pv 2)) rfl))) pss_nil)
    (pss_cons (ps_if (pt_cmpR op_eq (pe_fld (pv 0) rfl) pe_str (nomark _)) (pss_one (ps_ret (pe_not (pe_ix ix_list (pv 1) pe_int (fun _ _ => rfl))))) pss_nil)
    (pss_cons (ps_if (pt_cmpR op_eq (pe_fld (pv 0) rfl) pe_str (nomark _)) (pss_one (ps_ret (pe_callB (cr_all rfl) (by rfl) TH.all (by decide +kernel) (pa_cons (pv 1) pa_nil)))) pss_nil)
    (pss_cons (ps_if (pt_cmpR op_eq (pe_fld (pv 0) rfl) pe_str (nomark _)) (pss_one (ps_ret (pe_callB (cr_any rfl) (by rfl) TH.any (by decide +kernel) (pa_cons (pv 1) pa_nil)))) pss_nil)
    (pss_one (ps_ret (pe_or (pe_not (pe_ix ix_list (pv 1) pe_int (fun _ _ => rfl))) (pe_one (pe_ix ix_list (pv 1) pe_int (fun _ _ => rfl))))))))))), ?_⟩
  refine ⟨_, rfl, q.a, CP, q.dx, _, _, rfl, hP.ins, TP.cl, TP.no 0 _ rfl, lk_zip pKnd (i := 0) rfl, rfl, _, rfl, ?_⟩
  rw [show decide (V.str (opStr p.op) = V.str "yes") = decide (p.op = .yes) from opStr_eq p.op .yes]
  by_cases c : p.op = .yes
  · refine ifT (decide_eq_true c) ?_
    unfold Pm.byItself at k
    rw [c] at k
    exact k
  refine ifF (decide_eq_false c) ?_
  have n_yes := c
  clear c
  refine ⟨_, rfl, q.a, CP, q.dx, _, _, rfl, hP.ins, TP.cl, TP.no 0 _ rfl, lk_zip pKnd (i := 0) rfl, rfl, _, rfl, ?_⟩
  rw [show decide (V.str (opStr p.op) = V.str "no") = decide (p.op = .no) from opStr_eq p.op .no]
  by_cases c : p.op = .no
  · refine ifT (decide_eq_true c) ?_
    unfold Pm.byItself at k
    rw [c] at k
    exact k
  refine ifF (decide_eq_false c) ?_
  have n_no := c
  clear c
  refine ⟨_, rfl, q.a, CP, q.dx, _, _, rfl, hP.ins, TP.cl, TP.no 0 _ rfl, lk_zip pKnd (i := 0) rfl, rfl, _, rfl, ?_⟩
  rw [show decide (V.str (opStr p.op) = V.str "name") = decide (p.op = .name) from opStr_eq p.op .name]
  by_cases c : p.op = .name
  · refine ifT (decide_eq_true c) ?_
    unfold Pm.byItself at k
    rw [c] at k
    refine ⟨_, rfl, q.a, CP, q.dx, _, _, rfl, hP.ins, TP.cl, TP.no 2 _ rfl, lk_zip pKnd (i := 2) rfl, _, rfl, d, _, rfl, DGet.k (k := Sum.inr (sb p.name)) hd, ?_⟩
    rw [hk, names_has (hnm c)]
    exact k
  refine ifF (decide_eq_false c) ?_
  have n_name := c
  clear c
  refine ⟨_, rfl, q.a, CP, q.dx, _, _, rfl, hP.ins, TP.cl, TP.no 0 _ rfl, lk_zip pKnd (i := 0) rfl, rfl, _, rfl, ?_⟩
  rw [show decide (V.str (opStr p.op) = V.str "not") = decide (p.op = .not_) from opStr_eq p.op .not_]
  by_cases c : p.op = .not_
  · refine ifT (decide_eq_true c) ?_
    unfold Pm.byItself at k
    rw [c] at k
    have h1 := hnot c
    cases vals with
    | nil => simp at h1
    | cons b r =>
      refine ⟨_, rfl, vl, _, _, .bl b, rfl, rfl, SqL.of hv, atI0, _, rfl, ?_⟩
      exact k
  refine ifF (decide_eq_false c) ?_
  have n_not_ := c
  clear c
  refine ⟨_, rfl, q.a, CP, q.dx, _, _, rfl, hP.ins, TP.cl, TP.no 0 _ rfl, lk_zip pKnd (i := 0) rfl, rfl, _, rfl, ?_⟩
  rw [show decide (V.str (opStr p.op) = V.str "and") = decide (p.op = .and_) from opStr_eq p.op .and_]
  by_cases c : p.op = .and_
  · refine ifT (decide_eq_true c) ?_
    unfold Pm.byItself at k
    rw [c] at k
    exact ⟨_, rfl, vl, vals, rfl, SqL.of hv, k⟩
  refine ifF (decide_eq_false c) ?_
  have n_and_ := c
  clear c
  refine ⟨_, rfl, q.a, CP, q.dx, _, _, rfl, hP.ins, TP.cl, TP.no 0 _ rfl, lk_zip pKnd (i := 0) rfl, rfl, _, rfl, ?_⟩
  rw [show decide (V.str (opStr p.op) = V.str "or") = decide (p.op = .or_) from opStr_eq p.op .or_]
  by_cases c : p.op = .or_
  · refine ifT (decide_eq_true c) ?_
    unfold Pm.byItself at k
    rw [c] at k
    exact ⟨_, rfl, vl, vals, rfl, SqL.of hv, k⟩
  refine ifF (decide_eq_false c) ?_
  have n_or_ := c
  clear c
  have hlen : vals.length = 2 := by
    rcases hops with h | h | h | h | h | h | h
    · exact absurd h n_yes
    · exact absurd h n_no
    · exact absurd h n_name
    · exact absurd h n_not_
    · exact absurd h n_and_
    · exact absurd h n_or_
    · exact h
  have hk2 : Pm.byItself here p vals = (!vals.getD 0 false || vals.getD 1 false) := by
    unfold Pm.byItself
    cases e : p.op <;> first | rfl | exact absurd e n_yes | exact absurd e n_no | exact absurd e n_name | exact absurd e n_not_ | exact absurd e n_and_ | exact absurd e n_or_
  rw [hk2] at k
  match vals, hlen with
  | [a, b], _ =>
    refine ⟨_, rfl, vl, _, _, .bl a, rfl, rfl, SqL.of hv, atI0, _, rfl, _, rfl, ?_⟩
    have k : Q (.bl (!a || b)) H := k
    cases a with
    | true =>
      refine ifF (by rfl) ?_
      exact ⟨_, rfl, vl, _, _, .bl b, rfl, rfl, SqL.of hv, atI1, k⟩
    | false =>
      refine ifT (by rfl) ?_
      exact k
end
end Hw

set_option maxHeartbeats 4000000
namespace Hw
open PySem L2
open Pm (PM R Op Ex)
open Pw (Mem)
theorem last_form {vals : List Bool} (h : vals ≠ []) : ∃ (a : List Bool) (b : Bool), vals = a ++ [b] ∧ vals.getLastD false = b := by
  refine ⟨vals.dropLast, vals.getLast h, (List.dropLast_concat_getLast h).symm, ?_⟩
  cases vals with
  | nil => exact absurd rfl h
  | cons a r => simp [List.getLastD]
def spNext (K : PySem.W.Frag) (CP : Addr) : Sp := fun vs H Q _ => ∃ (q : PA) (p : PM) (vl : Addr) (mv : V) (now : Int) (vals : List Bool) (e : Mem), vs = [.ref q.a, .ref vl, mv, .int now] ∧ PartAt CP H q p ∧ H vl = some (.lst (vals.map V.bl)) ∧ vals ≠ [] ∧ MemV K H mv e ∧
  (p.op = .least → (∃ l, e = .times l ∧ l.length ≤ 64) ∧ 1 ≤ p.needed) ∧ ∀ v H', Same H H' → MemV K H' v (Pm.nextMem now p vals e) → Q v H'
theorem cut_last {l : List Int} {k : Nat} (hk : 1 ≤ k) : cutV (l.map V.int) (some (-(k : Int))) none = (Pm.lastK k l).map V.int := by
  unfold cutV Pm.lastK
  have h1 : HT.sIx (l.map V.int).length 0 (some (-(k : Int))) = l.length - k := by
    unfold HT.sIx
    simp only [List.length_map]
    rw [if_pos (by omega)]
    omega
  have h2 : HT.sIx (l.map V.int).length (l.map V.int).length none = l.length := by
    unfold HT.sIx
    simp
  rw [h1, h2, List.map_drop, List.take_of_length_le]
  rw [List.length_drop, List.length_map]
  exact Nat.le_refl _
section
variable {P : Program} {w : World} {K : PySem.W.Frag} {mg : Str → Option Value} {base : Heap} {CP : Addr}
theorem sc_next : FnScope ["part", "values", "member", "moment", "holds"] ["part", "values", "member", "moment"] (defScope s_next_member) := ⟨rfl, rfl, rfl, by decide +kernel, rfl, by decide +kernel, by decide +kernel⟩
theorem ok_next {f : Addr} {fd : FuncData} (F : Fun K "next_member" "next_member" s_next_member f fd) (TP : ClsT K CP pK) : FnOk P w K mg base CX0 1 f fd ["part", "values", "member", "moment"] (spNext K CP) := by
  refine F.ok sc_next (fun vs H Q E h => ?_) (fun cdv A outer s H vs Q E hr h => ?_)
  · obtain ⟨_, _, _, _, _, _, _, rfl, _⟩ := h
    rfl
  obtain ⟨q, p, vl, mv, now, vals, e, rfl, hP, hv, hne, hm, hls, k⟩ := h
  refine ⟨_, pss_cons (ps_set (i := 4) sc_next.nd rfl (.inl rfl) (pe_ix ix_list (pv 1) (pe_un un_neg pe_int) (fun _ _ => rfl)))
    (pss_cons (ps_if (pt_cmpR op_eq (pe_fld (pv 0) rfl) pe_str (nomark _)) (pss_one (ps_ret (pv 4))) pss_nil)
    (pss_cons (ps_if (pt_cmpR op_eq (pe_fld (pv 0) rfl) pe_str (nomark _)) (pss_one (ps_ret (pe_ifExp (pt_val (pv 4)) (pv 2) (pv 3)))) pss_nil)
    (pss_cons (ps_if (pt_cmpR op_eq (pe_fld (pv 0) rfl) pe_str (nomark _)) (pss_one (ps_ret (pe_ifExp (pt_val (pv 4)) (pe_slice sl_tupA (pe_op op_catA (pv 2) (pe_tup (pa_cons (pv 3) pa_nil))) (po_some (pe_un un_neg (pe_fld (pv 0) rfl))) po_none) (pv 2)))) pss_nil)
    (pss_cons (ps_if (PW.pt (pw_and (pt_cmpR op_eq (pe_fld (pv 0) rfl) pe_str (nomark _)) (pw_and (pt_not (pt_val (pv 4))) (pw_and1 (pt_not (pt_val (pe_ix ix_list (pv 1) pe_int (fun _ _ => rfl)))))))) (pss_one (ps_ret pe_non)) pss_nil)
    (pss_one (ps_ret (pe_ifExp (pt_val (pv 4)) (pv 3) (pv 2)))))))), ?_⟩
  obtain ⟨v0, b, ev, el⟩ := last_form hne
  have hv' := hv
  rw [ev, List.map_append] at hv'
  refine ⟨_, rfl, _, rfl, vl, _, _, .bl b, rfl, rfl, SqL.of hv', atI_last _ _, ?_⟩
  unfold Pm.nextMem at k
  rw [el] at k
  refine ⟨_, rfl, q.a, CP, q.dx, _, _, rfl, hP.ins, TP.cl, TP.no 0 _ rfl, lk_zip pKnd (i := 0) rfl, rfl, _, rfl, ?_⟩
  rw [show decide (V.str (opStr p.op) = V.str "before") = decide (p.op = .before) from opStr_eq p.op .before]
  by_cases c1 : p.op = .before
  · refine ifT (decide_eq_true c1) ?_
    rw [c1] at k
    exact ⟨_, rfl, k _ _ (Same.refl H) rfl⟩
  refine ifF (decide_eq_false c1) ?_
  refine ⟨_, rfl, q.a, CP, q.dx, _, _, rfl, hP.ins, TP.cl, TP.no 0 _ rfl, lk_zip pKnd (i := 0) rfl, rfl, _, rfl, ?_⟩
  rw [show decide (V.str (opStr p.op) = V.str "always") = decide (p.op = .always) from opStr_eq p.op .always]
  by_cases c2 : p.op = .always
  · refine ifT (decide_eq_true c2) ?_
    rw [c2] at k
    refine ⟨_, rfl, _, rfl, ?_⟩
    cases b with
    | true =>
      refine ifT (by rfl) ?_
      exact ⟨_, rfl, k _ _ (Same.refl H) hm⟩
    | false =>
      refine ifF (by rfl) ?_
      exact ⟨_, rfl, k _ _ (Same.refl H) rfl⟩
  refine ifF (decide_eq_false c2) ?_
  refine ⟨_, rfl, q.a, CP, q.dx, _, _, rfl, hP.ins, TP.cl, TP.no 0 _ rfl, lk_zip pKnd (i := 0) rfl, rfl, _, rfl, ?_⟩
  rw [show decide (V.str (opStr p.op) = V.str "least") = decide (p.op = .least) from opStr_eq p.op .least]
  by_cases c3 : p.op = .least
  · refine ifT (decide_eq_true c3) ?_
    obtain ⟨⟨l, rfl, hl64⟩, hn1⟩ := hls c3
    rw [c3] at k
    refine ⟨_, rfl, _, rfl, ?_⟩
    cases b with
    | true =>
      refine ifT (by rfl) ?_
      obtain ⟨a, rfl, hT⟩ := hm
      have k : ∀ v H', Same H H' → MemV K H' v (.times (Pm.lastK p.needed (l ++ [now]))) → Q v H' := k
      refine ⟨_, rfl, _, rfl, (by show 1 ≤ sizeLine; decide), fun t1 ht1 => ?_⟩
      have sm1 : Same H (upd H t1 (.tup [.int now])) := same_upd (Same.refl H) ht1
      -- the slice of the whole, whatever object it is
      have cut : ∀ (H2 : Hp) (t2 : Addr), Same H H2 → SqT K H2 t2 ((l ++ [now]).map V.int) →
          (tPart (tUn (fun x H Q => ∃ i, x = .int i ∧ Q (.int (-i)) H) (tFld K (tVar 0) "needed"))) [some (.ref q.a), some (.ref vl), some (.ref a), some (.int now), some (.bl true)] H2 (fun lo H3 => rSlA K (.ref t2) lo none H3 Q) := by
        intro H2 t2 s2 hT2
        refine ⟨_, rfl, q.a, CP, q.dx, _, _, rfl, s2 _ _ hP.ins, TP.cl, TP.no 3 _ rfl, lk_zip pKnd (i := 3) rfl, _, rfl, _, rfl, t2, _, rfl, hT2, fun hw => ?_, fun hw p2 hp2 => ?_⟩
        · refine k _ _ s2 ⟨t2, rfl, ?_⟩
          have : (Pm.lastK p.needed (l ++ [now])).map V.int = (l ++ [now]).map V.int := by
            rw [← cut_last hn1]
            unfold cutV
            rw [hw.1, hw.2, List.drop_zero, Nat.sub_zero, List.take_length]
          rw [this]
          exact hT2
        · rw [cut_last hn1]
          exact k _ _ (s2.trans (same_upd (Same.refl _) hp2)) ⟨p2, rfl, .inl (.inl upd_same)⟩
      refine ⟨a, t1, _, _, rfl, rfl, sqT_same sm1 hT, .inl (.inl upd_same), ?_, fun hnil => ?_, fun _ hnil => ?_, fun hne1 _ p3 hp3 => ?_⟩
      · simp
        exact Nat.le_trans (show l.length + 1 ≤ 100 by omega) (by decide)
      · have : l = [] := by simpa using hnil
        subst this
        exact cut _ t1 sm1 (.inl (.inl upd_same))
      · cases hnil
      · exact cut _ p3 (sm1.trans (same_upd (Same.refl _) hp3)) (.inl (.inl (by rw [upd_same, List.map_append]; rfl)))
    | false =>
      refine ifF (by rfl) ?_
      exact ⟨_, rfl, k _ _ (Same.refl H) hm⟩
  refine ifF (decide_eq_false c3) ?_
  refine ⟨_, rfl, q.a, CP, q.dx, _, _, rfl, hP.ins, TP.cl, TP.no 0 _ rfl, lk_zip pKnd (i := 0) rfl, rfl, _, rfl, ?_⟩
  rw [show decide (V.str (opStr p.op) = V.str "since") = decide (p.op = .since) from opStr_eq p.op .since]
  by_cases c4 : p.op = .since
  · refine ifT (decide_eq_true c4) ?_
    rw [c4] at k
    have k : ∀ v H', Same H H' → MemV K H' v (if b = true then .at_ (some now) else if vals.getD 0 false = true then e else .at_ none) → Q v H' := k
    refine ⟨_, rfl, _, rfl, ?_⟩
    cases b with
    | true =>
      refine ifF (by rfl) ?_
      refine ⟨_, rfl, _, rfl, ?_⟩
      refine ifT (by rfl) ?_
      exact ⟨_, rfl, k _ _ (Same.refl H) rfl⟩
    | false =>
      refine ifT (by rfl) ?_
      have k : ∀ v H', Same H H' → MemV K H' v (if vals.getD 0 false = true then e else .at_ none) → Q v H' := k
      cases hvl : vals with
      | nil => exact absurd hvl hne
      | cons a0 vr =>
        rw [hvl] at k hv
        have k : ∀ v H', Same H H' → MemV K H' v (if a0 = true then e else .at_ none) → Q v H' := k
        refine ⟨_, rfl, vl, _, _, .bl a0, rfl, rfl, SqL.of hv, atI0, _, rfl, ?_⟩
        cases a0 with
        | true =>
          refine ifF (by rfl) ?_
          refine ⟨_, rfl, _, rfl, ?_⟩
          refine ifF (by rfl) ?_
          exact ⟨_, rfl, k _ _ (Same.refl H) hm⟩
        | false =>
          refine ifT (by rfl) ?_
          exact k _ _ (Same.refl H) rfl
  refine ifF (decide_eq_false c4) ?_
  have k : ∀ v H', Same H H' → MemV K H' v (if b = true then .at_ (some now) else e) → Q v H' := by
    cases ho : p.op <;> rw [ho] at k <;> first | exact k | exact absurd ho c1 | exact absurd ho c2 | exact absurd ho c3 | exact absurd ho c4
  refine ⟨_, rfl, _, rfl, ?_⟩
  cases b with
  | true =>
    refine ifT (by rfl) ?_
    exact ⟨_, rfl, k _ _ (Same.refl H) rfl⟩
  | false =>
    refine ifF (by rfl) ?_
    exact ⟨_, rfl, k _ _ (Same.refl H) hm⟩
end
end Hw

set_option maxHeartbeats 4000000
namespace Hw
open PySem L2
open Pm (PM R Op Ex)
open Pw (Mem)
def Shape (p : PM) (e : Mem) : Prop := match p.op with
  | .before => ∃ b, e = .was b
  | .least => (∃ l, e = .times l ∧ l.length ≤ 64) ∧ 1 ≤ p.needed
  | .once => ∃ t, e = .at_ t
  | .always => ∃ t, e = .at_ t
  | .since => ∃ t, e = .at_ t
  | _ => False
def spByMem (K : PySem.W.Frag) (CP : Addr) : Sp := fun vs H Q _ => ∃ (q : PA) (p : PM) (vl m : Addr) (now : Int) (vals : List Bool) (mem : List Mem) (mvs : List V) (j : Nat) (e : Mem), vs = [.ref q.a, .ref vl, .ref m, .int now] ∧ PartAt CP H q p ∧ m ∉ paA q ∧
  H vl = some (.lst (vals.map V.bl)) ∧ vals ≠ [] ∧ H m = some (.lst mvs) ∧ A2 (MemV K H) mvs mem ∧ p.slot = some j ∧ mem[j]? = some e ∧ Shape p e ∧ mem.length ≤ 5000 ∧
  ∀ H' mvs', (∀ b o, H b = some o → b ≠ m → H' b = some o) → H' m = some (.lst mvs') → A2 (MemV K H') mvs' (mem.set j (Pm.nextMem now p vals e)) → Q (.bl (Pm.byMemory now p e (Pm.nextMem now p vals e))) H'
theorem A2.set {α β : Type} {S : α → β → Prop} : ∀ {l : List α} {m : List β} {j : Nat} {a : α} {b : β}, A2 S l m → S a b → A2 S (l.set j a) (m.set j b)
  | [], [], _, _, _, _, _ => trivial
  | _ :: _, _ :: _, 0, _, _, h, s => ⟨s, h.2⟩
  | _ :: _, _ :: _, j + 1, _, _, h, s => ⟨h.1, A2.set (j := j) h.2 s⟩
  | [], _ :: _, _, _, _, h, _ => h.elim
  | _ :: _, [], _, _, _, h, _ => h.elim
def spBits : Sp := fun vs H Q _ => ∃ (a : Addr) (bs : List Bool), vs = [.ref a] ∧ H a = some (.lst (bs.map V.bl)) ∧ Q (.int (Pw.bitsOf bs)) H
section
variable {P : Program} {w : World} {K : PySem.W.Frag} {mg : Str → Option Value} {base : Heap} {CP : Addr}
theorem sc_bits : FnScope ["bits", "number", "worth", "bit"] ["bits"] (defScope s_number_of_bits) := ⟨rfl, rfl, rfl, by decide +kernel, rfl, by decide +kernel, by decide +kernel⟩
theorem ok_bits {f : Addr} {fd : FuncData} (F : Fun K "number_of_bits" "number_of_bits" s_number_of_bits f fd) : FnOk P w K mg base CX0 1 f fd ["bits"] spBits := by
  refine F.ok sc_bits (fun vs H Q E h => ?_) (fun cdv A outer s H vs Q E hr h => ?_)
  · obtain ⟨_, _, rfl, _⟩ := h
    rfl
  obtain ⟨a, bs, rfl, ha, k⟩ := h
  refine ⟨_, pss_cons (ps_set (i := 1) sc_bits.nd rfl (.inl rfl) pe_int) (pss_cons (ps_set (i := 2) sc_bits.nd rfl (.inl rfl) pe_int)
    (pss_cons (ps_for PassesOwn.never rfl (pi_list (pv 0)) (pg_name (i := 3) sc_bits.nd rfl (.inl rfl))
      (pss_cons (ps_if (pt_val (pv 3)) (pss_one (ps_aug (i := 1) sc_bits.nd rfl (.inl rfl) (pv 2) ip_add)) pss_nil) (pss_one (ps_aug (i := 2) sc_bits.nd rfl (.inl rfl) (pv 2) ip_add))))
    (pss_one (ps_ret (pv 1))))), ?_⟩
  refine ⟨_, rfl, a, rfl, ⟨_, SqL.of ha⟩, for_list (K := K) (a := a) (xs := bs.map V.bl) (fun i σ H' => ∃ (n v : Nat) (b : Option V), σ = [some (.ref a), some (.int n), some (.int v), b] ∧ H' = H ∧ Pm.bitsM (bs.drop i) n v = Pm.bitsM bs 0 1)
    ⟨0, 1, none, rfl, rfl, rfl⟩ (fun i σ H' _ ⟨_, _, _, _, e, _⟩ => by rw [e]; exact SqL.of ha) ?_ ?_⟩
  · rintro i y σ H' hi ⟨n, v, b, rfl, rfl, hb⟩
    obtain ⟨c, hc, rfl⟩ := map_at hi
    have hd : bs.drop i = c :: bs.drop (i + 1) := by
      have hlt : i < bs.length := (List.getElem?_eq_some_iff.mp hc).1
      rw [List.drop_eq_getElem_cons hlt]
      rw [List.getElem?_eq_getElem hlt] at hc
      rw [Option.some.inj hc]
    rw [hd, Pm.bitsM] at hb
    refine ⟨_, rfl, _, rfl, ?_⟩
    cases c with
    | true =>
      refine ifT (by rfl) ?_
      refine ⟨_, rfl, _, rfl, _, _, rfl, rfl, _, rfl, _, rfl, _, _, rfl, rfl, ?_⟩
      exact ⟨n + v, v + v, some (.bl true), rfl, rfl, hb⟩
    | false =>
      refine ifF (by rfl) ?_
      refine ⟨_, rfl, _, rfl, _, _, rfl, rfl, ?_⟩
      exact ⟨n, v + v, some (.bl false), rfl, rfl, hb⟩
  · rintro σ H' ⟨n, v, b, rfl, rfl, hb⟩
    rw [List.length_map, List.drop_length, Pm.bitsM] at hb
    rw [Pm.bits_is] at hb
    rw [← hb] at k
    exact ⟨_, rfl, k⟩
theorem sc_bm : FnScope ["part", "values", "memory", "moment", "earlier", "member", "found"] ["part", "values", "memory", "moment"] (defScope s_holds_by_memory) := ⟨rfl, rfl, rfl, by decide +kernel, rfl, by decide +kernel, by decide +kernel⟩
theorem ok_by_memory {f f1 f2 : Addr} {fd fd1 fd2 : FuncData} (F : Fun K "holds_by_memory" "holds_by_memory" s_holds_by_memory f fd) (TP : ClsT K CP pK) (hlen : mg "len" = none)
    (C1 : Callee P w K mg base 1 "next_member" f1 fd1 ["part", "values", "member", "moment"] (spNext K CP)) (C2 : Callee P w K mg base 1 "is_near" f2 fd2 ["part", "moment", "past"] (spNear CP)) :
    FnOk P w K mg base CX0 2 f fd ["part", "values", "memory", "moment"] (spByMem K CP) := by
  refine F.ok sc_bm (fun vs H Q E h => ?_) (fun cdv A outer s H vs Q E hr h => ?_)
  · obtain ⟨_, _, _, _, _, _, _, _, _, _, rfl, _⟩ := h
    rfl
  obtain ⟨q, p, vl, m, now, vals, mem, mvs, j, e, rfl, hP, hmq, hv, hne, hm, hA, hsl, hj, hsh, hml, k⟩ := h
  refine ⟨_, pss_cons (ps_set (i := 4) sc_bm.nd rfl (.inl rfl) (pe_ix ix_list (pv 2) (pe_fld (pv 0) rfl) (fun _ _ => rfl)))
    (pss_cons (ps_set (i := 5) sc_bm.nd rfl (.inl rfl) (pe_call C1.G hr rfl C1.at_ C1.kp C1.b .nil pass0 (pa_cons (pv 0) (pa_cons (pv 1) (pa_cons (pv 4) (pa_cons (pv 3) pa_nil))))))
    (pss_cons (ps_asg (pv 5) (pg_sub (pv 2) (pe_fld (pv 0) rfl) set_list))
    (pss_cons (ps_if (pt_cmpR op_eq (pe_fld (pv 0) rfl) pe_str (nomark _)) (pss_one (ps_ret (pv 4))) pss_nil)
    (pss_cons (ps_if (pt_cmpR op_eq (pe_fld (pv 0) rfl) pe_str (nomark _)) (pss_one (ps_ret (pe_and (pe_cmpR op_eq (pe_callB call_len_seq (by rfl) hlen PySem.boot_len (pa_cons (pv 5) pa_nil)) (pe_fld (pv 0) rfl) (nomark _))
        (pe_one (pe_call C2.G hr rfl C2.at_ C2.kp C2.b .nil pass0 (pa_cons (pv 0) (pa_cons (pv 3) (pa_cons (pe_ix ix_tup (pv 5) pe_int (fun _ _ => rfl)) pa_nil)))))))) pss_nil)
    (pss_cons (ps_set (i := 6) sc_bm.nd rfl (.inl rfl) (pe_and (pe_cmpR op_notN (pv 5) pe_non (nomark _)) (pe_one (pe_call C2.G hr rfl C2.at_ C2.kp C2.b .nil pass0 (pa_cons (pv 0) (pa_cons (pv 3) (pa_cons (pv 5) pa_nil)))))))
    (pss_one (ps_ret (pe_ifExp (pt_cmpR op_eq (pe_fld (pv 0) rfl) pe_str (nomark _)) (pe_not (pv 6)) (pv 6))))))))), ?_⟩
  obtain ⟨ev, hev, hmv⟩ := hA.get hj
  have hjl : j < mvs.length := (List.getElem?_eq_some_iff.mp hev).1
  have hins : H q.a = some (.ins CP q.dx (pK.zip (pV q.ops p))) := hP.ins
  have hsv : (pV q.ops p)[5]? = some (.int j) := by
    show some (oi p.slot) = _
    rw [hsl]
    rfl
  refine ⟨_, rfl, _, rfl, q.a, CP, q.dx, _, _, rfl, hP.ins, TP.cl, TP.no 5 _ rfl, (lk_zip pKnd (i := 5) rfl).trans hsv, m, _, _, ev, rfl, rfl, SqL.of hm, atI_nat hev, ?_⟩
  have hl : p.op = .least → (∃ l, e = .times l ∧ l.length ≤ 64) ∧ 1 ≤ p.needed := fun c => by unfold Shape at hsh; rw [c] at hsh; exact hsh
  refine ⟨_, rfl, _, rfl, _, rfl, _, rfl, q, p, vl, ev, now, vals, e, rfl, hP, hv, hne, hmv, hl, fun v H1 sm hv1 => ?_⟩
  have hP1 : PartAt CP H1 q p := ⟨sm _ _ hP.ins, sm _ _ hP.ops⟩
  have hix : ixN mvs.length (j : Int) = some j := by
    unfold ixN
    rw [if_pos (by omega), if_pos (by omega), Int.toNat_natCast]
  refine ⟨_, rfl, _, rfl, _, rfl, q.a, CP, q.dx, _, _, rfl, hP1.ins, TP.cl, TP.no 5 _ rfl, (lk_zip pKnd (i := 5) rfl).trans hsv, m, _, _, j, rfl, rfl, sm _ _ hm, hix, ?_⟩
  have hmu : H1 m = none ∨ Mut (H1 m) := .inr (by rw [sm _ _ hm]; trivial)
  have hP2 : PartAt CP (upd H1 m (.lst (mvs.set j v))) q p := hP1.off hmq
  have hv2 : MemV K (upd H1 m (.lst (mvs.set j v))) v (Pm.nextMem now p vals e) := hv1.off hmu
  have k2 : Q (.bl (Pm.byMemory now p e (Pm.nextMem now p vals e))) (upd H1 m (.lst (mvs.set j v))) :=
    k _ _ (fun b o hb hne => by rw [upd_ne hne]; exact sm _ _ hb) upd_same ((mems_off (hA.imp fun _ _ _ z => z.same sm) hmu).set hv2)
  have hnf : Shape p (Pm.nextMem now p vals e) ∨ p.op = .least := by
    unfold Shape at hsh ⊢
    unfold Pm.nextMem
    cases ho : p.op <;> rw [ho] at hsh <;> simp only at hsh ⊢
    case before => exact .inl ⟨_, rfl⟩
    case least => exact .inr trivial
    case once => obtain ⟨t, rfl⟩ := hsh; refine .inl ?_; split <;> exact ⟨_, rfl⟩
    case always => obtain ⟨t, rfl⟩ := hsh; refine .inl ?_; split <;> exact ⟨_, rfl⟩
    case since => obtain ⟨t, rfl⟩ := hsh; refine .inl ?_; repeat' split
                  all_goals exact ⟨_, rfl⟩
  refine ⟨_, rfl, q.a, CP, q.dx, _, _, rfl, hP2.ins, TP.cl, TP.no 0 _ rfl, lk_zip pKnd (i := 0) rfl, rfl, _, rfl, ?_⟩
  rw [show decide (V.str (opStr p.op) = V.str "before") = decide (p.op = .before) from opStr_eq p.op .before]
  by_cases c1 : p.op = .before
  · refine ifT (decide_eq_true c1) ?_
    unfold Shape at hsh
    rw [c1] at hsh
    obtain ⟨b, rfl⟩ := hsh
    unfold Pm.byMemory at k2
    rw [c1] at k2
    have hev2 : ev = .bl b := hmv
    subst hev2
    exact ⟨_, rfl, k2⟩
  refine ifF (decide_eq_false c1) ?_
  refine ⟨_, rfl, q.a, CP, q.dx, _, _, rfl, hP2.ins, TP.cl, TP.no 0 _ rfl, lk_zip pKnd (i := 0) rfl, rfl, _, rfl, ?_⟩
  rw [show decide (V.str (opStr p.op) = V.str "least") = decide (p.op = .least) from opStr_eq p.op .least]
  by_cases c2 : p.op = .least
  · refine ifT (decide_eq_true c2) ?_
    obtain ⟨⟨l, rfl, hl64⟩, hn1⟩ := hl c2
    obtain ⟨l2, hl2⟩ : ∃ l2, Pm.nextMem now p vals (.times l) = .times l2 := by
      unfold Pm.nextMem
      rw [c2]
      simp only
      split <;> exact ⟨_, rfl⟩
    rw [hl2] at k2 hv2
    unfold Pm.byMemory at k2
    rw [c2] at k2
    have k2 : Q (.bl (decide (l2.length = p.needed) && Pw.within p.span now (l2.headD 0))) _ := k2
    obtain ⟨t, rfl, hT⟩ := hv2
    refine ⟨_, rfl, t, _, rfl, .inr hT, _, rfl, q.a, CP, q.dx, _, _, rfl, hP2.ins, TP.cl, TP.no 3 _ rfl, lk_zip pKnd (i := 3) rfl, rfl, _, rfl, ?_⟩
    rw [List.length_map, dec_int]
    by_cases c3 : l2.length = p.needed
    · refine ifT (decide_eq_true c3) ?_
      rw [decide_eq_true c3, Bool.true_and] at k2
      cases l2 with
      | nil => simp at c3; omega
      | cons y l3 => exact ⟨_, rfl, _, rfl, _, rfl, t, _, _, .int y, rfl, rfl, hT, atI0, q, p, now, y, rfl, hP2, k2⟩
    · refine ifF (decide_eq_false c3) ?_
      rw [decide_eq_false c3, Bool.false_and] at k2
      exact k2
  refine ifF (decide_eq_false c2) ?_
  have hsh2 : ∃ t, Pm.nextMem now p vals e = .at_ t := by
    rcases hnf with z | z
    · unfold Shape at z hsh
      cases ho : p.op <;> rw [ho] at z hsh <;> first | exact z | exact absurd ho c1 | exact absurd ho c2 | exact hsh.elim
    · exact absurd z c2
  obtain ⟨t, ht⟩ := hsh2
  rw [ht] at k2 hv2
  have fin : ∀ fb : Bool, Pw.lately p.span now t = fb → tRet (tIf (tTest (tOp rEq (tFld K (tVar 0) "kind") (tC (.str "always")))) (tNotV (tVar 6)) (tVar 6)) { nx := fun _ H' => Q .non H', rt := Q }
      [some (.ref q.a), some (.ref vl), some (.ref m), some (.int now), some ev, some v, some (.bl fb)] (upd H1 m (.lst (mvs.set j v))) := by
    intro fb hfb
    refine ⟨_, rfl, q.a, CP, q.dx, _, _, rfl, hP2.ins, TP.cl, TP.no 0 _ rfl, lk_zip pKnd (i := 0) rfl, rfl, _, rfl, ?_⟩
    rw [show decide (V.str (opStr p.op) = V.str "always") = decide (p.op = .always) from opStr_eq p.op .always]
    unfold Pm.byMemory at k2
    by_cases c3 : p.op = .always
    · refine ifT (decide_eq_true c3) ?_
      rw [c3] at k2
      have k2 : Q (.bl (!Pw.lately p.span now t)) _ := k2
      rw [hfb] at k2
      exact ⟨_, rfl, _, rfl, k2⟩
    · refine ifF (decide_eq_false c3) ?_
      have k2 : Q (.bl (Pw.lately p.span now t)) (upd H1 m (.lst (mvs.set j v))) := by
        cases ho : p.op <;> rw [ho] at k2 <;> first | exact k2 | exact absurd ho c1 | exact absurd ho c2 | exact absurd ho c3
      rw [hfb] at k2
      exact ⟨_, rfl, k2⟩
  cases t with
  | none =>
    have hvn : v = .non := hv2
    subst hvn
    refine ⟨_, rfl, rfl, _, rfl, ?_⟩
    refine ifF (by rfl) ?_
    exact fin false rfl
  | some u =>
    have hvn : v = .int u := hv2
    subst hvn
    refine ⟨_, rfl, rfl, _, rfl, ?_⟩
    refine ifT (by rfl) ?_
    exact ⟨_, rfl, _, rfl, _, rfl, q, p, now, u, rfl, hP2, fin _ rfl⟩
end
end Hw

set_option maxHeartbeats 4000000
namespace Hw
open PySem L2
open Pm (PM R Op Ex)
open Pw (Mem)
/-- all but one place stands -/
def Off (m : Addr) (H H' : Hp) : Prop := ∀ b o, H b = some o → b ≠ m → H' b = some o
theorem Off.refl (m : Addr) (H : Hp) : Off m H H := fun _ _ h _ => h
theorem Off.trans {m : Addr} {H H1 H2 : Hp} (a : Off m H H1) (b : Off m H1 H2) : Off m H H2 := fun c o h n => b c o (a c o h n) n
theorem Same.off {m : Addr} {H H' : Hp} (s : Same H H') : Off m H H' := fun b o h _ => s b o h
theorem Off.part {m CP : Addr} {H H' : Hp} {q : PA} {p : PM} (o : Off m H H') (n : m ∉ paA q) (h : PartAt CP H q p) : PartAt CP H' q p := by
  simp only [paA, List.mem_cons, List.not_mem_nil, or_false, not_or] at n
  exact ⟨o _ _ h.ins (Ne.symm n.1), o _ _ h.ops (Ne.symm n.2)⟩
def spFollow (K : PySem.W.Frag) (CU CP : Addr) : Sp := fun vs H Q _ => ∃ (u : UA) (ps : List PM) (wt : List Int) (bg : List Mem) (m d : Addr) (mem : List Mem) (mvs : List V) (ks : List Pm.MK) (now : Int) (here : List (List UInt8)),
  vs = [.ref u.a, .ref m, .int now, .ref d] ∧ RulesAt K CU CP H u ps wt bg ∧ m ∉ u.foot ∧ d ≠ m ∧ H m = some (.lst mvs) ∧ A2 (MemV K H) mvs mem ∧ Pm.WFs ks 0 ps ∧ Pm.OpsL 0 ps ∧ Pm.FitL now ks mem ∧ (∀ o ∈ wt, 0 ≤ o ∧ o < (ps.length : Int)) ∧ ps.length ≤ 5000 ∧ wt.length ≤ 5000 ∧ mem.length ≤ 5000 ∧ NamesAt H d here ∧
  ∀ H' mvs', Off m H H' → H' m = some (.lst mvs') → A2 (MemV K H') mvs' (Pm.evalAll here now ([], mem) ps).2 → Q (.int (Pw.bitsOf (wt.map fun o => (Pm.evalAll here now ([], mem) ps).1.getD o.toNat false))) H'
theorem A2.get' {α β : Type} {S : α → β → Prop} : ∀ {l : List α} {m : List β} {i : Nat} {a : α}, A2 S l m → l[i]? = some a → ∃ b, m[i]? = some b ∧ S a b
  | [], [], i, b, _, e => by simp at e
  | a :: _, b :: _, 0, x, h, e => by
    cases e
    exact ⟨b, rfl, h.1⟩
  | _ :: l, _ :: m, i + 1, x, h, e => A2.get' (i := i) h.2 (by simpa using e)
  | [], _ :: _, _, _, h, _ => h.elim
  | _ :: _, [], _, _, h, _ => h.elim
theorem vals_at {hs : List Bool} {o : Int} (h0 : 0 ≤ o) (h1 : o < (hs.length : Int)) : atI (hs.map V.bl) o = some (.bl (hs.getD o.toNat false)) := by
  have e : o = ((o.toNat : Nat) : Int) := by omega
  have hl : o.toNat < hs.length := by omega
  rw [e, Int.toNat_natCast]
  refine atI_nat ?_
  rw [List.getElem?_map, List.getD, List.getElem?_eq_getElem hl]
  rfl
theorem eval_len (here : List (List UInt8)) (now : Int) : ∀ (ps : List PM) (st : List Bool × List Mem), (Pm.evalAll here now st ps).1.length = st.1.length + ps.length
  | [], st => rfl
  | p :: r, st => by
    have := eval_len here now r (Pm.evalStep here now st p)
    unfold Pm.evalAll at this ⊢
    rw [List.foldl_cons, this]
    unfold Pm.evalStep
    split <;> simp <;> omega
theorem eval_more {here : List (List UInt8)} {now : Int} {ps : List PM} {i : Nat} {p : PM} {st : List Bool × List Mem} (h : ps[i]? = some p) : Pm.evalAll here now st (ps.take (i + 1)) = Pm.evalStep here now (Pm.evalAll here now st (ps.take i)) p := by
  rw [take_more h, Pm.evalAll_append]
  rfl
theorem step_mem_len {here : List (List UInt8)} {now : Int} {st : List Bool × List Mem} {p : PM} : (Pm.evalStep here now st p).2.length = st.2.length := by
  unfold Pm.evalStep
  split
  · rfl
  · simp
theorem eval_mem_len (here : List (List UInt8)) (now : Int) : ∀ (ps : List PM) (st : List Bool × List Mem), (Pm.evalAll here now st ps).2.length = st.2.length
  | [], st => rfl
  | p :: r, st => by
    have := eval_mem_len here now r (Pm.evalStep here now st p)
    unfold Pm.evalAll at this ⊢
    rw [List.foldl_cons, this, step_mem_len]
theorem foot_part {u : UA} {m : Addr} {q : PA} (h : m ∉ u.foot) (hq : q ∈ u.qs) : m ∉ paA q := fun z => h (by
  simp only [UA.foot, List.mem_cons]
  exact .inr (.inr (.inr (.inr (List.mem_flatMap.mpr ⟨q, hq, z⟩)))))
theorem NamesAt.off {m d : Addr} {H H' : Hp} {here : List (List UInt8)} (o : Off m H H') (n : d ≠ m) (h : NamesAt H d here) : NamesAt H' d here := by
  obtain ⟨kvs, a, b⟩ := h
  exact ⟨kvs, o _ _ a n, b⟩
section
variable {P : Program} {w : World} {K : PySem.W.Frag} {mg : Str → Option Value} {base : Heap} {CP CU : Addr}
theorem sc_fol : FnScope ["rules", "memory", "moment", "names", "holds", "part", "values", "place"] ["rules", "memory", "moment", "names"] (defScope s_follow) := ⟨rfl, rfl, rfl, by decide +kernel, rfl, by decide +kernel, by decide +kernel⟩
theorem ok_follow {f f1 f2 f3 : Addr} {fd fd1 fd2 fd3 : FuncData} (F : Fun K "follow" "follow" s_follow f fd) (TP : ClsT K CP pK) (TU : ClsT K CU uK)
    (C1 : Callee P w K mg base 1 "holds_by_itself" f1 fd1 ["part", "values", "names"] (spItself CP)) (C2 : Callee P w K mg base 2 "holds_by_memory" f2 fd2 ["part", "values", "memory", "moment"] (spByMem K CP))
    (C3 : Callee P w K mg base 1 "number_of_bits" f3 fd3 ["bits"] spBits) : FnOk P w K mg base CX0 3 f fd ["rules", "memory", "moment", "names"] (spFollow K CU CP) := by
  refine F.ok sc_fol (fun vs H Q E h => ?_) (fun cdv A outer s H vs Q E hr h => ?_)
  · obtain ⟨_, _, _, _, _, _, _, _, _, _, _, rfl, _⟩ := h
    rfl
  obtain ⟨u, ps, wt, bg, m, d, mem, mvs, ks, now, here, rfl, hU, hmu, hdm, hm, hA, hwf, hopl, hfit, hwt, hpl, hwl, hml, hN, k⟩ := h
  have hr1 : Room 1 _ := hr.mono (by decide)
  refine ⟨_, pss_cons (ps_set (i := 4) sc_fol.nd rfl (.inr rfl) (pe_lst pa_nil))
    (pss_cons (ps_for PassesOwn.never rfl (pi_list (pe_fld (pv 0) rfl)) (pg_name (i := 5) sc_fol.nd rfl (.inl rfl))
      (pss_cons (ps_setLc (i := 6) (own := [("place", 7)]) (g := gName 7) (tt := tYes) (te := tOp (rIxL K) (tVar 4) (tVar 7)) rfl sc_fol.nd rfl rfl (sw_true rfl rfl rfl (by decide +kernel)) (pi_list (pe_fld (pv 5) rfl))
          (blkOk_by (N := ["rules", "memory", "moment", "names", "holds", "part", "values", "place"]) (sc := defScope s_follow) (by decide +kernel)) (fun _ _ _ _ _ => pg_name (i := 7) sc_fol.nd rfl (Or.inl rfl)) (fun _ _ _ _ _ => pts_nil)
          (fun _ _ _ _ _ => pe_ix ix_list (pv 4) (pv 7) (fun _ _ => rfl)))
      (pss_one (ps_if (pt_cmpR op_isN (pe_fld (pv 5) rfl) pe_non (nomark _))
        (pss_one (ps_expr (pe_bm PySem.F.plainAttrs_list PySem.F.slot_list_append PySem.F.type_list_append mt_append (pv 4) (pa_cons (pe_call C1.G hr1 rfl C1.at_ C1.kp C1.b .nil pass0 (pa_cons (pv 5) (pa_cons (pv 6) (pa_cons (pv 3) pa_nil)))) pa_nil))))
        (pss_one (ps_expr (pe_bm PySem.F.plainAttrs_list PySem.F.slot_list_append PySem.F.type_list_append mt_append (pv 4) (pa_cons (pe_call C2.G hr rfl C2.at_ C2.kp C2.b .nil pass0 (pa_cons (pv 5) (pa_cons (pv 6) (pa_cons (pv 1) (pa_cons (pv 2) pa_nil))))) pa_nil))))))))
    (pss_one (ps_ret (pe_call C3.G hr1 rfl C3.at_ C3.kp C3.b .nil pass0 (pa_cons (pe_lc (own := [("place", 7)]) (g := gName 7) (tt := tYes) (te := tOp (rIxL K) (tVar 4) (tVar 7)) rfl sc_fol.nd (pi_list (pe_fld (pv 0) rfl))
          (blkOk_by (N := ["rules", "memory", "moment", "names", "holds", "part", "values", "place"]) (sc := defScope s_follow) (by decide +kernel)) (fun _ _ _ _ _ => pg_name (i := 7) sc_fol.nd rfl (Or.inl rfl)) (fun _ _ _ _ _ => pts_nil)
          (fun _ _ _ _ _ => pe_ix ix_list (pv 4) (pv 7) (fun _ _ => rfl))) pa_nil))))), ?_⟩
  have mu1 : u.a ≠ m := fun e => hmu (by simp [UA.foot, e])
  have mu2 : u.ps ≠ m := fun e => hmu (by simp [UA.foot, e])
  have mu3 : u.w ≠ m := fun e => hmu (by simp [UA.foot, e])
  refine ⟨Nat.zero_le _, fun hl hhl => ?_⟩
  have sm0 : Same H (upd H hl (.lst [])) := same_upd (Same.refl H) hhl
  refine ⟨_, rfl, u.a, CU, u.dx, _, _, rfl, sm0 _ _ hU.ins, TU.cl, TU.no 0 _ rfl, lk_zip uKnd (i := 0) rfl, u.ps, rfl, ⟨_, SqL.of (sm0 _ _ hU.parts)⟩,
    for_list (K := K) (a := u.ps) (xs := u.qs.map fun q => V.ref q.a) (fun i σ H' => ∃ (v5 v6 v7 : Option V) (mvs' : List V), σ = [some (.ref u.a), some (.ref m), some (.int now), some (.ref d), some (.ref hl), v5, v6, v7] ∧ Off m H H' ∧
      H' hl = some (.lst ((Pm.evalAll here now ([], mem) (ps.take i)).1.map V.bl)) ∧ H' m = some (.lst mvs') ∧ A2 (MemV K H') mvs' (Pm.evalAll here now ([], mem) (ps.take i)).2 ∧ Pm.FitL now ks (Pm.evalAll here now ([], mem) (ps.take i)).2)
      ⟨none, none, none, mvs, rfl, Same.off sm0, upd_same, sm0 _ _ hm, hA.imp fun _ _ _ z => z.same sm0, hfit⟩ (fun i σ H' _ ⟨_, _, _, _, _, o, _⟩ => SqL.of (o _ _ hU.parts mu2)) ?_ ?_⟩
  · rintro i y σ H' hi ⟨v5, v6, v7, mvs', rfl, of, hhs, hm', hA', hf'⟩
    obtain ⟨q, hqi, rfl⟩ := map_at hi
    obtain ⟨p, hpi, hPq⟩ := hU.aP.get' hqi
    have hqm : q ∈ u.qs := List.mem_of_getElem? hqi
    have nq := foot_part hmu hqm
    have hP := of.part nq hPq
    have hw := hwf i p hpi
    rw [Nat.zero_add] at hw
    have hil : i < ps.length := (List.getElem?_eq_some_iff.mp hpi).1
    have hsl : (Pm.evalAll here now ([], mem) (ps.take i)).1.length = i := by
      rw [eval_len, List.length_take]
      simp
      omega
    obtain ⟨st, hst⟩ : ∃ st, st = Pm.evalAll here now ([], mem) (ps.take i) := ⟨_, rfl⟩
    rw [← hst] at hhs hA' hf' hsl
    have hmore := eval_more (here := here) (now := now) (st := ([], mem)) hpi
    rw [← hst] at hmore
    have nhm : hl ≠ m := fun e => by rw [e, hm] at hhl; cases hhl
    -- values = [holds[place] for place in part.operands]
    refine ⟨_, rfl, q.a, CP, q.dx, _, _, rfl, hP.ins, TP.cl, TP.no 1 _ rfl, lk_zip pKnd (i := 1) rfl, q.ops, rfl, ⟨_, SqL.of hP.ops⟩, fun D hD => ?_⟩
    refine lc_list (K := K) (a := q.ops) (xs := p.ops.map V.int) (fun c H2 => Same H' H2 ∧ H2 D = some (.lst ((p.ops.take c).map fun o => V.bl (st.1.getD o.toNat false)))) ?_ ?_ ?_ ?_
    · exact ⟨same_upd (Same.refl H') hD, upd_same⟩
    · rintro c H2 _ ⟨s2, _⟩
      exact SqL.of (s2 _ _ hP.ops)
    · rintro c x H2 hx ⟨s2, hL⟩
      obtain ⟨o, ho, rfl⟩ := map_at hx
      have hr := hw.1 o (List.mem_of_getElem? ho)
      refine ⟨rfl, _, rfl, _, rfl, hl, _, _, _, rfl, rfl, SqL.of (s2 _ _ hhs), vals_at hr.1 (by rw [hsl]; exact hr.2), _, hL, ?_, ?_, ?_⟩
      · rw [List.length_map, List.length_take]
        have h1 := hopl i p hpi
        exact Nat.lt_of_le_of_lt (show min c p.ops.length ≤ 5000 by omega) (by decide)
      · exact same_upd s2 hD
      · rw [upd_same, take_more ho, List.map_append]
        rfl
    · rintro H2 ⟨s2, hL⟩
      rw [List.length_map, List.take_length] at hL
      have hP2 : PartAt CP H2 q p := ⟨s2 _ _ hP.ins, s2 _ _ hP.ops⟩
      have hvals : p.ops.map (fun o => V.bl (st.1.getD o.toNat false)) = (Pm.valsOf st.1 p).map V.bl := by
        unfold Pm.valsOf
        rw [List.map_map]
        rfl
      rw [hvals] at hL
      refine ⟨_, rfl, q.a, CP, q.dx, _, _, rfl, hP2.ins, TP.cl, TP.no 5 _ rfl, lk_zip pKnd (i := 5) rfl, rfl, _, rfl, ?_⟩
      cases hs : p.slot with
      | none =>
        refine ifT (by rfl) ?_
        refine ⟨_, rfl, .inl ⟨rfl, _, SqL.of (s2 _ _ hhs)⟩, _, rfl, _, rfl, _, rfl, q, p, D, d, Pm.valsOf st.1 p, here, rfl, hP2, hL, (hN.off of hdm).off (Same.off (m := m) s2) hdm, ?_, ?_, ?_, hl, _, _, rfl, rfl, s2 _ _ hhs, ?_, ?_⟩
        · intro c
          have := hw.2
          rw [c] at this
          exact this.2
        · intro c
          have := hw.2
          rw [c] at this
          unfold Pm.valsOf
          rw [List.length_map]
          exact this.2
        · have := hw.2
          unfold Pm.valsOf
          rw [List.length_map]
          cases ho : p.op <;> rw [ho] at this <;> simp
          case implies => exact this.2
          case paren => exact this.elim
          case once => obtain ⟨⟨j, z, _⟩, _⟩ := this; rw [hs] at z; cases z
          case always => obtain ⟨⟨j, z, _⟩, _⟩ := this; rw [hs] at z; cases z
          case before => obtain ⟨⟨j, z, _⟩, _⟩ := this; rw [hs] at z; cases z
          case since => obtain ⟨⟨j, z, _⟩, _⟩ := this; rw [hs] at z; cases z
          case least => obtain ⟨⟨j, z, _⟩, _⟩ := this; rw [hs] at z; cases z
        · rw [List.length_map, hsl]
          exact Nat.lt_of_le_of_lt (show i ≤ 5000 by omega) (by decide)
        · have ee : Pm.evalStep here now st p = (st.1 ++ [Pm.byItself here p (Pm.valsOf st.1 p)], st.2) := by unfold Pm.evalStep; rw [hs]
          rw [ee] at hmore
          have hmu2 : H2 hl = none ∨ Mut (H2 hl) := .inr (by rw [s2 _ _ hhs]; trivial)
          refine ⟨_, _, _, mvs', rfl, ?_, ?_, ?_, ?_, ?_⟩
          · intro b o hb hbm
            rw [upd_ne (ne_of_none hb hhl)]
            exact s2 _ _ (of _ _ hb hbm)
          · rw [hmore, upd_same, List.map_append]
            rfl
          · rw [upd_ne nhm.symm]
            exact s2 _ _ hm'
          · rw [hmore]
            exact mems_off (hA'.imp fun _ _ _ z => z.same s2) hmu2
          · rw [hmore]
            exact hf'
      | some j =>
        refine ifF (by rfl) ?_
        obtain ⟨e, he, hsh⟩ : ∃ e, st.2[j]? = some e ∧ Shape p e := by
          have h2 := hw.2
          unfold Shape
          cases ho : p.op <;> rw [ho] at h2 <;> simp only at h2 ⊢
          case yes => rw [hs] at h2; cases h2
          case no => rw [hs] at h2; cases h2
          case name => have z := h2.1; rw [hs] at z; cases z
          case not_ => have z := h2.1; rw [hs] at z; cases z
          case and_ => rw [hs] at h2; cases h2
          case or_ => rw [hs] at h2; cases h2
          case implies => have z := h2.1; rw [hs] at z; cases z
          all_goals
            obtain ⟨⟨j', z, hk⟩, h3⟩ := h2
            rw [hs] at z
            cases z
            obtain ⟨e, he, hf⟩ := hf'.get hk
            refine ⟨e, he, ?_⟩
            cases e with
            | at_ t => first | exact ⟨t, rfl⟩ | exact hf.elim
            | was b => first | exact ⟨b, rfl⟩ | exact hf.elim
            | times l => first | exact ⟨⟨l, rfl, by have := hf.1; have := h3.2.2; omega⟩, h3.2.1⟩ | exact hf.elim
        have hvne : Pm.valsOf st.1 p ≠ [] := by
          intro z
          have zl := congrArg List.length z
          unfold Pm.valsOf at zl
          rw [List.length_map] at zl
          have h2 := hw.2
          unfold Shape at hsh
          cases ho : p.op <;> rw [ho] at h2 hsh <;> simp only at h2 hsh
          case once => rw [h2.2] at zl; cases zl
          case always => rw [h2.2] at zl; cases zl
          case before => rw [h2.2] at zl; cases zl
          case since => rw [h2.2] at zl; cases zl
          case least => rw [h2.2.1] at zl; cases zl
        have hml' : st.2.length ≤ 5000 := by rw [hst, eval_mem_len]; exact hml
        refine ⟨_, rfl, .inl ⟨rfl, _, SqL.of (s2 _ _ hhs)⟩, _, rfl, _, rfl, _, rfl, _, rfl, q, p, D, m, now, Pm.valsOf st.1 p, st.2, mvs', j, e, rfl, hP2, nq, hL, hvne, s2 _ _ hm', hA'.imp fun _ _ _ z => z.same s2, hs, he, hsh, hml', fun H3 mvs3 of3 hm3 hA3 => ?_⟩
        have hhs3 := of3 _ _ (s2 _ _ hhs) nhm
        refine ⟨hl, _, _, rfl, rfl, hhs3, ?_, ?_⟩
        · rw [List.length_map, hsl]
          exact Nat.lt_of_le_of_lt (show i ≤ 5000 by omega) (by decide)
        · have hge : st.2.getD j (.at_ none) = e := by rw [List.getD, he]; rfl
          have ee : Pm.evalStep here now st p = (st.1 ++ [Pm.byMemory now p e (Pm.nextMem now p (Pm.valsOf st.1 p) e)], st.2.set j (Pm.nextMem now p (Pm.valsOf st.1 p) e)) := by
            unfold Pm.evalStep
            rw [hs]
            simp only [hge]
          have hfit2 := Pm.step_fit (here := here) (now := now) (st := st) hw hf'
          rw [ee] at hmore hfit2
          have hmu3 : H3 hl = none ∨ Mut (H3 hl) := .inr (by rw [hhs3]; trivial)
          refine ⟨_, _, _, mvs3, rfl, ?_, ?_, ?_, ?_, ?_⟩
          · intro b o hb hbm
            rw [upd_ne (ne_of_none hb hhl)]
            exact of3 _ _ (s2 _ _ (of _ _ hb hbm)) hbm
          · rw [hmore, upd_same, List.map_append]
            rfl
          · rw [upd_ne nhm.symm]
            exact hm3
          · rw [hmore]
            exact mems_off hA3 hmu3
          · rw [hmore]
            exact hfit2
  · rintro σ H' ⟨v5, v6, v7, mvs', rfl, of, hhs, hm', hA', hf'⟩
    have hpq : u.qs.length = ps.length := hU.aP.len
    rw [List.length_map, hpq, List.take_length] at hhs hA' hf'
    have hsl : (Pm.evalAll here now ([], mem) ps).1.length = ps.length := by rw [eval_len]; simp
    refine ⟨_, rfl, u.a, CU, u.dx, _, _, rfl, of _ _ hU.ins mu1, TU.cl, TU.no 1 _ rfl, lk_zip uKnd (i := 1) rfl, u.w, rfl, ⟨_, SqL.of (of _ _ hU.watches mu3)⟩, fun D hD => ?_⟩
    refine lc_list (K := K) (a := u.w) (xs := wt.map V.int) (fun c H2 => Same H' H2 ∧ H2 D = some (.lst ((wt.take c).map fun o => V.bl ((Pm.evalAll here now ([], mem) ps).1.getD o.toNat false)))) ?_ ?_ ?_ ?_
    · exact ⟨same_upd (Same.refl H') hD, upd_same⟩
    · rintro c H2 _ ⟨s2, _⟩
      exact SqL.of (s2 _ _ (of _ _ hU.watches mu3))
    · rintro c x H2 hx ⟨s2, hL⟩
      obtain ⟨o, ho, rfl⟩ := map_at hx
      have hr := hwt o (List.mem_of_getElem? ho)
      refine ⟨rfl, _, rfl, _, rfl, hl, _, _, _, rfl, rfl, SqL.of (s2 _ _ hhs), vals_at hr.1 (by rw [hsl]; exact hr.2), _, hL, ?_, ?_, ?_⟩
      · rw [List.length_map, List.length_take]
        exact Nat.lt_of_le_of_lt (Nat.le_trans (Nat.min_le_right _ _) hwl) (by decide)
      · exact same_upd s2 hD
      · rw [upd_same, take_more ho, List.map_append]
        rfl
    · rintro H2 ⟨s2, hL⟩
      rw [List.length_map, List.take_length] at hL
      refine ⟨D, wt.map fun o => (Pm.evalAll here now ([], mem) ps).1.getD o.toNat false, rfl, by rw [hL, List.map_map]; rfl, ?_⟩
      exact k H2 mvs' (of.trans (Same.off s2)) (s2 _ _ hm') (hA'.imp fun _ _ _ z => z.same s2)
end
end Hw

set_option maxHeartbeats 4000000
namespace Hw
open PySem L2
open PyFlat (putRow putRows)
/-- rows that were handed in: each a list of its own, read -/
def RowsR (K : PySem.W.Frag) (H : Hp) : List V → List (List Int) → Prop := A2 fun v x => ∃ b, v = .ref b ∧ SqL K H b (x.map V.int)
theorem RowsR.same {K : PySem.W.Frag} {H H' : Hp} {vs : List V} {xs : List (List Int)} (h : RowsR K H vs xs) (s : Same H H') : RowsR K H' vs xs := A2.imp h fun _ _ _ ⟨b, e, q⟩ => ⟨b, e, s.seq q⟩
def spNames (K : PySem.W.Frag) : Sp := fun vs H Q _ => ∃ (a : Addr) (rs : List V) (ns : List (List UInt8)), vs = [.ref a] ∧ SqL K H a rs ∧ RowsR K H rs (ns.map fun n => n.map fun b => (b.toNat : Int)) ∧ ns.length ≤ 16000 ∧ (∀ n ∈ ns, n.length ≤ 16000) ∧
  ∀ H' d, Same H H' → H d = none → NamesAt H' d ns → Q (.ref d) H'
def spRowAt (K : PySem.W.Frag) : Sp := fun vs H Q _ => ∃ (a : Addr) (pre row rest : List Int), vs = [.ref a, .int pre.length] ∧ SqL K H a ((pre ++ (putRow row ++ rest)).map V.int) ∧
  ∀ H' l, Same H H' → H l = none → H' l = some (.lst (row.map V.int)) → Q (.ref l) H'
def spRowsAt (K : PySem.W.Frag) : Sp := fun vs H Q _ => ∃ (a : Addr) (pre : List Int) (rows : List (List Int)) (rest : List Int), vs = [.ref a, .int pre.length] ∧ SqL K H a ((pre ++ ((rows.length : Int) :: (putRows rows ++ rest))).map V.int) ∧ rows.length ≤ 16000 ∧
  ∀ H' l rs, Same H H' → H l = none → H' l = some (.lst rs) → RowsR K H' rs rows → Q (.ref l) H'
theorem bytes_int (n : List UInt8) : (n.map fun b => (b.toNat : Int)).map V.int = bv n := by
  rw [List.map_map]
  rfl
section
variable {P : Program} {w : World} {K : PySem.W.Frag} {mg : Str → Option Value} {base : Heap}
theorem sc_names : FnScope ["names", "held", "name"] ["names"] (defScope s_spell_names) := ⟨rfl, rfl, rfl, by decide +kernel, rfl, by decide +kernel, by decide +kernel⟩
theorem ok_names {f f1 : Addr} {fd fd1 : FuncData} (F : Fun K "spell_names" "spell_names" s_spell_names f fd) (C1 : Callee P w K mg base 2 "spell" f1 fd1 ["row"] (spSpell K)) : FnOk P w K mg base CX0 3 f fd ["names"] (spNames K) := by
  refine F.ok sc_names (fun vs H Q E h => ?_) (fun cdv A outer s H vs Q E hr h => ?_)
  · obtain ⟨_, _, _, rfl, _⟩ := h
    rfl
  obtain ⟨a, rs, ns, rfl, hS, hR, hl, hb, k⟩ := h
  have hu := hu_of hr
  refine ⟨_, pss_cons (ps_set (i := 1) sc_names.nd rfl (.inl rfl) pe_dnewK)
    (pss_cons (ps_for PassesOwn.never rfl (pi_list (pv 0)) (pg_name (i := 2) sc_names.nd rfl (.inl rfl))
      (pss_one (ps_dput hu (pv 1) (pe_call C1.G hr rfl C1.at_ C1.kp C1.b .nil pass0 (pa_cons (pv 2) pa_nil)) pe_bl rfl)))
    (pss_one (ps_ret (pv 1)))), ?_⟩
  intro d hd
  have sm0 : Same H (upd H d (.dK [])) := same_upd (Same.refl H) hd
  refine ⟨_, rfl, a, rfl, ⟨_, sm0.seq hS⟩, for_list (K := K) (a := a) (xs := rs) (fun i σ H' => ∃ (v : Option V) (kvs : List (Key × V)), σ = [some (.ref a), some (.ref d), v] ∧ Same H H' ∧ H' d = some (.dK kvs) ∧ kvs.length ≤ i ∧
      ∀ z : Str, (valV kvs (Sum.inr z)).isSome = (ns.take i).any (fun n => decide (spl n = z)))
    ⟨none, [], rfl, sm0, upd_same, Nat.le_refl _, fun z => rfl⟩ (fun i σ H' _ ⟨_, _, _, sm, _⟩ => sm.seq hS) ?_ ?_⟩
  · rintro i y σ H' hi ⟨v, kvs, rfl, sm, hk, hkl, hv⟩
    obtain ⟨x, hx, b, rfl, hq⟩ := A2.get' hR hi
    obtain ⟨n, hn, rfl⟩ := map_at hx
    have hil : i < ns.length := (List.getElem?_eq_some_iff.mp hn).1
    rw [bytes_int] at hq
    refine ⟨_, rfl, _, rfl, b, n, rfl, sm.seq hq, hb n (List.mem_of_getElem? hn), fun H2 sm2 => ?_⟩
    refine ⟨d, _, rfl, DPut.k (k := Sum.inr (spl n)) (sm2 _ _ hk) (Nat.lt_of_le_of_lt (show kvs.length ≤ 16000 by omega) (by decide)), ?_⟩
    refine ⟨_, _, rfl, same_upd (sm.trans sm2) hd, upd_same, ?_, fun z => ?_⟩
    · unfold putK
      split
      · rw [List.length_map]; omega
      · rw [List.length_append]; simp; omega
    · rw [valV_put, take_more hn, List.any_append, ← hv z]
      by_cases c : (Sum.inr z : Key) = Sum.inr (spl n)
      · have cz : spl n = z := (Sum.inr.inj c).symm
        simp [cz]
      · have cz : ¬ spl n = z := fun e => c (by rw [e])
        rw [if_neg c]
        simp [cz]
  · rintro σ H' ⟨v, kvs, rfl, sm, hk, hkl, hv⟩
    have hlen : rs.length = ns.length := by have := A2.len hR; rw [List.length_map] at this; exact this
    rw [hlen, List.take_length] at hv
    exact ⟨_, rfl, k _ _ sm hd ⟨kvs, hk, hv⟩⟩
theorem sc_rowat : FnScope ["calls", "place"] ["calls", "place"] (defScope s_row_at) := ⟨rfl, rfl, rfl, by decide +kernel, rfl, by decide +kernel, by decide +kernel⟩
theorem ok_row_at {f : Addr} {fd : FuncData} (F : Fun K "row_at" "row_at" s_row_at f fd) : FnOk P w K mg base CX0 1 f fd ["calls", "place"] (spRowAt K) := by
  refine F.ok sc_rowat (fun vs H Q E h => ?_) (fun cdv A outer s H vs Q E hr h => ?_)
  · obtain ⟨_, _, _, _, rfl, _⟩ := h
    rfl
  obtain ⟨a, pre, row, rest, rfl, hS, k⟩ := h
  refine ⟨_, pss_one (ps_ret (pe_slice sl_list (pv 0) (po_some (pe_op op_add (pv 1) pe_int)) (po_some (pe_op op_add (pe_op op_add (pv 1) pe_int) (pe_ix ix_list (pv 0) (pv 1) (fun _ _ => rfl)))))), ?_⟩
  have hget : ((pre ++ (putRow row ++ rest)).map V.int)[pre.length]? = some (.int row.length) := by
    rw [List.getElem?_map, List.getElem?_append_right (Nat.le_refl _), Nat.sub_self]
    rfl
  refine ⟨_, rfl, _, rfl, _, _, rfl, rfl, _, rfl, _, rfl, _, _, rfl, rfl, _, rfl, _, rfl, a, _, _, .int row.length, rfl, rfl, hS, atI_nat hget, _, _, rfl, rfl, _, rfl, a, _, rfl, hS, fun l hl => ?_⟩
  have hcut : cutV ((pre ++ (putRow row ++ rest)).map V.int) (some ((pre.length : Int) + 1)) (some ((pre.length : Int) + 1 + (row.length : Int))) = row.map V.int := by
    have e1 : ((pre.length : Int) + 1) = ((pre.length + 1 : Nat) : Int) := by omega
    have e2 : ((pre.length : Int) + 1 + (row.length : Int)) = ((pre.length + 1 + row.length : Nat) : Int) := by omega
    unfold cutV
    rw [e2, e1, HT.sIx_nat, HT.sIx_nat]
    have hL : ((pre ++ (putRow row ++ rest)).map V.int).length = pre.length + 1 + row.length + rest.length := by simp [putRow]; omega
    rw [hL, Nat.min_eq_left (by omega), Nat.min_eq_left (by omega), ← List.map_drop, ← List.map_take]
    congr 1
    rw [show pre.length + 1 + row.length - (pre.length + 1) = row.length by omega]
    have : pre ++ (putRow row ++ rest) = (pre ++ [(row.length : Int)]) ++ (row ++ rest) := by simp [putRow]
    rw [this, show pre.length + 1 = (pre ++ [(row.length : Int)]).length by simp, List.drop_left]
    exact PyFlat.take_len row rest
  rw [hcut]
  exact k _ l (same_upd (Same.refl H) hl) hl upd_same
end
end Hw

set_option maxHeartbeats 4000000
namespace Hw
open PySem L2
open PyFlat (putRow putRows)
theorem putRows_append : ∀ (a b : List (List Int)), putRows (a ++ b) = putRows a ++ putRows b
  | [], b => rfl
  | x :: a, b => by
    show putRow x ++ putRows (a ++ b) = (putRow x ++ putRows a) ++ putRows b
    rw [putRows_append a b, List.append_assoc]
/-- rows made anew, none of them the list itself -/
def RowsN (H : Hp) (l : Addr) : List V → List (List Int) → Prop := A2 fun v x => ∃ b, v = .ref b ∧ b ≠ l ∧ H b = some (.lst (x.map V.int))
section
variable {P : Program} {w : World} {K : PySem.W.Frag} {mg : Str → Option Value} {base : Heap}
theorem sc_rowsat : FnScope ["calls", "place", "rows", "start", "row"] ["calls", "place"] (defScope s_rows_at) := ⟨rfl, rfl, rfl, by decide +kernel, rfl, by decide +kernel, by decide +kernel⟩
theorem ok_rows_at {f f1 : Addr} {fd fd1 : FuncData} (F : Fun K "rows_at" "rows_at" s_rows_at f fd) (hlen : mg "len" = none) (C1 : Callee P w K mg base 1 "row_at" f1 fd1 ["calls", "place"] (spRowAt K)) : FnOk P w K mg base CX0 2 f fd ["calls", "place"] (spRowsAt K) := by
  refine F.ok sc_rowsat (fun vs H Q E h => ?_) (fun cdv A outer s H vs Q E hr h => ?_)
  · obtain ⟨_, _, _, _, rfl, _⟩ := h
    rfl
  obtain ⟨a, pre, rows, rest, rfl, hS, hrl, k⟩ := h
  refine ⟨_, pss_cons (ps_set (i := 2) sc_rowsat.nd rfl (.inl rfl) (pe_lst pa_nil)) (pss_cons (ps_set (i := 3) sc_rowsat.nd rfl (.inl rfl) (pe_op op_add (pv 1) pe_int))
    (pss_cons (ps_while PassesOwn.never (pt_cmpR op_lt (pe_callB call_len_seq (by rfl) hlen PySem.boot_len (pa_cons (pv 2) pa_nil)) (pe_ix ix_list (pv 0) (pv 1) (fun _ _ => rfl)) (nomark _))
      (pss_cons (ps_set (i := 4) sc_rowsat.nd rfl (.inl rfl) (pe_call C1.G hr rfl C1.at_ C1.kp C1.b .nil pass0 (pa_cons (pv 0) (pa_cons (pv 3) pa_nil))))
      (pss_cons (ps_expr (pe_bm PySem.F.plainAttrs_list PySem.F.slot_list_append PySem.F.type_list_append mt_append (pv 2) (pa_cons (pv 4) pa_nil)))
      (pss_one (ps_aug (i := 3) sc_rowsat.nd rfl (.inl rfl) (pe_op op_add pe_int (pe_callB call_len_seq (by rfl) hlen PySem.boot_len (pa_cons (pv 4) pa_nil))) ip_add)))))
    (pss_one (ps_ret (pv 2))))), ?_⟩
  have hget : ((pre ++ ((rows.length : Int) :: (putRows rows ++ rest))).map V.int)[pre.length]? = some (.int rows.length) := by
    rw [List.getElem?_map, List.getElem?_append_right (Nat.le_refl _), Nat.sub_self]
    rfl
  refine ⟨Nat.zero_le _, fun l hl => ?_⟩
  have sm0 : Same H (upd H l (.lst [])) := same_upd (Same.refl H) hl
  refine ⟨_, rfl, _, _, rfl, rfl, ?_⟩
  refine ⟨fun c σ H' => ∃ (done rem : List (List Int)) (rs : List V) (v : Option V), rows = done ++ rem ∧ σ = [some (.ref a), some (.int pre.length), some (.ref l), some (.int ((pre.length : Int) + 1 + ((putRows done).length : Nat))), v] ∧ Same H H' ∧ H' l = some (.lst rs) ∧ RowsN H' l rs done ∧ c = rem.length,
    ⟨_, [], rows, [], none, rfl, by simp [putRows]; rfl, sm0, upd_same, trivial, rfl⟩, ?_⟩
  rintro c σ H' ⟨done, rem, rs, v, hd, rfl, sm, hL, hR, rfl⟩
  have hrs : rs.length = done.length := A2.len hR
  refine ⟨_, rfl, l, _, rfl, .inl (SqL.of hL), _, rfl, _, rfl, a, _, _, .int rows.length, rfl, rfl, sm.seq hS, atI_nat hget, _, _, rfl, rfl, _, rfl, ?_⟩
  rw [hrs]
  cases rem with
  | nil =>
    have : done.length = rows.length := by rw [hd]; simp
    refine ifF (decide_eq_false (by omega)) ?_
    rw [List.append_nil] at hd
    subst hd
    exact ⟨_, rfl, k _ l rs sm hl hL (A2.imp hR fun v y _ ⟨b, e, _, q⟩ => ⟨b, e, SqL.of q⟩)⟩
  | cons x rem =>
    have hlen2 : done.length < rows.length := by rw [hd]; simp
    refine ifT (decide_eq_true (by omega)) ?_
    refine ⟨fun σ' H'' => ∃ (rs' : List V) (v : Option V), σ' = [some (.ref a), some (.int pre.length), some (.ref l), some (.int ((pre.length : Int) + 1 + ((putRows (done ++ [x])).length : Nat))), v] ∧ Same H H'' ∧ H'' l = some (.lst rs') ∧ RowsN H'' l rs' (done ++ [x]),
      fun σ' H'' ⟨rs', v, e1, e2, e3, e4⟩ => ⟨rem.length, by simp, done ++ [x], rem, rs', v, by rw [hd]; simp, e1, e2, e3, e4, rfl⟩, ?_⟩
    have hsplit : pre ++ ((rows.length : Int) :: (putRows rows ++ rest)) = (pre ++ ((rows.length : Int) :: putRows done)) ++ (putRow x ++ (putRows rem ++ rest)) := by
      rw [hd, putRows_append]
      show pre ++ (_ :: ((putRows done ++ (putRow x ++ putRows rem)) ++ rest)) = _
      simp [List.append_assoc]
    have hpl : ((pre.length : Int) + 1 + ((putRows done).length : Nat)) = ((pre ++ ((rows.length : Int) :: putRows done)).length : Nat) := by simp; omega
    refine ⟨_, rfl, _, rfl, a, pre ++ ((rows.length : Int) :: putRows done), x, putRows rem ++ rest, by rw [hpl]; rfl, by rw [← hsplit]; exact sm.seq hS, fun H2 b sm2 hb hB => ?_⟩
    refine ⟨_, rfl, .inl ⟨rfl, _, SqL.of (sm2 _ _ hL)⟩, _, rfl, l, _, _, rfl, rfl, sm2 _ _ hL, ?_, ?_⟩
    · rw [hrs]
      exact Nat.lt_of_le_of_lt (show done.length ≤ 16000 by omega) (by decide)
    have nbl : b ≠ l := fun e => by rw [e, hL] at hb; cases hb
    have hB2 : upd H2 l (.lst (rs ++ [.ref b])) b = some (.lst (x.map V.int)) := by rw [upd_ne nbl]; exact hB
    refine ⟨_, rfl, _, rfl, b, _, rfl, .inl (SqL.of hB2), _, _, rfl, rfl, _, _, rfl, rfl, ?_⟩
    rw [List.length_map]
    refine ⟨rs ++ [.ref b], some (.ref b), ?_, same_upd (sm.trans sm2) hl, upd_same, ?_⟩
    · rw [putRows_append]
      show [some (V.ref a), some (.int pre.length), some (.ref l), some (.int ((pre.length : Int) + 1 + ((putRows done).length : Nat) + (1 + (x.length : Nat)))), some (.ref b)] = _
      congr 5
      simp [putRows, putRow]
      omega
    · exact A2.append (A2.imp hR fun v y _ ⟨c, e, n, q⟩ => ⟨c, e, n, by rw [upd_ne n]; exact sm2 _ _ q⟩) ⟨⟨b, rfl, nbl, hB2⟩, trivial⟩
end
end Hw

set_option maxHeartbeats 4000000
namespace Hw
open PySem L2
open Pm (PM R Op Ex)
open Pw (Mem)
def spFirstMem (K : PySem.W.Frag) : Sp := fun vs H Q _ => ∃ (a : Addr) (kv : List V) (bg : List Mem), vs = [.ref a] ∧ SqL K H a kv ∧ A2 (KindV K H) kv bg ∧ bg.length ≤ 5000 ∧
  ∀ H' l mvs, Same H H' → H l = none → H' l = some (.lst mvs) → A2 (MemV K H') mvs bg → Q (.ref l) H'
def spToldMember (K : PySem.W.Frag) : Sp := fun vs H Q _ => ∃ (op : Op) (mv : V) (m : Mem), vs = [.str (opStr op), mv] ∧ MemV K H mv m ∧ Pm.SameSh (Pm.firstMem op) m ∧ (Pw.memNums m).length ≤ 65 ∧
  ∀ H' l, Same H H' → H l = none → H' l = some (.lst ((Pw.memNums m).map V.int)) → Q (.ref l) H'
def spToldMem (K : PySem.W.Frag) : Sp := fun vs H Q _ => ∃ (a b : Addr) (kv mvs : List V) (bg mem : List Mem), vs = [.ref a, .ref b] ∧ SqL K H a kv ∧ SqL K H b mvs ∧ A2 (KindV K H) kv bg ∧ A2 (MemV K H) mvs mem ∧ Pm.ShL bg mem ∧
  mem.length ≤ 5000 ∧ (∀ m ∈ mem, (Pw.memNums m).length ≤ 65) ∧
  ∀ H' l, Same H H' → H l = none → H' l = some (.lst ((((mem.length : Nat) : Int) :: mem.flatMap Pw.memNums).map V.int)) → Q (.ref l) H'
theorem shl_get : ∀ {l m : List Mem} {i : Nat} {a b : Mem}, Pm.ShL l m → l[i]? = some a → m[i]? = some b → Pm.SameSh a b
  | [], [], i, a, b, _, e, _ => by simp at e
  | x :: l, y :: m, 0, a, b, h, e, e2 => by cases e; cases e2; exact h.1
  | x :: l, y :: m, i + 1, a, b, h, e, e2 => shl_get (i := i) h.2 (by simpa using e) (by simpa using e2)
  | [], _ :: _, _, _, _, h, _, _ => (h : False).elim
  | _ :: _, [], _, _, _, h, _, _ => (h : False).elim
theorem shl_len : ∀ {l m : List Mem}, Pm.ShL l m → l.length = m.length
  | [], [], _ => rfl
  | x :: l, y :: m, h => by rw [List.length_cons, List.length_cons, shl_len h.2]
  | [], _ :: _, h => (h : False).elim
  | _ :: _, [], h => (h : False).elim
section
variable {P : Program} {w : World} {K : PySem.W.Frag} {mg : Str → Option Value} {base : Heap}
theorem sc_fmem : FnScope ["kinds", "kind"] ["kinds"] (defScope s_first_memory) := ⟨rfl, rfl, rfl, by decide +kernel, rfl, by decide +kernel, by decide +kernel⟩
theorem ok_first_memory {f f1 : Addr} {fd fd1 : FuncData} (F : Fun K "first_memory" "first_memory" s_first_memory f fd)
    (C1 : Callee P w K mg base 1 "first_member" f1 fd1 ["kind"] (spFirst K)) : FnOk P w K mg base CX0 2 f fd ["kinds"] (spFirstMem K) := by
  refine F.ok sc_fmem (fun vs H Q E h => ?_) (fun cdv A outer s H vs Q E hr h => ?_)
  · obtain ⟨_, _, _, rfl, _⟩ := h
    rfl
  obtain ⟨a, kv, bg, rfl, hS, hK, hlen, k⟩ := h
  have hr1 : Room 1 _ := hr
  refine ⟨_, pss_one (ps_ret (pe_lc (own := [("kind", 1)]) (g := gName 1) (tt := tYes) rfl sc_fmem.nd (pi_list (pv 0)) (blkOk_by (N := ["kinds", "kind"]) (sc := defScope s_first_memory) (by decide +kernel))
    (fun _ _ _ _ _ => pg_name (i := 1) sc_fmem.nd rfl (Or.inl rfl)) (fun _ _ _ _ _ => pts_nil) (fun _ _ _ _ _ => pe_call C1.G hr1 rfl C1.at_ C1.kp C1.b .nil pass0 (pa_cons (pv 1) pa_nil)))), ?_⟩
  refine ⟨_, rfl, a, rfl, ⟨_, hS⟩, fun D hD => ?_⟩
  refine lc_list (K := K) (a := a) (xs := kv) (fun i H4 => Same H H4 ∧ ∃ acc, H4 D = some (.lst acc) ∧ A2 (MemV K H4) acc (bg.take i)) ?_ ?_ ?_ ?_
  · exact ⟨same_upd (Same.refl H) hD, [], upd_same, by rw [List.take_zero]; trivial⟩
  · rintro i H4 _ ⟨s4, _⟩
    exact s4.seq hS
  · rintro i x H4 hx ⟨s4, acc, hL, hA⟩
    obtain ⟨m, hm, op, rfl, rfl⟩ := A2.get' hK hx
    refine ⟨rfl, _, rfl, op, rfl, fun v H5 s5 hv => ?_⟩
    have hL5 := s5 _ _ hL
    have mu : H5 D = none ∨ Mut (H5 D) := .inr (by rw [hL5]; trivial)
    refine ⟨acc, hL5, ?_, same_upd (s4.trans s5) hD, acc ++ [v], upd_same, ?_⟩
    · rw [hA.len, List.length_take]
      exact Nat.lt_of_le_of_lt (Nat.le_trans (Nat.min_le_right _ _) hlen) (by decide)
    · rw [take_more hm]
      exact (mems_off (hA.imp fun _ _ _ q => q.same s5) mu).append ⟨hv.off mu, trivial⟩
  · rintro H4 ⟨s4, acc, hL, hA⟩
    rw [hK.len, List.take_length] at hA
    exact k _ D acc s4 hD hL hA
theorem sc_tmem : FnScope ["kind", "member"] ["kind", "member"] (defScope s_told_member) := ⟨rfl, rfl, rfl, by decide +kernel, rfl, by decide +kernel, by decide +kernel⟩
theorem ok_told_member {f : Addr} {fd : FuncData} (F : Fun K "told_member" "told_member" s_told_member f fd) (hlen : mg "len" = none) (hlist : mg "list" = none) : FnOk P w K mg base CX0 1 f fd ["kind", "member"] (spToldMember K) := by
  refine F.ok sc_tmem (fun vs H Q E h => ?_) (fun cdv A outer s H vs Q E hr h => ?_)
  · obtain ⟨_, _, _, rfl, _⟩ := h
    rfl
  obtain ⟨op, mv, m, rfl, hm, hsh, hsz, k⟩ := h
  refine ⟨_, pss_cons (ps_if (pt_cmpR op_eq (pv 0) pe_str (nomark _)) (pss_one (ps_ret (pe_lst (pa_cons (pe_ifExp (pt_val (pv 1)) pe_int pe_int) pa_nil)))) pss_nil)
    (pss_cons (ps_if (pt_cmpR op_eq (pv 0) pe_str (nomark _)) (pss_one (ps_ret (pe_op op_cat (pe_lst (pa_cons (pe_callB call_len_seq (by rfl) hlen PySem.boot_len (pa_cons (pv 1) pa_nil)) pa_nil)) (pe_callTy call_list_of (by rfl) hlist (by decide +kernel) (pa_cons (pv 1) pa_nil))))) pss_nil)
    (pss_one (ps_ret (pe_ifExp (pt_cmpR op_isN (pv 1) pe_non (nomark _)) (pe_lst (pa_cons pe_int pa_nil)) (pe_lst (pa_cons pe_int (pa_cons (pv 1) pa_nil))))))), ?_⟩
  refine ⟨_, rfl, rfl, _, rfl, ?_⟩
  rw [show decide (V.str (opStr op) = V.str "before") = decide (op = .before) from opStr_eq op .before]
  by_cases h1 : op = .before
  · refine ifT (decide_eq_true h1) ?_
    subst h1
    cases m with
    | at_ t => exact (hsh : False).elim
    | times l => exact (hsh : False).elim
    | was b =>
      have hm : mv = .bl b := hm
      subst hm
      have k : ∀ H' l, Same H H' → H l = none → H' l = some (.lst [.int (if b = true then 1 else 0)]) → Q (.ref l) H' := k
      refine ⟨_, rfl, _, rfl, ?_⟩
      cases b with
      | true =>
        refine ifT (by rfl) ?_
        exact ⟨(by show 1 ≤ sizeLine; decide), fun l hl => k _ l (same_upd (Same.refl H) hl) hl upd_same⟩
      | false =>
        refine ifF (by rfl) ?_
        exact ⟨(by show 1 ≤ sizeLine; decide), fun l hl => k _ l (same_upd (Same.refl H) hl) hl upd_same⟩
  refine ifF (decide_eq_false h1) ?_
  refine ⟨_, rfl, rfl, _, rfl, ?_⟩
  rw [show decide (V.str (opStr op) = V.str "least") = decide (op = .least) from opStr_eq op .least]
  by_cases h2 : op = .least
  · refine ifT (decide_eq_true h2) ?_
    subst h2
    cases m with
    | at_ t => exact (hsh : False).elim
    | was b => exact (hsh : False).elim
    | times l =>
      obtain ⟨t, rfl, hT⟩ := hm
      have hsz : l.length + 1 ≤ 65 := hsz
      refine ⟨_, rfl, t, _, rfl, .inr hT, (by show 1 ≤ sizeLine; decide), fun p1 hp1 => ?_⟩
      rw [List.length_map]
      have s1 : Same H (upd H p1 (.lst [.int (l.length : Nat)])) := same_upd (Same.refl H) hp1
      refine ⟨_, rfl, t, _, rfl, .inr (sqT_same s1 hT), fun p2 hp2 => ?_⟩
      have s2 : Same H (upd (upd H p1 (.lst [.int (l.length : Nat)])) p2 (.lst (l.map V.int))) := s1.trans (same_upd (Same.refl _) hp2)
      have n21 : p1 ≠ p2 := fun e => by rw [e, upd_same] at hp2; cases hp2
      refine ⟨p1, p2, _, _, rfl, rfl, by rw [upd_ne n21, upd_same], upd_same, ?_, fun p3 hp3 => ?_⟩
      · rw [List.length_map]
        exact Nat.le_trans (show 1 + l.length ≤ 100 by omega) (by decide)
      · exact k _ p3 (s2.trans (same_upd (Same.refl _) hp3)) (s2.free hp3) (by rw [upd_same]; rfl)
  refine ifF (decide_eq_false h2) ?_
  have ef : Pm.firstMem op = .at_ none := by cases op <;> first | rfl | exact absurd rfl h1 | exact absurd rfl h2
  rw [ef] at hsh
  cases m with
  | was b => exact (hsh : False).elim
  | times l => exact (hsh : False).elim
  | at_ t =>
    cases t with
    | none =>
      have hm : mv = .non := hm
      subst hm
      refine ⟨_, rfl, rfl, _, rfl, ?_⟩
      refine ifT (by rfl) ?_
      exact ⟨(by show 1 ≤ sizeLine; decide), fun l hl => k _ l (same_upd (Same.refl H) hl) hl upd_same⟩
    | some t =>
      have hm : mv = .int t := hm
      subst hm
      refine ⟨_, rfl, rfl, _, rfl, ?_⟩
      refine ifF (by rfl) ?_
      exact ⟨_, rfl, (by show 2 ≤ sizeLine; decide), fun l hl => k _ l (same_upd (Same.refl H) hl) hl upd_same⟩
abbrev nTold : List Str := ["kinds", "memory", "numbers", "kind", "member"]
theorem sc_told : FnScope nTold ["kinds", "memory"] (defScope s_told_memory) := ⟨rfl, rfl, rfl, by decide +kernel, rfl, by decide +kernel, by decide +kernel⟩
theorem ok_told_memory {f f1 : Addr} {fd fd1 : FuncData} (F : Fun K "told_memory" "told_memory" s_told_memory f fd) (hlen : mg "len" = none) (hzip : mg "zip" = none)
    (C1 : Callee P w K mg base 1 "told_member" f1 fd1 ["kind", "member"] (spToldMember K)) : FnOk P w K mg base CX0 2 f fd ["kinds", "memory"] (spToldMem K) := by
  refine F.ok sc_told (fun vs H Q E h => ?_) (fun cdv A outer s H vs Q E hr h => ?_)
  · obtain ⟨_, _, _, _, _, _, rfl, _⟩ := h
    rfl
  obtain ⟨a, b, kv, mvs, bg, mem, rfl, hS, hM, hK, hV, hsh, hl, hsm, k⟩ := h
  have hr1 : Room 1 _ := hr
  refine ⟨_, pss_cons (ps_set (i := 2) sc_told.nd rfl (.inl rfl) (pe_lst (pa_cons (pe_callB call_len_seq (by rfl) hlen PySem.boot_len (pa_cons (pv 1) pa_nil)) pa_nil)))
    (pss_cons (ps_for PassesOwn.never rfl (pi_zip (by rfl) hzip (pa_cons (pv 0) (pa_cons (pv 1) pa_nil))) (pg_tup rfl (pgs_cons (pg_name (i := 3) sc_told.nd rfl (Or.inl rfl)) (pgs_cons (pg_name (i := 4) sc_told.nd rfl (Or.inl rfl)) pgs_nil)))
      (pss_one (ps_expr (pe_bm PySem.F.plainAttrs_list PySem.F.slot_list_extend PySem.F.type_list_extend mt_extend (pv 2) (pa_cons (pe_call C1.G hr1 rfl C1.at_ C1.kp C1.b .nil pass0 (pa_cons (pv 3) (pa_cons (pv 4) pa_nil))) pa_nil)))))
    (pss_one (ps_ret (pv 2)))), ?_⟩
  refine ⟨_, rfl, b, _, rfl, .inl hM, (by show 1 ≤ sizeLine; decide), fun z hz => ?_⟩
  have lm : mvs.length = mem.length := hV.len
  have lk : kv.length = mvs.length := by rw [hK.len, lm, shl_len hsh]
  rw [lm]
  have s0 : Same H (upd H z (.lst [.int (mem.length : Nat)])) := same_upd (Same.refl H) hz
  refine ⟨_, rfl, _, rfl, a, b, kv, mvs, rfl, s0.seq hS, s0.seq hM, ?_⟩
  refine RZ.for_zipL lk (fun i σ H' => ∃ v3 v4, σ = [some (.ref a), some (.ref b), some (.ref z), v3, v4] ∧ Same H H' ∧ H' z = some (.lst ((((mem.length : Nat) : Int) :: (mem.take i).flatMap Pw.memNums).map V.int))) ?_ ?_ ?_ ?_
  · exact ⟨none, none, rfl, s0, by rw [upd_same, List.take_zero]; rfl⟩
  · rintro i σ H' ⟨_, _, _, sm, _⟩
    exact ⟨sm.seq hS, sm.seq hM⟩
  · rintro i x y T σ H' hx hy ⟨v3, v4, rfl, sm, hL⟩ hT
    obtain ⟨bg1, hbg, op, rfl, rfl⟩ := A2.get' hK hx
    obtain ⟨m1, hm1, hv1⟩ := A2.get' hV hy
    have hs1 := shl_get hsh hbg hm1
    have sT : Same H' (upd H' T (.tup [.str (opStr op), y])) := same_upd (Same.refl H') hT
    have hm65 := hsm m1 (List.mem_of_getElem? hm1)
    refine ⟨T, _, rfl, .inl (.inl upd_same), rfl, _, _, rfl, _, _, rfl, rfl, ?_⟩
    refine ⟨_, rfl, .inl ⟨rfl, _, SqL.of (sT _ _ hL)⟩, _, rfl, _, rfl, op, y, m1, rfl, hv1.same (sm.trans sT), hs1, hm65, fun H2 l s2 hl2 hL2 => ?_⟩
    have hz2 := s2 _ _ (sT _ _ hL)
    refine ⟨z, l, _, _, rfl, rfl, hz2, hL2, ?_, ?_⟩
    · have h1 := Pm.nums_le (mem.take i) fun m hm => hsm m (List.mem_of_mem_take hm)
      rw [List.length_take] at h1
      rw [List.length_map, List.length_map, List.length_cons]
      refine Nat.le_trans (show _ ≤ 400000 from ?_) (by decide)
      have : min i mem.length ≤ 5000 := by omega
      omega
    · refine ⟨_, _, rfl, same_upd ((sm.trans sT).trans s2) hz, ?_⟩
      rw [upd_same, take_more hm1, List.flatMap_append, ← List.map_append]
      simp
  · rintro σ H' ⟨v3, v4, rfl, sm, hL⟩
    rw [lk, lm, List.take_length] at hL
    exact ⟨_, rfl, k _ z sm hz hL⟩
end
end Hw

set_option maxHeartbeats 4000000
namespace Hw
open PySem L2
open PySem.W (Frag nsIn findIn isFn codeIn keepIn fnOf)
/-! ## What the top has written -/
def DefF (K : Frag) (mg : Str → Option Value) (x : Str) (st : Stmt) : Prop := ∃ f fd, Fun K x x st f fd ∧ mg x = some (.ref f)
def MethF (K : Frag) (C : Addr) (m qual : Str) (st : Stmt) : Prop := ∃ f fd, Fun K m qual st f fd ∧ Meth K C m f
theorem defF_of {K : Frag} {h : Heap} {mg : Str → Option Value} {x : Str} {st : Stmt} {f : Addr} {od an : Option Addr} {sl : Array (Option Value)} {oc kV dc pm cd ct : Value} (X : K.In h) (G : h.Ns mainGlobals mg)
    (a : nsIn K mainGlobals x = some (some (.ref f))) (l : K.lookup f = some ⟨oc, od, .func (fnOf x x (defArgs st) (defBody st) (defScope st) .none kV dc pm an cd ct), sl⟩) (c : codeIn K cd x = true) (k : keepIn K (.ref f) = true) : DefF K mg x st :=
  ⟨f, _, fun_mk l c k, PySem.W.mg_of X G a⟩
theorem methF_of {K : Frag} {C : Addr} {m qual : Str} {st : Stmt} {f : Addr} {od an : Option Addr} {sl : Array (Option Value)} {oc kV dc pm cd ct : Value}
    (a : findIn K (.ref C) m = some (some (.ref f))) (i : isFn K (.ref f) = true) (l : K.lookup f = some ⟨oc, od, .func (fnOf m qual (defArgs st) (defBody st) (defScope st) .none kV dc pm an cd ct), sl⟩) (c : codeIn K cd qual = true) (k : keepIn K (.ref f) = true) : MethF K C m qual st :=
  ⟨f, _, fun_mk l c k, a, i, k⟩
structure ClsF (K : Frag) (C : Addr) : Prop where
  cl : Cls K C
  makes : PySem.W.makesIn K C = true
  kp : keepIn K (.ref C) = true
theorem clsF_of {K : Frag} {C : Addr} (pg : PySem.W.plainGet K C Str.empty = true) (hd : PySem.W.hasDictIn K C = true) (po : PySem.W.plainOver K C = true) (sa : findIn K (.ref C) "__setattr__" = some (some (.builtin "object.__setattr__")))
    (mk : PySem.W.makesIn K C = true) (kc : keepIn K (.ref C) = true) : ClsF K C := ⟨⟨pg, hd, po, sa⟩, mk, kc⟩
theorem ci_of {K : Frag} {h : Heap} {mg : Str → Option Value} {x : Str} {i : Int} {t : Tok} (X : K.In h) (G : h.Ns mainGlobals mg) (a : nsIn K mainGlobals x = some (some (.int i t))) : CI mg x i := ⟨t, PySem.W.mg_of X G a⟩
theorem cs_of {K : Frag} {h : Heap} {mg : Str → Option Value} {x z : Str} {t : Tok} (X : K.In h) (G : h.Ns mainGlobals mg) (a : nsIn K mainGlobals x = some (some (.str z t))) : CS mg x z := ⟨t, PySem.W.mg_of X G a⟩
theorem ct_of {K : Frag} {h : Heap} {mg : Str → Option Value} {x : Str} {a : Addr} {zs : List Str} {od : Option Addr} {its : Array Value} {n : Nat} {sl : Array (Option Value)} (X : K.In h) (G : h.Ns mainGlobals mg)
    (e : nsIn K mainGlobals x = some (some (.ref a))) (l : K.lookup a = some ⟨.type "tuple", od, .seq its n, sl⟩) (hz : its.size ≤ sizeLine) (hv : Vals (zs.map V.str) its.toList) : CT K mg x a zs :=
  ⟨PySem.W.mg_of X G e, fun _ => .inr ⟨_, its, n, l, rfl, rfl, hz, hv⟩⟩
theorem vals_str {z : Str} {t : Tok} {zs : List Str} {us : List Value} (h : Vals (zs.map V.str) us) : Vals ((z :: zs).map V.str) (.str z t :: us) := .cons ⟨t, rfl⟩ h
theorem no6 {K : Frag} {C : Addr} (h0 : findIn K (.ref C) "kind" = some none) (h1 : findIn K (.ref C) "operands" = some none) (h2 : findIn K (.ref C) "name" = some none) (h3 : findIn K (.ref C) "needed" = some none) (h4 : findIn K (.ref C) "span" = some none) (h5 : findIn K (.ref C) "slot" = some none) : ∀ (i : Nat) (f : Str), pK[i]? = some f → NoAttr K C f
  | 0, _, e => by cases e; exact h0
  | 1, _, e => by cases e; exact h1
  | 2, _, e => by cases e; exact h2
  | 3, _, e => by cases e; exact h3
  | 4, _, e => by cases e; exact h4
  | 5, _, e => by cases e; exact h5
  | _ + 6, _, e => by cases e
theorem no8 {K : Frag} {C : Addr} (h0 : findIn K (.ref C) "expected" = some none) (h1 : findIn K (.ref C) "known" = some none) (h2 : findIn K (.ref C) "watches" = some none) (h3 : findIn K (.ref C) "parts" = some none) (h4 : findIn K (.ref C) "pending" = some none) (h5 : findIn K (.ref C) "depth" = some none) (h6 : findIn K (.ref C) "total" = some none) (h7 : findIn K (.ref C) "kinds" = some none) : ∀ (i : Nat) (f : Str), rK[i]? = some f → NoAttr K C f
  | 0, _, e => by cases e; exact h0
  | 1, _, e => by cases e; exact h1
  | 2, _, e => by cases e; exact h2
  | 3, _, e => by cases e; exact h3
  | 4, _, e => by cases e; exact h4
  | 5, _, e => by cases e; exact h5
  | 6, _, e => by cases e; exact h6
  | 7, _, e => by cases e; exact h7
  | _ + 8, _, e => by cases e
theorem no3 {K : Frag} {C : Addr} (h0 : findIn K (.ref C) "parts" = some none) (h1 : findIn K (.ref C) "watches" = some none) (h2 : findIn K (.ref C) "kinds" = some none) : ∀ (i : Nat) (f : Str), uK[i]? = some f → NoAttr K C f
  | 0, _, e => by cases e; exact h0
  | 1, _, e => by cases e; exact h1
  | 2, _, e => by cases e; exact h2
  | _ + 3, _, e => by cases e
theorem no5 {K : Frag} {C : Addr} (h0 : findIn K (.ref C) "rules" = some none) (h1 : findIn K (.ref C) "memory" = some none) (h2 : findIn K (.ref C) "entries" = some none) (h3 : findIn K (.ref C) "last" = some none) (h4 : findIn K (.ref C) "answer" = some none) :
    ∀ (i : Nat) (f : Str), (["rules", "memory", "entries", "last", "answer"] : List Str)[i]? = some f → NoAttr K C f
  | 0, _, e => by cases e; exact h0
  | 1, _, e => by cases e; exact h1
  | 2, _, e => by cases e; exact h2
  | 3, _, e => by cases e; exact h3
  | 4, _, e => by cases e; exact h4
  | _ + 5, _, e => by cases e
theorem no2 {K : Frag} {C : Addr} (h0 : findIn K (.ref C) "answer" = some none) (h1 : findIn K (.ref C) "rules" = some none) : ∀ (i : Nat) (f : Str), gK[i]? = some f → NoAttr K C f
  | 0, _, e => by cases e; exact h0
  | 1, _, e => by cases e; exact h1
  | _ + 2, _, e => by cases e
def reservedZ : List Str := ["not", "and", "or", "implies", "since", "once", "always", "before", "least", "within", "yes", "no"]
theorem reserved_eq : reservedZ.map V.str = Pw.words.map fun b => V.str (sb b) := by decide +kernel
theorem wtxt_of {K : Frag} {mg : Str → Option Value} {aR : Addr} (g : CS mg "GLYPHS" glyphsZ) (r : CT K mg "RESERVED" aR reservedZ) (l : mg "len" = none) : WTxt K mg aR :=
  ⟨g, r.at_, fun H => by rw [← reserved_eq]; exact r.sq H, l⟩
/-- the dict of strengths -/
theorem stxt_of {K : Frag} {h : Heap} {mg : Str → Option Value} {w : World} {aS : Addr} {es : Array DictEntry} {n : Nat} (X : K.In h) (G : h.Ns mainGlobals mg) (e : nsIn K mainGlobals "STRENGTHS" = some (some (.ref aS)))
    (l : K.lookup aS = some ⟨.type "dict", none, .dict es n, #[]⟩) (kl : PySem.W.KeysLit w.params es.toList)
    {t0 t1 t2 t3 t4 t5 t6 t7 t8 t9 t10 t11 : Tok}
    (h0 : nsIn K aS ")" = some (some (.int 0 t0))) (h1 : nsIn K aS ";" = some (some (.int 0 t1))) (h2 : nsIn K aS "(" = some (some (.int 0 t2))) (h3 : nsIn K aS "implies" = some (some (.int 1 t3))) (h4 : nsIn K aS "or" = some (some (.int 2 t4)))
    (h5 : nsIn K aS "and" = some (some (.int 3 t5))) (h6 : nsIn K aS "since" = some (some (.int 4 t6))) (h7 : nsIn K aS "not" = some (some (.int 5 t7))) (h8 : nsIn K aS "once" = some (some (.int 5 t8))) (h9 : nsIn K aS "always" = some (some (.int 5 t9)))
    (h10 : nsIn K aS "before" = some (some (.int 5 t10))) (h11 : nsIn K aS "least" = some (some (.int 5 t11))) : STxt K mg w aS := by
  have key : ∀ (z : Str) (i : Int) (t : Tok), nsIn K aS z = some (some (.int i t)) → KDct K w aS z (.int i) := fun z i t q => ⟨es, n, _, l, kl, q, ⟨t, rfl⟩⟩
  refine ⟨PySem.W.mg_of X G e, fun op hl => ?_, key _ _ _ h0, key _ _ _ h1⟩
  cases op
  case yes => cases hl
  case no => cases hl
  case name => cases hl
  case paren => exact key _ _ _ h2
  case implies => exact key _ _ _ h3
  case or_ => exact key _ _ _ h4
  case and_ => exact key _ _ _ h5
  case since => exact key _ _ _ h6
  case not_ => exact key _ _ _ h7
  case once => exact key _ _ _ h8
  case always => exact key _ _ _ h9
  case before => exact key _ _ _ h10
  case least => exact key _ _ _ h11
end Hw

set_option maxHeartbeats 4000000
namespace Hw
open PySem L2
theorem chain_ok {P : Program} {w : World} {K : PySem.W.Frag} {mg : Str → Option Value} {base : Heap} {CP CU CG CR aR aO aJ aE aM aS : Addr}
    (tW : WTxt K mg aR) (tR : RTxt K mg aO aJ aE aM) (tS : STxt K mg w aS) (tF : FTxt mg) (tQ : QTxt mg) (tH : HTxt mg) (n_list : mg "list" = none) (n_zip : mg "zip" = none)
    (kP : ClsT K CP pK) (kU : ClsT K CU uK) (kG : ClsT K CG gK) (kR : ClsT K CR rK)
    (k_Part : ClsF K CP) (k_Rules : ClsF K CU) (k_Reading : ClsF K CG) (k_Reader : ClsF K CR)
    (g_Part : mg "Part" = some (.ref CP)) (g_Rules : mg "Rules" = some (.ref CU)) (g_Reading : mg "Reading" = some (.ref CG)) (g_Reader : mg "Reader" = some (.ref CR))
    (d_is_letter : DefF K mg "is_letter" s_is_letter)
    (d_is_figure : DefF K mg "is_figure" s_is_figure)
    (d_is_in_word : DefF K mg "is_in_word" s_is_in_word)
    (d_is_name : DefF K mg "is_name" s_is_name)
    (d_glyph : DefF K mg "glyph" s_glyph)
    (d_spell : DefF K mg "spell" s_spell)
    (d_skip_blanks : DefF K mg "skip_blanks" s_skip_blanks)
    (d_end_of_word : DefF K mg "end_of_word" s_end_of_word)
    (d_end_of_number : DefF K mg "end_of_number" s_end_of_number)
    (d_end_of_token : DefF K mg "end_of_token" s_end_of_token)
    (d_first_member : DefF K mg "first_member" s_first_member)
    (d_is_bounded : DefF K mg "is_bounded" s_is_bounded)
    (d_behind_opening : DefF K mg "behind_opening" s_behind_opening)
    (i_Part : MethF K CP "__init__" "Part.__init__" s_Part_init)
    (i_Rules : MethF K CU "__init__" "Rules.__init__" s_Rules_init)
    (i_Reading : MethF K CG "__init__" "Reading.__init__" s_Reading_init)
    (i_Reader : MethF K CR "__init__" "Reader.__init__" s_Reader_init)
    (x_put : MethF K CR "put" "Reader.put" s_Reader_put)
    (x_begin : MethF K CR "begin" "Reader.begin" s_Reader_begin)
    (x_end_bracket : MethF K CR "end_bracket" "Reader.end_bracket" s_Reader_end_bracket)
    (x_end_watch : MethF K CR "end_watch" "Reader.end_watch" s_Reader_end_watch)
    (x_end_stronger : MethF K CR "end_stronger" "Reader.end_stronger" s_Reader_end_stronger)
    (x_join_operands : MethF K CR "join_operands" "Reader.join_operands" s_Reader_join_operands)
    (x_take_joint : MethF K CR "take_joint" "Reader.take_joint" s_Reader_take_joint)
    (x_take_colon : MethF K CR "take_colon" "Reader.take_colon" s_Reader_take_colon)
    (x_take_watch : MethF K CR "take_watch" "Reader.take_watch" s_Reader_take_watch)
    (x_take_needed : MethF K CR "take_needed" "Reader.take_needed" s_Reader_take_needed)
    (x_take_span : MethF K CR "take_span" "Reader.take_span" s_Reader_take_span)
    (x_take_operand : MethF K CR "take_operand" "Reader.take_operand" s_Reader_take_operand)
    (x_take : MethF K CR "take" "Reader.take" s_Reader_take)
    (x_is_whole : MethF K CR "is_whole" "Reader.is_whole" s_Reader_is_whole)
    (x_is_too_large : MethF K CR "is_too_large" "Reader.is_too_large" s_Reader_is_too_large)
    (d_fault_of_token : DefF K mg "fault_of_token" s_fault_of_token)
    (d_first_fault : DefF K mg "first_fault" s_first_fault)
    (d_read : DefF K mg "read" s_read)
    (d_is_near : DefF K mg "is_near" s_is_near)
    (d_holds_by_itself : DefF K mg "holds_by_itself" s_holds_by_itself)
    (d_next_member : DefF K mg "next_member" s_next_member)
    (d_number_of_bits : DefF K mg "number_of_bits" s_number_of_bits)
    (d_holds_by_memory : DefF K mg "holds_by_memory" s_holds_by_memory)
    (d_follow : DefF K mg "follow" s_follow)
    (d_spell_names : DefF K mg "spell_names" s_spell_names)
    (d_first_memory : DefF K mg "first_memory" s_first_memory)
    (d_told_member : DefF K mg "told_member" s_told_member)
    (d_told_memory : DefF K mg "told_memory" s_told_memory)
    (d_row_at : DefF K mg "row_at" s_row_at)
    (d_rows_at : DefF K mg "rows_at" s_rows_at) :
    (∃ f fd, Callee P w K mg base 8 "read" f fd ["row"] (spRead K CG CU CP)) ∧
    (∃ f fd, Callee P w K mg base 3 "follow" f fd ["rules", "memory", "moment", "names"] (spFollow K CU CP)) ∧
    (∃ f fd, Callee P w K mg base 3 "spell_names" f fd ["names"] (spNames K)) ∧
    (∃ f fd, Callee P w K mg base 1 "row_at" f fd ["calls", "place"] (spRowAt K)) ∧
    (∃ f fd, Callee P w K mg base 2 "rows_at" f fd ["calls", "place"] (spRowsAt K)) ∧
    (∃ f fd, Callee P w K mg base 2 "first_memory" f fd ["kinds"] (spFirstMem K)) ∧
    (∃ f fd, Callee P w K mg base 2 "told_memory" f fd ["kinds", "memory"] (spToldMem K)) := by
  obtain ⟨f_is_letter, fd_is_letter, F_is_letter, at_is_letter⟩ := d_is_letter
  have c_is_letter := Callee.mk (P := P) (w := w) (base := base) at_is_letter F_is_letter.kp (F_is_letter.binds (ps := ["sign"]) fun _ _ _ _ _ _ us hl => match us, hl with | [_], _ => rfl) (ok_is_letter F_is_letter)
  obtain ⟨f_is_figure, fd_is_figure, F_is_figure, at_is_figure⟩ := d_is_figure
  have c_is_figure := Callee.mk (P := P) (w := w) (base := base) at_is_figure F_is_figure.kp (F_is_figure.binds (ps := ["sign"]) fun _ _ _ _ _ _ us hl => match us, hl with | [_], _ => rfl) (ok_is_figure F_is_figure)
  obtain ⟨f_is_in_word, fd_is_in_word, F_is_in_word, at_is_in_word⟩ := d_is_in_word
  have c_is_in_word := Callee.mk (P := P) (w := w) (base := base) at_is_in_word F_is_in_word.kp (F_is_in_word.binds (ps := ["sign"]) fun _ _ _ _ _ _ us hl => match us, hl with | [_], _ => rfl) (ok_is_in_word F_is_in_word c_is_letter c_is_figure)
  obtain ⟨f_is_name, fd_is_name, F_is_name, at_is_name⟩ := d_is_name
  have c_is_name := Callee.mk (P := P) (w := w) (base := base) at_is_name F_is_name.kp (F_is_name.binds (ps := ["token"]) fun _ _ _ _ _ _ us hl => match us, hl with | [_], _ => rfl) (ok_is_name F_is_name tW c_is_letter)
  obtain ⟨f_glyph, fd_glyph, F_glyph, at_glyph⟩ := d_glyph
  have c_glyph := Callee.mk (P := P) (w := w) (base := base) at_glyph F_glyph.kp (F_glyph.binds (ps := ["byte"]) fun _ _ _ _ _ _ us hl => match us, hl with | [_], _ => rfl) (ok_glyph F_glyph tW)
  obtain ⟨f_spell, fd_spell, F_spell, at_spell⟩ := d_spell
  have c_spell := Callee.mk (P := P) (w := w) (base := base) at_spell F_spell.kp (F_spell.binds (ps := ["row"]) fun _ _ _ _ _ _ us hl => match us, hl with | [_], _ => rfl) (ok_spell F_spell c_glyph)
  obtain ⟨f_skip_blanks, fd_skip_blanks, F_skip_blanks, at_skip_blanks⟩ := d_skip_blanks
  have c_skip_blanks := Callee.mk (P := P) (w := w) (base := base) at_skip_blanks F_skip_blanks.kp (F_skip_blanks.binds (ps := ["text", "start"]) fun _ _ _ _ _ _ us hl => match us, hl with | [_, _], _ => rfl) (ok_skip F_skip_blanks tR.len)
  obtain ⟨f_end_of_word, fd_end_of_word, F_end_of_word, at_end_of_word⟩ := d_end_of_word
  have c_end_of_word := Callee.mk (P := P) (w := w) (base := base) at_end_of_word F_end_of_word.kp (F_end_of_word.binds (ps := ["text", "start"]) fun _ _ _ _ _ _ us hl => match us, hl with | [_, _], _ => rfl) (ok_end_of_word F_end_of_word tR.len c_is_in_word)
  obtain ⟨f_end_of_number, fd_end_of_number, F_end_of_number, at_end_of_number⟩ := d_end_of_number
  have c_end_of_number := Callee.mk (P := P) (w := w) (base := base) at_end_of_number F_end_of_number.kp (F_end_of_number.binds (ps := ["text", "start"]) fun _ _ _ _ _ _ us hl => match us, hl with | [_, _], _ => rfl) (ok_end_of_number F_end_of_number tR.len c_is_figure)
  obtain ⟨f_end_of_token, fd_end_of_token, F_end_of_token, at_end_of_token⟩ := d_end_of_token
  have c_end_of_token := Callee.mk (P := P) (w := w) (base := base) at_end_of_token F_end_of_token.kp (F_end_of_token.binds (ps := ["text", "start"]) fun _ _ _ _ _ _ us hl => match us, hl with | [_, _], _ => rfl) (ok_end_of_token F_end_of_token c_is_letter c_is_figure c_end_of_word c_end_of_number)
  obtain ⟨f_first_member, fd_first_member, F_first_member, at_first_member⟩ := d_first_member
  have c_first_member := Callee.mk (P := P) (w := w) (base := base) at_first_member F_first_member.kp (F_first_member.binds (ps := ["kind"]) fun _ _ _ _ _ _ us hl => match us, hl with | [_], _ => rfl) (ok_first F_first_member)
  obtain ⟨f_is_bounded, fd_is_bounded, F_is_bounded, at_is_bounded⟩ := d_is_bounded
  have c_is_bounded := Callee.mk (P := P) (w := w) (base := base) at_is_bounded F_is_bounded.kp (F_is_bounded.binds (ps := ["token", "lowest", "highest"]) fun _ _ _ _ _ _ us hl => match us, hl with | [_, _, _], _ => rfl) (ok_bounded F_is_bounded tR)
  obtain ⟨f_behind_opening, fd_behind_opening, F_behind_opening, at_behind_opening⟩ := d_behind_opening
  have c_behind_opening := Callee.mk (P := P) (w := w) (base := base) at_behind_opening F_behind_opening.kp (F_behind_opening.binds (ps := ["token"]) fun _ _ _ _ _ _ us hl => match us, hl with | [_], _ => rfl) (ok_behind F_behind_opening tR)
  obtain ⟨f_Part, fd_Part, F_Part, M_Part⟩ := i_Part
  have m_Part := Maker.mk (P := P) (w := w) (base := base) g_Part ⟨k_Part.makes, M_Part.at_, M_Part.fn, k_Part.kp⟩ (F_Part.binds (ps := ["self", "kind", "operands"]) fun _ _ _ _ _ _ us hl => match us, hl with | [_, _, _], _ => rfl) (ok_part F_Part kP)
  obtain ⟨f_Rules, fd_Rules, F_Rules, M_Rules⟩ := i_Rules
  have m_Rules := Maker.mk (P := P) (w := w) (base := base) g_Rules ⟨k_Rules.makes, M_Rules.at_, M_Rules.fn, k_Rules.kp⟩ (F_Rules.binds (ps := ["self", "parts", "watches", "kinds"]) fun _ _ _ _ _ _ us hl => match us, hl with | [_, _, _, _], _ => rfl) (ok_rules F_Rules kU)
  obtain ⟨f_Reading, fd_Reading, F_Reading, M_Reading⟩ := i_Reading
  have m_Reading := Maker.mk (P := P) (w := w) (base := base) g_Reading ⟨k_Reading.makes, M_Reading.at_, M_Reading.fn, k_Reading.kp⟩ (F_Reading.binds (ps := ["self", "answer", "rules"]) fun _ _ _ _ _ _ us hl => match us, hl with | [_, _, _], _ => rfl) (ok_reading F_Reading kG)
  obtain ⟨f_Reader, fd_Reader, F_Reader, M_Reader⟩ := i_Reader
  have m_Reader := Maker.mk (P := P) (w := w) (base := base) g_Reader ⟨k_Reader.makes, M_Reader.at_, M_Reader.fn, k_Reader.kp⟩ (F_Reader.binds (ps := ["self"]) fun _ _ _ _ _ _ us hl => match us, hl with | [_], _ => rfl) (ok_rinit (CP := CP) F_Reader tR kR)
  obtain ⟨f_put, fd_put, F_put, M_put⟩ := x_put
  have m_put := Method.mk (P := P) (w := w) (mg := mg) (base := base) M_put (F_put.binds (ps := ["self", "part"]) fun _ _ _ _ _ _ us hl => match us, hl with | [_, _], _ => rfl) (ok_put (CP := CP) F_put tR kR)
  obtain ⟨f_begin, fd_begin, F_begin, M_begin⟩ := x_begin
  have m_begin := Method.mk (P := P) (w := w) (mg := mg) (base := base) M_begin (F_begin.binds (ps := ["self", "part"]) fun _ _ _ _ _ _ us hl => match us, hl with | [_, _], _ => rfl) (ok_begin F_begin tR kR kP)
  obtain ⟨f_end_bracket, fd_end_bracket, F_end_bracket, M_end_bracket⟩ := x_end_bracket
  have m_end_bracket := Method.mk (P := P) (w := w) (mg := mg) (base := base) M_end_bracket (F_end_bracket.binds (ps := ["self", "around"]) fun _ _ _ _ _ _ us hl => match us, hl with | [_, _], _ => rfl) (ok_end_bracket (CP := CP) F_end_bracket tR kR)
  obtain ⟨f_end_watch, fd_end_watch, F_end_watch, M_end_watch⟩ := x_end_watch
  have m_end_watch := Method.mk (P := P) (w := w) (mg := mg) (base := base) M_end_watch (F_end_watch.binds (ps := ["self", "around"]) fun _ _ _ _ _ _ us hl => match us, hl with | [_, _], _ => rfl) (ok_end_watch (CP := CP) F_end_watch tR kR)
  obtain ⟨f_end_stronger, fd_end_stronger, F_end_stronger, M_end_stronger⟩ := x_end_stronger
  have m_end_stronger := Method.mk (P := P) (w := w) (mg := mg) (base := base) M_end_stronger (F_end_stronger.binds (ps := ["self", "strength"]) fun _ _ _ _ _ _ us hl => match us, hl with | [_, _], _ => rfl) (ok_end_stronger F_end_stronger tR tS kR kP)
  obtain ⟨f_join_operands, fd_join_operands, F_join_operands, M_join_operands⟩ := x_join_operands
  have m_join_operands := Method.mk (P := P) (w := w) (mg := mg) (base := base) M_join_operands (F_join_operands.binds (ps := ["self", "token", "around"]) fun _ _ _ _ _ _ us hl => match us, hl with | [_, _, _], _ => rfl) (ok_join F_join_operands tR kR kP m_Part m_begin)
  obtain ⟨f_take_joint, fd_take_joint, F_take_joint, M_take_joint⟩ := x_take_joint
  have m_take_joint := Method.mk (P := P) (w := w) (mg := mg) (base := base) M_take_joint (F_take_joint.binds (ps := ["self", "token"]) fun _ _ _ _ _ _ us hl => match us, hl with | [_, _], _ => rfl) (ok_take_joint F_take_joint tR tS kR kP m_end_stronger m_end_bracket m_end_watch m_join_operands)
  obtain ⟨f_take_colon, fd_take_colon, F_take_colon, M_take_colon⟩ := x_take_colon
  have m_take_colon := Method.mk (P := P) (w := w) (mg := mg) (base := base) M_take_colon (F_take_colon.binds (ps := ["self", "token"]) fun _ _ _ _ _ _ us hl => match us, hl with | [_, _], _ => rfl) (ok_take_colon (CP := CP) F_take_colon tR kR)
  obtain ⟨f_take_watch, fd_take_watch, F_take_watch, M_take_watch⟩ := x_take_watch
  have m_take_watch := Method.mk (P := P) (w := w) (mg := mg) (base := base) M_take_watch (F_take_watch.binds (ps := ["self", "token"]) fun _ _ _ _ _ _ us hl => match us, hl with | [_, _], _ => rfl) (ok_take_watch (CP := CP) F_take_watch tR kR c_is_name)
  obtain ⟨f_take_needed, fd_take_needed, F_take_needed, M_take_needed⟩ := x_take_needed
  have m_take_needed := Method.mk (P := P) (w := w) (mg := mg) (base := base) M_take_needed (F_take_needed.binds (ps := ["self", "token"]) fun _ _ _ _ _ _ us hl => match us, hl with | [_, _], _ => rfl) (ok_take_needed F_take_needed tR kR kP c_is_figure c_is_bounded)
  obtain ⟨f_take_span, fd_take_span, F_take_span, M_take_span⟩ := x_take_span
  have m_take_span := Method.mk (P := P) (w := w) (mg := mg) (base := base) M_take_span (F_take_span.binds (ps := ["self", "token"]) fun _ _ _ _ _ _ us hl => match us, hl with | [_, _], _ => rfl) (ok_take_span F_take_span tR kR kP c_is_figure c_is_bounded)
  obtain ⟨f_take_operand, fd_take_operand, F_take_operand, M_take_operand⟩ := x_take_operand
  have m_take_operand := Method.mk (P := P) (w := w) (mg := mg) (base := base) M_take_operand (F_take_operand.binds (ps := ["self", "token"]) fun _ _ _ _ _ _ us hl => match us, hl with | [_, _], _ => rfl) (ok_take_operand F_take_operand tR kR kP c_behind_opening m_begin m_put c_is_name m_Part)
  obtain ⟨f_take, fd_take, F_take, M_take⟩ := x_take
  have m_take := Method.mk (P := P) (w := w) (mg := mg) (base := base) M_take (F_take.binds (ps := ["self", "token"]) fun _ _ _ _ _ _ us hl => match us, hl with | [_, _], _ => rfl) (ok_take F_take tR kR m_take_watch m_take_colon m_take_needed m_take_span m_take_joint m_take_operand)
  obtain ⟨f_is_whole, fd_is_whole, F_is_whole, M_is_whole⟩ := x_is_whole
  have m_is_whole := Method.mk (P := P) (w := w) (mg := mg) (base := base) M_is_whole (F_is_whole.binds (ps := ["self"]) fun _ _ _ _ _ _ us hl => match us, hl with | [_], _ => rfl) (ok_is_whole (CP := CP) F_is_whole tR kR)
  obtain ⟨f_is_too_large, fd_is_too_large, F_is_too_large, M_is_too_large⟩ := x_is_too_large
  have m_is_too_large := Method.mk (P := P) (w := w) (mg := mg) (base := base) M_is_too_large (F_is_too_large.binds (ps := ["self"]) fun _ _ _ _ _ _ us hl => match us, hl with | [_], _ => rfl) (ok_is_too_large (CP := CP) F_is_too_large tR kR)
  obtain ⟨f_fault_of_token, fd_fault_of_token, F_fault_of_token, at_fault_of_token⟩ := d_fault_of_token
  have c_fault_of_token := Callee.mk (P := P) (w := w) (base := base) at_fault_of_token F_fault_of_token.kp (F_fault_of_token.binds (ps := ["reader", "text", "start", "end"]) fun _ _ _ _ _ _ us hl => match us, hl with | [_, _, _, _], _ => rfl) (ok_fault_of_token F_fault_of_token tR tF kR c_is_letter c_is_figure m_take)
  obtain ⟨f_first_fault, fd_first_fault, F_first_fault, at_first_fault⟩ := d_first_fault
  have c_first_fault := Callee.mk (P := P) (w := w) (base := base) at_first_fault F_first_fault.kp (F_first_fault.binds (ps := ["reader", "text"]) fun _ _ _ _ _ _ us hl => match us, hl with | [_, _], _ => rfl) (ok_first_fault F_first_fault tR tF kR c_skip_blanks c_end_of_token c_fault_of_token m_is_whole m_is_too_large)
  obtain ⟨f_read, fd_read, F_read, at_read⟩ := d_read
  have c_read := Callee.mk (P := P) (w := w) (base := base) at_read F_read.kp (F_read.binds (ps := ["row"]) fun _ _ _ _ _ _ us hl => match us, hl with | [_], _ => rfl) (ok_read F_read tR tQ kR m_Reading m_Reader c_spell c_first_fault m_Rules)
  obtain ⟨f_is_near, fd_is_near, F_is_near, at_is_near⟩ := d_is_near
  have c_is_near := Callee.mk (P := P) (w := w) (base := base) at_is_near F_is_near.kp (F_is_near.binds (ps := ["part", "moment", "past"]) fun _ _ _ _ _ _ us hl => match us, hl with | [_, _, _], _ => rfl) (ok_near F_is_near kP)
  obtain ⟨f_holds_by_itself, fd_holds_by_itself, F_holds_by_itself, at_holds_by_itself⟩ := d_holds_by_itself
  have c_holds_by_itself := Callee.mk (P := P) (w := w) (base := base) at_holds_by_itself F_holds_by_itself.kp (F_holds_by_itself.binds (ps := ["part", "values", "names"]) fun _ _ _ _ _ _ us hl => match us, hl with | [_, _, _], _ => rfl) (ok_itself F_holds_by_itself kP tH)
  obtain ⟨f_next_member, fd_next_member, F_next_member, at_next_member⟩ := d_next_member
  have c_next_member := Callee.mk (P := P) (w := w) (base := base) at_next_member F_next_member.kp (F_next_member.binds (ps := ["part", "values", "member", "moment"]) fun _ _ _ _ _ _ us hl => match us, hl with | [_, _, _, _], _ => rfl) (ok_next F_next_member kP)
  obtain ⟨f_number_of_bits, fd_number_of_bits, F_number_of_bits, at_number_of_bits⟩ := d_number_of_bits
  have c_number_of_bits := Callee.mk (P := P) (w := w) (base := base) at_number_of_bits F_number_of_bits.kp (F_number_of_bits.binds (ps := ["bits"]) fun _ _ _ _ _ _ us hl => match us, hl with | [_], _ => rfl) (ok_bits F_number_of_bits)
  obtain ⟨f_holds_by_memory, fd_holds_by_memory, F_holds_by_memory, at_holds_by_memory⟩ := d_holds_by_memory
  have c_holds_by_memory := Callee.mk (P := P) (w := w) (base := base) at_holds_by_memory F_holds_by_memory.kp (F_holds_by_memory.binds (ps := ["part", "values", "memory", "moment"]) fun _ _ _ _ _ _ us hl => match us, hl with | [_, _, _, _], _ => rfl) (ok_by_memory F_holds_by_memory kP tR.len c_next_member c_is_near)
  obtain ⟨f_follow, fd_follow, F_follow, at_follow⟩ := d_follow
  have c_follow := Callee.mk (P := P) (w := w) (base := base) at_follow F_follow.kp (F_follow.binds (ps := ["rules", "memory", "moment", "names"]) fun _ _ _ _ _ _ us hl => match us, hl with | [_, _, _, _], _ => rfl) (ok_follow F_follow kP kU c_holds_by_itself c_holds_by_memory c_number_of_bits)
  obtain ⟨f_spell_names, fd_spell_names, F_spell_names, at_spell_names⟩ := d_spell_names
  have c_spell_names := Callee.mk (P := P) (w := w) (base := base) at_spell_names F_spell_names.kp (F_spell_names.binds (ps := ["names"]) fun _ _ _ _ _ _ us hl => match us, hl with | [_], _ => rfl) (ok_names F_spell_names c_spell)
  obtain ⟨f_first_memory, fd_first_memory, F_first_memory, at_first_memory⟩ := d_first_memory
  have c_first_memory := Callee.mk (P := P) (w := w) (base := base) at_first_memory F_first_memory.kp (F_first_memory.binds (ps := ["kinds"]) fun _ _ _ _ _ _ us hl => match us, hl with | [_], _ => rfl) (ok_first_memory F_first_memory c_first_member)
  obtain ⟨f_told_member, fd_told_member, F_told_member, at_told_member⟩ := d_told_member
  have c_told_member := Callee.mk (P := P) (w := w) (base := base) at_told_member F_told_member.kp (F_told_member.binds (ps := ["kind", "member"]) fun _ _ _ _ _ _ us hl => match us, hl with | [_, _], _ => rfl) (ok_told_member F_told_member tR.len n_list)
  obtain ⟨f_told_memory, fd_told_memory, F_told_memory, at_told_memory⟩ := d_told_memory
  have c_told_memory := Callee.mk (P := P) (w := w) (base := base) at_told_memory F_told_memory.kp (F_told_memory.binds (ps := ["kinds", "memory"]) fun _ _ _ _ _ _ us hl => match us, hl with | [_, _], _ => rfl) (ok_told_memory F_told_memory tR.len n_zip c_told_member)
  obtain ⟨f_row_at, fd_row_at, F_row_at, at_row_at⟩ := d_row_at
  have c_row_at := Callee.mk (P := P) (w := w) (base := base) at_row_at F_row_at.kp (F_row_at.binds (ps := ["calls", "place"]) fun _ _ _ _ _ _ us hl => match us, hl with | [_, _], _ => rfl) (ok_row_at F_row_at)
  obtain ⟨f_rows_at, fd_rows_at, F_rows_at, at_rows_at⟩ := d_rows_at
  have c_rows_at := Callee.mk (P := P) (w := w) (base := base) at_rows_at F_rows_at.kp (F_rows_at.binds (ps := ["calls", "place"]) fun _ _ _ _ _ _ us hl => match us, hl with | [_, _], _ => rfl) (ok_rows_at F_rows_at tR.len c_row_at)
  exact ⟨⟨_, _, c_read⟩, ⟨_, _, c_follow⟩, ⟨_, _, c_spell_names⟩, ⟨_, _, c_row_at⟩, ⟨_, _, c_rows_at⟩, ⟨_, _, c_first_memory⟩, ⟨_, _, c_told_memory⟩⟩
end Hw

set_option maxHeartbeats 4000000
namespace Hw
open PySem L2
open Pm (PM R Op Ex)
open Pw (Mem)
def wK : List Str := ["rules", "memory", "entries", "last", "answer"]
theorem wKnd : wK.Nodup := by decide +kernel
/-- a watcher's rules and what it keeps; z: a place that is none of its own -/
structure WSome (K : PySem.W.Frag) (CW CU CP z : Addr) (H : Hp) (y : Addr) (W : Pw.Watcher) (m dx : Addr) (u : UA) (lt : Int) (mvs : List V) : Prop where
  ins : H y = some (.ins CW dx (wK.zip [.ref u.a, .ref m, .int W.entries, .int lt, .int W.held]))
  rules : RulesAt K CU CP H u (Pm.stateOf W.watches).parts (Pm.stateOf W.watches).watches (Pw.freshOf W.watches)
  yu : y ∉ u.foot
  mu : m ∉ u.foot
  zu : z ∉ u.foot
  mem : H m = some (.lst mvs)
  aM : A2 (MemV K H) mvs W.memory
  ok : Pm.WOk W
  lt : ∀ t, W.last = some t → lt = t
def WAt (K : PySem.W.Frag) (CW CU CP z : Addr) (H : Hp) (y : Addr) (st : Pw.State) (m : Addr) : Prop := y ≠ m ∧ z ≠ y ∧ z ≠ m ∧ match st with
  | none => ∃ dx mvs, H y = some (.ins CW dx (wK.zip [.non, .ref m, .int 0, .int 0, .int 0])) ∧ H m = some (.lst mvs)
  | some W => ∃ dx u lt mvs, WSome K CW CU CP z H y W m dx u lt mvs
theorem rules_off {K : PySem.W.Frag} {CU CP a : Addr} {H : Hp} {u : UA} {ps : List PM} {wt : List Int} {bg : List Mem} {o : HO} (h : RulesAt K CU CP H u ps wt bg) (n : a ∉ u.foot) (m : H a = none ∨ Mut (H a)) : RulesAt K CU CP (upd H a o) u ps wt bg := by
  have e : ∀ b, b ∈ u.foot → b ≠ a := fun b hb z => n (z ▸ hb)
  exact ⟨by rw [upd_ne (e _ (by simp [UA.foot]))]; exact h.ins, by rw [upd_ne (e _ (by simp [UA.foot]))]; exact h.parts, by rw [upd_ne (e _ (by simp [UA.foot]))]; exact h.watches, by rw [upd_ne (e _ (by simp [UA.foot]))]; exact h.beg,
    parts_off h.aP (fun z => n (by simp only [UA.foot, List.mem_cons]; exact .inr (.inr (.inr (.inr z))))), h.aB.imp fun _ _ _ q => q.off m⟩
/-- what stands but for the place y: the rules, if y is none of theirs -/
theorem rules_frame {K : PySem.W.Frag} {CU CP y : Addr} {H H' : Hp} {u : UA} {ps : List PM} {wt : List Int} {bg : List Mem} (r : RulesAt K CU CP H u ps wt bg) (o : Off y H H') (n : y ∉ u.foot) : RulesAt K CU CP H' u ps wt bg := by
  have e : ∀ b, b ∈ u.foot → b ≠ y := fun b hb q => n (q ▸ hb)
  exact ⟨o _ _ r.ins (e _ (by simp [UA.foot])), o _ _ r.parts (e _ (by simp [UA.foot])), o _ _ r.watches (e _ (by simp [UA.foot])), o _ _ r.beg (e _ (by simp [UA.foot])), r.aP.imp fun q p hq hp => o.part (foot_part n hq) hp, r.aB.imp fun _ _ _ q => q⟩
/-- the place z may be changed -/
theorem WAt.at_z {K : PySem.W.Frag} {CW CU CP z : Addr} {H : Hp} {y : Addr} {st : Pw.State} {m : Addr} {o : HO} (h : WAt K CW CU CP z H y st m) (hz : Mut (H z)) : WAt K CW CU CP z (upd H z o) y st m := by
  obtain ⟨h1, h2, h3, h4⟩ := h
  refine ⟨h1, h2, h3, ?_⟩
  cases st with
  | none =>
    obtain ⟨dx, mvs, a, b⟩ := h4
    exact ⟨dx, mvs, by rw [upd_ne (Ne.symm h2)]; exact a, by rw [upd_ne (Ne.symm h3)]; exact b⟩
  | some W =>
    obtain ⟨dx, u, lt, mvs, w⟩ := h4
    exact ⟨dx, u, lt, mvs, ⟨by rw [upd_ne (Ne.symm h2)]; exact w.ins, rules_off w.rules w.zu (.inr hz), w.yu, w.mu, w.zu, by rw [upd_ne (Ne.symm h3)]; exact w.mem, mems_off w.aM (.inr hz), w.ok, w.lt⟩⟩
theorem WAt.mono {K : PySem.W.Frag} {CW CU CP z : Addr} {H H' : Hp} {y : Addr} {st : Pw.State} {m : Addr} (h : WAt K CW CU CP z H y st m) (s : Same H H') : WAt K CW CU CP z H' y st m := by
  obtain ⟨h1, h2, h3, h4⟩ := h
  refine ⟨h1, h2, h3, ?_⟩
  cases st with
  | none =>
    obtain ⟨dx, mvs, a, b⟩ := h4
    exact ⟨dx, mvs, s _ _ a, s _ _ b⟩
  | some W =>
    obtain ⟨dx, u, lt, mvs, w⟩ := h4
    exact ⟨dx, u, lt, mvs, ⟨s _ _ w.ins, w.rules.mono s, w.yu, w.mu, w.zu, s _ _ w.mem, w.aM.imp fun _ _ _ q => q.same s, w.ok, w.lt⟩⟩
def refN (st : Pw.State) (t : Int) : Int := match st with
  | none => -3
  | some W => (Pw.refused W t).getD 0
def spRefusal (K : PySem.W.Frag) (CW CU CP : Addr) : Sp := fun vs H Q _ => ∃ (y z m : Addr) (st : Pw.State) (t : Int), vs = [.ref y, .int t] ∧ WAt K CW CU CP z H y st m ∧ Q (.int (refN st t)) H
/-- an answer: numbers of a new list; the watcher as it is then -/
def Ans (K : PySem.W.Frag) (CW CU CP z : Addr) (H : Hp) (y m : Addr) (st : Pw.State) (ns : List Int) (Q : VK) : Prop := ∀ H' l m', (∀ b o, H b = some o → b ≠ y → b ≠ m → H' b = some o) → WAt K CW CU CP z H' y st m' → (m' = m ∨ H m' = none) →
  H l = none → H' l = some (.lst (ns.map V.int)) → Q (.ref l) H'
structure VTxt (mg : Str → Option Value) : Prop where
  bad : CI mg "BAD_MOMENT" (-1)
  noRules : CI mg "NO_RULES" (-3)
  early : CI mg "TOO_EARLY" (-5)
  many : CI mg "TOO_MANY" (-7)
  noRef : CI mg "NO_REFUSAL" 0
  done : CI mg "DONE" 0
  far : CI mg "FARTHEST_MOMENT" 9007199254740992
  most : CI mg "MOST_ENTRIES" 1000000
section
variable {P : Program} {w : World} {K : PySem.W.Frag} {mg : Str → Option Value} {base : Heap} {CW CU CP CG : Addr}
theorem sc_ref : FnScope ["self", "moment"] ["self", "moment"] (defScope s_Watcher_refusal_at) := ⟨rfl, rfl, rfl, by decide +kernel, rfl, by decide +kernel, by decide +kernel⟩
theorem ok_refusal {f : Addr} {fd : FuncData} (F : Fun K "refusal_at" "Watcher.refusal_at" s_Watcher_refusal_at f fd) (TV : VTxt mg) (TW : ClsT K CW wK) : FnOk P w K mg base CX0 1 f fd ["self", "moment"] (spRefusal K CW CU CP) := by
  refine F.ok sc_ref (fun vs H Q E h => ?_) (fun cdv A outer s H vs Q E hr h => ?_)
  · obtain ⟨_, _, _, _, _, rfl, _⟩ := h
    rfl
  obtain ⟨y, z, m, st, t, rfl, ⟨_, _, _, h4⟩, k⟩ := h
  refine ⟨_, pss_cons (ps_if (pt_cmpR op_isN (pe_fld (pv 0) rfl) pe_non (nomark _)) (pss_one (ps_ret (pe_ci rfl TV.noRules))) pss_nil)
    (C8.pss_cut (ps_if (PW.pt (pw_or (pt_cmpR op_lt (pv 1) (pe_un un_neg (pe_ci rfl TV.far)) (nomark _)) (pw_or1 (pt_cmpR op_gt (pv 1) (pe_ci rfl TV.far) (nomark _))))) (pss_one (ps_ret (pe_ci rfl TV.bad))) pss_nil)
    (C8.pss_cut (ps_if (PW.pt (pw_and (pt_cmpR op_gt (pe_fld (pv 0) rfl) pe_int (nomark _)) (pw_and1 (pt_cmpR op_lt (pv 1) (pe_fld (pv 0) rfl) (nomark _))))) (pss_one (ps_ret (pe_ci rfl TV.early))) pss_nil)
    (pss_cons (ps_if (pt_cmpR op_ge (pe_fld (pv 0) rfl) (pe_ci rfl TV.most) (nomark _)) (pss_one (ps_ret (pe_ci rfl TV.many))) pss_nil)
    (pss_one (ps_ret (pe_ci rfl TV.noRef)))))), ?_⟩
  cases st with
  | none =>
    obtain ⟨dx, mvs, hy, _⟩ := h4
    refine ⟨_, rfl, y, CW, dx, _, _, rfl, hy, TW.cl, TW.no 0 _ rfl, lk_zip wKnd (i := 0) rfl, rfl, _, rfl, ?_⟩
    refine ifT (by rfl) ?_
    exact k
  | some W =>
    obtain ⟨dx, u, lt, mvs, ws⟩ := h4
    refine ⟨_, rfl, y, CW, dx, _, _, rfl, ws.ins, TW.cl, TW.no 0 _ rfl, lk_zip wKnd (i := 0) rfl, rfl, _, rfl, ?_⟩
    refine ifF (by rfl) ?_
    have k : Q (.int ((Pw.refused W t).getD 0)) H := k
    unfold Pw.refused at k
    have e53 : Pw.SECS = 9007199254740992 := by decide
    rw [e53] at k
    refine ⟨fun σ' H' => σ' = [some (.ref y), some (.int t)] ∧ H' = H ∧ ¬ (t < -9007199254740992 ∨ 9007199254740992 < t), ?_, ?_⟩
    · refine ⟨_, rfl, _, rfl, _, _, rfl, rfl, _, rfl, ?_⟩
      by_cases c1 : t < -9007199254740992
      · refine ifT (decide_eq_true c1) ?_
        rw [if_pos (.inl c1)] at k
        exact k
      · refine ifF (decide_eq_false c1) ?_
        refine ⟨_, rfl, _, _, rfl, rfl, _, rfl, ?_⟩
        by_cases c2 : 9007199254740992 < t
        · refine ifT (decide_eq_true c2) ?_
          rw [if_pos (.inr c2)] at k
          exact k
        · refine ifF (decide_eq_false c2) ?_
          exact ⟨rfl, rfl, fun q => q.elim c1 c2⟩
    rintro σ' H' ⟨rfl, rfl, n1⟩
    rw [if_neg n1] at k
    refine ⟨fun σ' H'' => σ' = [some (.ref y), some (.int t)] ∧ H'' = H' ∧ ¬ (Pw.mayCome W t = false), ?_, ?_⟩
    · refine ⟨_, rfl, y, CW, dx, _, _, rfl, ws.ins, TW.cl, TW.no 2 _ rfl, lk_zip wKnd (i := 2) rfl, _, _, rfl, rfl, _, rfl, ?_⟩
      by_cases c1 : W.entries = 0
      · refine ifF (decide_eq_false (by omega)) ?_
        refine ⟨rfl, rfl, ?_⟩
        have hl := ws.ok.ent.mpr c1
        unfold Pw.mayCome
        rw [hl]
        exact fun q => Bool.noConfusion q
      · refine ifT (decide_eq_true (by omega)) ?_
        cases hl : W.last with
        | none => exact absurd (ws.ok.ent.mp hl) c1
        | some v =>
          have := ws.lt v hl
          subst this
          refine ⟨_, rfl, _, rfl, y, CW, dx, _, _, rfl, ws.ins, TW.cl, TW.no 3 _ rfl, lk_zip wKnd (i := 3) rfl, _, _, rfl, rfl, _, rfl, ?_⟩
          by_cases c2 : t < lt
          · refine ifT (decide_eq_true c2) ?_
            have hm : Pw.mayCome W t = false := by unfold Pw.mayCome; rw [hl]; exact decide_eq_false (by omega)
            rw [if_pos hm] at k
            exact k
          · refine ifF (decide_eq_false c2) ?_
            refine ⟨rfl, rfl, ?_⟩
            unfold Pw.mayCome
            rw [hl]
            simp
            omega
    rintro σ' H'' ⟨rfl, rfl, n2⟩
    rw [if_neg n2] at k
    refine ⟨_, rfl, y, CW, dx, _, _, rfl, ws.ins, TW.cl, TW.no 2 _ rfl, lk_zip wKnd (i := 2) rfl, _, _, rfl, rfl, _, rfl, ?_⟩
    by_cases c3 : Pw.ENTRIES ≤ W.entries
    · rw [if_pos c3] at k
      unfold Pw.ENTRIES at c3
      refine ifT (decide_eq_true (by omega)) ?_
      exact k
    · rw [if_neg c3] at k
      unfold Pw.ENTRIES at c3
      refine ifF (decide_eq_false (by omega)) ?_
      exact k
end
end Hw

set_option maxHeartbeats 4000000
namespace Hw
open PySem L2
open Pm (PM R Op Ex)
open Pw (Mem)
def spWInit (C : Addr) : Sp := fun vs H Q _ => ∃ (p dx : Addr), vs = [.ref p] ∧ H p = some (.ins C dx []) ∧ ∀ H' m, (∀ b o, H b = some o → b ≠ p → H' b = some o) → H m = none → H' p = some (.ins C dx (wK.zip [.non, .ref m, .int 0, .int 0, .int 0])) → H' m = some (.lst []) → Q .non H'
def spJudge (K : PySem.W.Frag) : Sp := fun vs H Q _ => ∃ (y a : Addr) (bs : List UInt8), vs = [.ref y, .ref a] ∧ SqL K H a (bv bs) ∧ bs.length ≤ 16000 ∧ ∀ H' l, Same H H' → H l = none → H' l = some (.lst ((readOut bs).1.map V.int)) → Q (.ref l) H'
def spLoad (K : PySem.W.Frag) (CW CU CP : Addr) : Sp := fun vs H Q _ => ∃ (y a z m : Addr) (st : Pw.State) (bs : List UInt8), vs = [.ref y, .ref a] ∧ WAt K CW CU CP z H y st m ∧ (∃ oz, H z = some oz) ∧ SqL K H a (bv bs) ∧ bs.length ≤ 16000 ∧
  Ans K CW CU CP z H y m (match (readOut bs).2 with | none => st | some ws => some (Pw.fresh ws)) (readOut bs).1 Q
def spEntry (K : PySem.W.Frag) (CW CU CP : Addr) : Sp := fun vs H Q _ => ∃ (y a z m : Addr) (st : Pw.State) (t : Int) (rs : List V) (ns : List (List UInt8)), vs = [.ref y, .int t, .ref a] ∧ WAt K CW CU CP z H y st m ∧ SqL K H a rs ∧ RowsR K H rs (ns.map fun n => n.map fun b => (b.toNat : Int)) ∧ ns.length ≤ 16000 ∧ (∀ n ∈ ns, n.length ≤ 16000) ∧
  Ans K CW CU CP z H y m (Pw.step st (.entry t ns)).1 [(Pw.step st (.entry t ns)).2.num] Q
def spWait (K : PySem.W.Frag) (CW CU CP : Addr) : Sp := fun vs H Q _ => ∃ (y a z m : Addr) (st : Pw.State) (t : Int) (rs : List V) (ns : List (List UInt8)), vs = [.ref y, .int t, .ref a] ∧ WAt K CW CU CP z H y st m ∧ SqL K H a rs ∧ RowsR K H rs (ns.map fun n => n.map fun b => (b.toNat : Int)) ∧ ns.length ≤ 16000 ∧ (∀ n ∈ ns, n.length ≤ 16000) ∧
  Ans K CW CU CP z H y m st [(Pw.step st (.wait t ns)).2.num] Q
theorem put_new5 (v0 v1 v2 v3 v4 : V) : putF "answer" v4 (putF "last" v3 (putF "entries" v2 (putF "memory" v1 (putF "rules" v0 [])))) = wK.zip [v0, v1, v2, v3, v4] := by
  rw [put_first, put_snoc _ _ _ _ (by decide +kernel) rfl, put_snoc _ _ _ _ (by decide +kernel) rfl, put_snoc _ _ _ _ (by decide +kernel) rfl, put_snoc _ _ _ _ (by decide +kernel) rfl]
  rfl
theorem refN_zero {W : Pw.Watcher} {t : Int} (h : (Pw.refused W t).getD 0 = 0) : Pw.refused W t = none := by
  unfold Pw.refused at h ⊢
  split
  · rename_i c; rw [if_pos c] at h; cases h
  · rename_i c
    rw [if_neg c] at h
    split
    · rename_i c2; rw [if_pos c2] at h; cases h
    · rename_i c2
      rw [if_neg c2] at h
      split
      · rename_i c3; rw [if_pos c3] at h; cases h
      · rfl
theorem refN_some {W : Pw.Watcher} {t : Int} (h : ¬ (Pw.refused W t).getD 0 = 0) : Pw.refused W t = some ((Pw.refused W t).getD 0) := by
  cases e : Pw.refused W t with
  | none => rw [e] at h; exact absurd rfl h
  | some z => rfl
theorem rules_foot {K : PySem.W.Frag} {CU CP : Addr} {H : Hp} {u : UA} {ps : List PM} {wt : List Int} {bg : List Mem} (h : RulesAt K CU CP H u ps wt bg) : ∀ a ∈ u.foot, ∃ o, H a = some o := by
  have key : ∀ (qs : List PA) (ps : List PM), A2 (PartAt CP H) qs ps → ∀ a ∈ qs.flatMap paA, ∃ o, H a = some o := by
    intro qs
    induction qs with
    | nil => intro ps _ a ha; cases ha
    | cons q qs ih =>
      intro ps hp a ha
      cases ps with
      | nil => exact (hp : False).elim
      | cons p ps =>
        rw [List.flatMap_cons] at ha
        rcases List.mem_append.mp ha with z | z
        · simp only [paA, List.mem_cons, List.not_mem_nil, or_false] at z
          rcases z with rfl | rfl
          · exact ⟨_, hp.1.ins⟩
          · exact ⟨_, hp.1.ops⟩
        · exact ih ps hp.2 a z
  intro a ha
  simp only [UA.foot, List.mem_cons] at ha
  rcases ha with rfl | rfl | rfl | rfl | z
  · exact ⟨_, h.ins⟩
  · exact ⟨_, h.parts⟩
  · exact ⟨_, h.watches⟩
  · exact ⟨_, h.beg⟩
  · exact key _ _ h.aP a z
theorem readOut_ok {bs : List UInt8} {ws : Pw.Watches} (h : (readOut bs).2 = some ws) : Pw.read bs = .ok ws := by
  unfold readOut at h
  split at h
  · cases h
  · cases e : Pw.read bs with
    | error x => rw [e] at h; cases h
    | ok w => rw [e] at h; cases h; rfl
section
variable {P : Program} {w : World} {K : PySem.W.Frag} {mg : Str → Option Value} {base : Heap} {CW CU CP CG : Addr}
theorem sc_winit : FnScope ["self"] ["self"] (defScope s_Watcher_init) := ⟨rfl, rfl, rfl, by decide +kernel, rfl, by decide +kernel, by decide +kernel⟩
theorem ok_winit {f : Addr} {fd : FuncData} (F : Fun K "__init__" "Watcher.__init__" s_Watcher_init f fd) (TW : ClsT K CW wK) : FnOk P w K mg base CX0 1 f fd ["self"] (spWInit CW) := by
  refine F.ok sc_winit (fun vs H Q E h => ?_) (fun cdv A outer s H vs Q E hr h => ?_)
  · obtain ⟨_, _, rfl, _⟩ := h
    rfl
  obtain ⟨p, dx, rfl, hp, k⟩ := h
  refine ⟨_, pss_cons (ps_fld (pv 0) pe_non rfl) (pss_cons (ps_fld (pv 0) (pe_lst pa_nil) rfl) (pss_cons (ps_fld (pv 0) pe_int rfl) (pss_cons (ps_fld (pv 0) pe_int rfl) (pss_one (ps_fld (pv 0) pe_int rfl))))), ?_⟩
  refine ⟨_, rfl, p, CW, dx, [], rfl, hp, TW.cl, TW.no 0 _ rfl, (by show 0 < 1000; decide), ?_⟩
  refine ⟨Nat.zero_le _, fun m hm => ?_⟩
  obtain ⟨n1, m1⟩ := fresh_upd hm
  refine ⟨_, rfl, p, CW, dx, _, rfl, by rw [upd_ne n1.symm, upd_same], TW.cl, TW.no 1 _ rfl, (by show 1 < 1000; decide), ?_⟩
  refine ⟨_, rfl, p, CW, dx, _, rfl, upd_same, TW.cl, TW.no 2 _ rfl, (Nat.lt_of_lt_of_le (lt_put (lt_put (n := 1) (by decide))) (by decide)), ?_⟩
  refine ⟨_, rfl, p, CW, dx, _, rfl, upd_same, TW.cl, TW.no 3 _ rfl, (Nat.lt_of_lt_of_le (lt_put (lt_put (lt_put (n := 1) (by decide)))) (by decide)), ?_⟩
  refine ⟨_, rfl, p, CW, dx, _, rfl, upd_same, TW.cl, TW.no 4 _ rfl, (Nat.lt_of_lt_of_le (lt_put (lt_put (lt_put (lt_put (n := 1) (by decide))))) (by decide)), ?_⟩
  rw [upd_upd, upd_upd, upd_upd, put_new5]
  refine k _ m (fun b o hb hn => ?_) m1 upd_same (by rw [upd_ne n1, upd_same])
  rw [upd_ne hn, upd_ne (ne_of_none hb m1), upd_ne hn]
  exact hb
theorem sc_judge : FnScope ["self", "row"] ["self", "row"] (defScope s_Watcher_judge) := ⟨rfl, rfl, rfl, by decide +kernel, rfl, by decide +kernel, by decide +kernel⟩
theorem ok_judge {f f1 : Addr} {fd fd1 : FuncData} (F : Fun K "judge" "Watcher.judge" s_Watcher_judge f fd) (TG : ClsT K CG gK) (C1 : Callee P w K mg base 8 "read" f1 fd1 ["row"] (spRead K CG CU CP)) : FnOk P w K mg base CX0 9 f fd ["self", "row"] (spJudge K) := by
  refine F.ok sc_judge (fun vs H Q E h => ?_) (fun cdv A outer s H vs Q E hr h => ?_)
  · obtain ⟨_, _, _, rfl, _⟩ := h
    rfl
  obtain ⟨y, a, bs, rfl, hS, hl, k⟩ := h
  refine ⟨_, pss_one (ps_ret (pe_fld (pe_call C1.G hr rfl C1.at_ C1.kp C1.b .nil pass0 (pa_cons (pv 1) pa_nil)) rfl)), ?_⟩
  refine ⟨_, rfl, a, bs, rfl, hS, hl, fun H' g dg l v sm hg hL hl0 _ _ => ?_⟩
  exact ⟨g, CG, dg, _, _, rfl, hg, TG.cl, TG.no 0 _ rfl, lk_zip gKnd (i := 0) rfl, k _ l sm hl0 hL⟩
def spRestart (K : PySem.W.Frag) (CW CU CP : Addr) : Sp := fun vs H Q _ => ∃ (y dy : Addr) (u : UA) (ps : List PM) (wt : List Int) (bg : List Mem) (v1 v2 v3 v4 : V), vs = [.ref y] ∧ H y = some (.ins CW dy (wK.zip [.ref u.a, v1, v2, v3, v4])) ∧
  RulesAt K CU CP H u ps wt bg ∧ y ∉ u.foot ∧ bg.length ≤ 5000 ∧
  ∀ H' mm mvs, Off y H H' → H mm = none → H' y = some (.ins CW dy (wK.zip [.ref u.a, .ref mm, .int 0, .int 0, .int 0])) → H' mm = some (.lst mvs) → A2 (MemV K H') mvs bg → Q .non H'
theorem sc_restart : FnScope ["self"] ["self"] (defScope s_Watcher_restart) := ⟨rfl, rfl, rfl, by decide +kernel, rfl, by decide +kernel, by decide +kernel⟩
theorem ok_restart {f f1 : Addr} {fd fd1 : FuncData} (F : Fun K "restart" "Watcher.restart" s_Watcher_restart f fd) (TU : ClsT K CU uK) (TW : ClsT K CW wK) (C1 : Callee P w K mg base 2 "first_memory" f1 fd1 ["kinds"] (spFirstMem K)) :
    FnOk P w K mg base CX0 3 f fd ["self"] (spRestart K CW CU CP) := by
  refine F.ok sc_restart (fun vs H Q E h => ?_) (fun cdv A outer s H vs Q E hr h => ?_)
  · obtain ⟨_, _, _, _, _, _, _, _, _, _, rfl, _⟩ := h
    rfl
  obtain ⟨y, dy, u, ps, wt, bg, v1, v2, v3, v4, rfl, hy, hU, hyu, hbl, k⟩ := h
  refine ⟨_, pss_cons (ps_fld (pv 0) (pe_call C1.G hr rfl C1.at_ C1.kp C1.b .nil pass0 (pa_cons (pe_fld (pe_fld (pv 0) rfl) rfl) pa_nil)) rfl)
    (pss_cons (ps_fld (pv 0) pe_int rfl) (pss_cons (ps_fld (pv 0) pe_int rfl) (pss_one (ps_fld (pv 0) pe_int rfl)))), ?_⟩
  refine ⟨_, rfl, y, CW, dy, _, _, rfl, hy, TW.cl, TW.no 0 _ rfl, lk_zip wKnd (i := 0) rfl, u.a, CU, u.dx, _, _, rfl, hU.ins, TU.cl, TU.no 2 _ rfl, lk_zip uKnd (i := 2) rfl, u.b, u.bv, bg, rfl, SqL.of hU.beg, hU.aB, hbl, fun H1 mm mvs sm hmm hM hA => ?_⟩
  have nym : mm ≠ y := fun e => by rw [e, hy] at hmm; cases hmm
  refine ⟨_, rfl, y, CW, dy, _, rfl, sm _ _ hy, TW.cl, TW.no 1 _ rfl, zip_few (by decide), ?_⟩
  rw [put_zip (i := 1) wKnd rfl rfl]
  refine ⟨_, rfl, y, CW, dy, _, rfl, upd_same, TW.cl, TW.no 2 _ rfl, zip_few (by decide), ?_⟩
  rw [put_zip (i := 2) wKnd rfl rfl]
  refine ⟨_, rfl, y, CW, dy, _, rfl, upd_same, TW.cl, TW.no 3 _ rfl, zip_few (by decide), ?_⟩
  rw [put_zip (i := 3) wKnd rfl rfl]
  refine ⟨_, rfl, y, CW, dy, _, rfl, upd_same, TW.cl, TW.no 4 _ rfl, zip_few (by decide), ?_⟩
  rw [put_zip (i := 4) wKnd rfl rfl, upd_upd, upd_upd, upd_upd]
  refine k _ mm mvs (fun b o hb hn => ?_) hmm upd_same (by rw [upd_ne nym]; exact hM) (mems_off hA (.inr (by rw [sm _ _ hy]; trivial)))
  rw [upd_ne hn]
  exact sm _ _ hb
theorem sc_load : FnScope ["self", "row", "reading"] ["self", "row"] (defScope s_Watcher_load) := ⟨rfl, rfl, rfl, by decide +kernel, rfl, by decide +kernel, by decide +kernel⟩
theorem ok_load {f f1 f2 : Addr} {fd fd1 fd2 : FuncData} (F : Fun K "load" "Watcher.load" s_Watcher_load f fd) (TG : ClsT K CG gK) (TW : ClsT K CW wK) (C1 : Callee P w K mg base 8 "read" f1 fd1 ["row"] (spRead K CG CU CP))
    (C2 : Method P w K mg base 3 CW "restart" f2 fd2 ["self"] (spRestart K CW CU CP)) :
    FnOk P w K mg base CX0 9 f fd ["self", "row"] (spLoad K CW CU CP) := by
  refine F.ok sc_load (fun vs H Q E h => ?_) (fun cdv A outer s H vs Q E hr h => ?_)
  · obtain ⟨_, _, _, _, _, _, rfl, _⟩ := h
    rfl
  obtain ⟨y, a, z, m, st, bs, rfl, hW, ⟨oz, hz⟩, hS, hl, k⟩ := h
  have hr3 : Room 3 _ := hr.mono (by decide)
  refine ⟨_, pss_cons (ps_set (i := 2) sc_load.nd rfl (.inl rfl) (pe_call C1.G hr rfl C1.at_ C1.kp C1.b .nil pass0 (pa_cons (pv 1) pa_nil)))
    (pss_cons (ps_if (pt_cmpR op_notN (pe_fld (pv 2) rfl) pe_non (nomark _))
      (pss_cons (ps_fld (pv 0) (pe_fld (pv 2) rfl) rfl) (pss_one (ps_expr (pe_meth0 (pv 0) TW.cl C2.M C2.G hr3 C2.b .nil pass0)))) pss_nil)
    (pss_one (ps_ret (pe_fld (pv 2) rfl)))), ?_⟩
  refine ⟨_, rfl, a, bs, rfl, hS, hl, fun H' g dg l v sm hg hL hl0 hg0 hv => ?_⟩
  have hW1 := hW.mono sm
  refine ⟨_, rfl, g, CG, dg, _, _, rfl, hg, TG.cl, TG.no 1 _ rfl, lk_zip gKnd (i := 1) rfl, rfl, _, rfl, ?_⟩
  cases hr2 : (readOut bs).2 with
  | none =>
    rw [hr2] at k hv
    have hv : v = .non := hv
    subst hv
    refine ifF (by rfl) ?_
    exact ⟨_, rfl, g, CG, dg, _, _, rfl, hg, TG.cl, TG.no 0 _ rfl, lk_zip gKnd (i := 0) rfl, k _ l m (fun b o hb _ _ => sm _ _ hb) hW1 (.inl rfl) hl0 hL⟩
  | some ws =>
    rw [hr2] at k hv
    obtain ⟨u, rfl, hU, hnew⟩ := hv
    refine ifT (by rfl) ?_
    obtain ⟨dy, x0, x1, x2, x3, x4, hy⟩ : ∃ dy x0 x1 x2 x3 x4, H y = some (.ins CW dy (wK.zip [x0, x1, x2, x3, x4])) := by
      obtain ⟨_, _, _, h4⟩ := hW
      cases st with
      | none => obtain ⟨dx, mvs, a1, _⟩ := h4; exact ⟨dx, _, _, _, _, _, a1⟩
      | some W => obtain ⟨dx, u, lt, mvs, w⟩ := h4; exact ⟨dx, _, _, _, _, _, w.ins⟩
    have hyu : y ∉ u.foot := fun q => by rw [hnew y q] at hy; cases hy
    have hzu : z ∉ u.foot := fun q => by rw [hnew z q] at hz; cases hz
    have nyg : y ≠ g := ne_of_none hy hg0
    have hy1 := sm _ _ hy
    have mut1 : H' y = none ∨ Mut (H' y) := .inr (by rw [hy1]; trivial)
    have rd := Pm.read_ok (readOut_ok hr2)
    refine ⟨_, rfl, g, CG, dg, _, _, rfl, hg, TG.cl, TG.no 1 _ rfl, lk_zip gKnd (i := 1) rfl, _, rfl, y, CW, dy, _, rfl, hy1, TW.cl, TW.no 0 _ rfl, zip_few (by decide), ?_⟩
    rw [put_zip (i := 0) wKnd rfl rfl, show ([x0, x1, x2, x3, x4] : List V).set 0 (.ref u.a) = [.ref u.a, x1, x2, x3, x4] from rfl]
    have hU1 := rules_off (o := .ins CW dy (wK.zip [.ref u.a, x1, x2, x3, x4])) hU hyu mut1
    have hbl : (Pw.freshOf ws).length ≤ 5000 := by
      have h1 := (Pm.freshOf_fit 0 ws).len
      have h2 := rd.kl
      omega
    refine ⟨_, rfl, y, dy, _, rfl, upd_same, lk_none (by decide +kernel), y, dy, u, _, _, _, x1, x2, x3, x4, rfl, upd_same, hU1, hyu, hbl, fun H2 mm mvs of hmm hy2 hM2 hA2 => ?_⟩
    obtain ⟨nmy, hmm1⟩ := fresh_upd hmm
    have hmm0 : H mm = none := sm.free hmm1
    have hmu : mm ∉ u.foot := fun q => by
      obtain ⟨o, ho⟩ := rules_foot hU1 mm q
      rw [hmm] at ho
      cases ho
    have hU2 := rules_frame hU1 of hyu
    have nlg : l ≠ y := fun e => by rw [e, hy] at hl0; cases hl0
    refine ⟨_, rfl, g, CG, dg, _, _, rfl, of _ _ (by rw [upd_ne nyg.symm]; exact hg) nyg.symm, TG.cl, TG.no 0 _ rfl, lk_zip gKnd (i := 0) rfl, ?_⟩
    refine k _ l mm (fun b o hb hby hbm => of _ _ (by rw [upd_ne hby]; exact sm _ _ hb) hby) ⟨nmy.symm, hW.2.1, ne_of_none hz hmm0, dy, u, 0, mvs, ⟨hy2, hU2, hyu, hmu, hzu, hM2, hA2, Pm.wok_fresh rd, fun t ht => by cases ht⟩⟩ (.inr hmm0) hl0 ?_
    exact of _ _ (by rw [upd_ne nlg]; exact hL) nlg
end
end Hw

set_option maxHeartbeats 4000000
namespace Hw
open PySem L2
open Pm (PM R Op Ex)
open Pw (Mem)
theorem step_entry_ref {W : Pw.Watcher} {t z : Int} {ns : List (List UInt8)} (h : Pw.refused W t = some z) : Pw.step (some W) (.entry t ns) = (some W, Pw.num z) := by
  show (match Pw.refused W t with | some z => (some W, Pw.num z) | none => (some (W.take t ns), Pw.num ((W.take t ns).held : Nat))) = _
  rw [h]
theorem step_entry_ok {W : Pw.Watcher} {t : Int} {ns : List (List UInt8)} (h : Pw.refused W t = none) : Pw.step (some W) (.entry t ns) = (some (W.take t ns), Pw.num ((W.take t ns).held : Nat)) := by
  show (match Pw.refused W t with | some z => (some W, Pw.num z) | none => (some (W.take t ns), Pw.num ((W.take t ns).held : Nat))) = _
  rw [h]
theorem step_wait_ref {W : Pw.Watcher} {t z : Int} {ns : List (List UInt8)} (h : Pw.refused W t = some z) : Pw.step (some W) (.wait t ns) = (some W, Pw.num z) := by
  show (some W, match Pw.refused W t with | some z => Pw.num z | none => Pw.num ((W.take t ns).held : Nat)) = _
  rw [h]
theorem step_wait_ok {W : Pw.Watcher} {t : Int} {ns : List (List UInt8)} (h : Pw.refused W t = none) : Pw.step (some W) (.wait t ns) = (some W, Pw.num ((W.take t ns).held : Nat)) := by
  show (some W, match Pw.refused W t with | some z => Pw.num z | none => Pw.num ((W.take t ns).held : Nat)) = _
  rw [h]
theorem not_refused {W : Pw.Watcher} {t : Int} (h : Pw.refused W t = none) : ∀ u, W.last = some u → u ≤ t := by
  intro u hu
  unfold Pw.refused at h
  split at h
  · cases h
  · split at h
    · cases h
    · rename_i hm
      unfold Pw.mayCome at hm
      rw [hu] at hm
      simpa using hm
section
variable {P : Program} {w : World} {K : PySem.W.Frag} {mg : Str → Option Value} {base : Heap} {CW CU CP CG : Addr}
theorem sc_entry : FnScope ["self", "moment", "names", "refusal"] ["self", "moment", "names"] (defScope s_Watcher_entry) := ⟨rfl, rfl, rfl, by decide +kernel, rfl, by decide +kernel, by decide +kernel⟩
theorem ok_entry {f f1 f2 f3 : Addr} {fd fd1 fd2 fd3 : FuncData} (F : Fun K "entry" "Watcher.entry" s_Watcher_entry f fd) (TV : VTxt mg) (TW : ClsT K CW wK)
    (C1 : Method P w K mg base 1 CW "refusal_at" f1 fd1 ["self", "moment"] (spRefusal K CW CU CP)) (C2 : Callee P w K mg base 3 "follow" f2 fd2 ["rules", "memory", "moment", "names"] (spFollow K CU CP)) (C3 : Callee P w K mg base 3 "spell_names" f3 fd3 ["names"] (spNames K)) :
    FnOk P w K mg base CX0 4 f fd ["self", "moment", "names"] (spEntry K CW CU CP) := by
  refine F.ok sc_entry (fun vs H Q E h => ?_) (fun cdv A outer s H vs Q E hr h => ?_)
  · obtain ⟨_, _, _, _, _, _, _, _, rfl, _⟩ := h
    rfl
  obtain ⟨y, a, z, m, st, t, rs, ns, rfl, hW, hS, hR, hl, hb, k⟩ := h
  have hr1 : Room 1 _ := hr.mono (by decide)
  refine ⟨_, pss_cons (ps_set (i := 3) sc_entry.nd rfl (.inl rfl) (pe_meth (pv 0) TW.cl C1.M C1.G hr1 C1.b .nil pass0 (pa_cons (pv 1) pa_nil)))
    (pss_cons (ps_if (pt_cmpR op_ne (pv 3) (pe_ci rfl TV.noRef) (nomark _)) (pss_one (ps_ret (pe_lst (pa_cons (pv 3) pa_nil)))) pss_nil)
    (pss_cons (ps_fld (pv 0) (pe_call C2.G hr rfl C2.at_ C2.kp C2.b .nil pass0 (pa_cons (pe_fld (pv 0) rfl) (pa_cons (pe_fld (pv 0) rfl) (pa_cons (pv 1) (pa_cons (pe_call C3.G hr rfl C3.at_ C3.kp C3.b .nil pass0 (pa_cons (pv 2) pa_nil)) pa_nil))))) rfl)
    (pss_cons (ps_fldaug (pv 0) pe_int in_add) (pss_cons (ps_fld (pv 0) (pv 1) rfl) (pss_one (ps_ret (pe_lst (pa_cons (pe_fld (pv 0) rfl) pa_nil)))))))), ?_⟩
  obtain ⟨dy, vs4, hy⟩ : ∃ dy vs4, H y = some (.ins CW dy (wK.zip vs4)) := by
    obtain ⟨_, _, _, h4⟩ := hW
    cases st with
    | none => obtain ⟨dx, mvs, a1, _⟩ := h4; exact ⟨dx, _, a1⟩
    | some W => obtain ⟨dx, u, lt, mvs, w⟩ := h4; exact ⟨dx, _, w.ins⟩
  refine ⟨_, rfl, y, dy, _, rfl, hy, lk_none (by decide +kernel), _, rfl, y, z, m, st, t, rfl, hW, ?_⟩
  refine ⟨_, rfl, rfl, _, rfl, ?_⟩
  have dec0 : decide (V.int (refN st t) = V.int 0) = decide (refN st t = 0) := by
    by_cases q : refN st t = 0
    · rw [decide_eq_true q, decide_eq_true (by rw [q])]
    · rw [decide_eq_false q, decide_eq_false (fun e => q (V.int.inj e))]
  rw [dec0]
  cases st with
  | none =>
    refine ifT (by rfl) ?_
    exact ⟨_, rfl, (by show 1 ≤ sizeLine; decide), fun l hl => k _ l m (fun b o hb _ _ => by rw [upd_ne (ne_of_none hb hl)]; exact hb) (hW.mono (same_upd (Same.refl H) hl)) (.inl rfl) hl upd_same⟩
  | some W =>
    have er : refN (some W) t = (Pw.refused W t).getD 0 := rfl
    by_cases c : (Pw.refused W t).getD 0 = 0
    · refine ifF (by rw [er, decide_eq_true c]; rfl) ?_
      have hnr := refN_zero c
      rw [step_entry_ok hnr] at k
      obtain ⟨hym, hzy, hzm, dx, u, lt, mvs, ws⟩ := hW
      refine ⟨_, rfl, y, CW, dx, _, _, rfl, ws.ins, TW.cl, TW.no 0 _ rfl, lk_zip wKnd (i := 0) rfl, _, rfl, y, CW, dx, _, _, rfl, ws.ins, TW.cl, TW.no 1 _ rfl, lk_zip wKnd (i := 1) rfl, _, rfl, _, rfl, a, rs, ns, rfl, hS, hR, hl, hb, fun H1 d sm hd hN => ?_⟩
      have hmay := not_refused hnr
      have hfit := ws.ok.fit t hmay
      have hfo := Pm.follow_is (here := ns) ws.ok.rd.ok hfit
      have ndm : d ≠ m := fun e => by rw [e, ws.mem] at hd; cases hd
      have hwl : (Pm.stateOf W.watches).watches.length ≤ 5000 := by rw [(Pm.sOf W.watches).wlen]; have := ws.ok.rd.wl; omega
      refine ⟨u, _, _, _, m, d, W.memory, mvs, Pm.kindsW W.watches, t, ns, rfl, ws.rules.mono sm, ws.mu, ndm, sm _ _ ws.mem, ws.aM.imp fun _ _ _ q => q.same sm, Pm.rules_wf ws.ok.rd.ok, Pm.rules_ops W.watches, hfit, Pm.watches_in, by have := ws.ok.rd.pl; omega, hwl, by have := Pm.mem_len ws.ok; omega, hN, fun H2 mvs2 of hm2 hA2 => ?_⟩
      rw [hfo.2.1]
      rw [hfo.1] at hA2
      have hy2 : H2 y = some (.ins CW dx (wK.zip [.ref u.a, .ref m, .int W.entries, .int lt, .int W.held])) := of _ _ (sm _ _ ws.ins) hym
      refine ⟨_, rfl, y, CW, dx, _, rfl, hy2, TW.cl, TW.no 4 _ rfl, zip_few (by decide), ?_⟩
      rw [put_zip (i := 4) wKnd rfl rfl]
      refine ⟨_, rfl, y, CW, dx, _, _, rfl, upd_same, TW.cl, TW.no 2 _ rfl, lk_zip wKnd (i := 2) rfl, _, _, rfl, rfl, dx, _, upd_same, zip_few (by decide), ?_⟩
      rw [put_zip (i := 2) wKnd rfl rfl]
      refine ⟨_, rfl, _, rfl, y, CW, dx, _, rfl, upd_same, TW.cl, TW.no 3 _ rfl, zip_few (by decide), ?_⟩
      rw [put_zip (i := 3) wKnd rfl rfl, upd_upd, upd_upd]
      have hU2 : RulesAt K CU CP H2 u (Pm.stateOf W.watches).parts (Pm.stateOf W.watches).watches (Pw.freshOf W.watches) := rules_frame ws.rules ((Same.off (m := m) sm).trans of) ws.mu
      have muy : H2 y = none ∨ Mut (H2 y) := .inr (by rw [hy2]; trivial)
      refine ⟨_, rfl, y, CW, dx, _, _, rfl, upd_same, TW.cl, TW.no 4 _ rfl, lk_zip wKnd (i := 4) rfl, (by show 1 ≤ sizeLine; decide), fun l hl3 => ?_⟩
      obtain ⟨nly, hl2⟩ := fresh_upd hl3
      have hl0 : H l = none := by
        cases e : H l with
        | none => rfl
        | some o =>
          have nlm : l ≠ m := fun q => by rw [q, hm2] at hl2; cases hl2
          have := of _ _ (sm _ _ e) nlm
          rw [hl2] at this
          cases this
      have W3 : WAt K CW CU CP z (upd H2 y (.ins CW dx (wK.zip [.ref u.a, .ref m, .int ((W.entries : Int) + 1), .int t, .int (Pw.bitsOf (Pw.stepOf ns t W.watches W.memory).1)]))) y (some (W.take t ns)) m :=
        ⟨hym, hzy, hzm, dx, u, t, mvs2, ⟨upd_same, rules_off hU2 ws.yu muy, ws.yu, ws.mu, ws.zu, by rw [upd_ne hym.symm]; exact hm2, mems_off hA2 muy, Pm.wok_take ws.ok hmay, fun v hv => by cases hv; rfl⟩⟩
      refine k _ l m (fun b o hb hby hbm => ?_) (W3.mono (same_upd (Same.refl _) hl3)) (.inl rfl) hl0 upd_same
      rw [upd_ne (ne_of_none hb hl0), upd_ne hby]
      exact of _ _ (sm _ _ hb) hbm
    · refine ifT (by rw [er, decide_eq_false c]; rfl) ?_
      rw [step_entry_ref (refN_some c)] at k
      exact ⟨_, rfl, (by show 1 ≤ sizeLine; decide), fun l hl => k _ l m (fun b o hb _ _ => by rw [upd_ne (ne_of_none hb hl)]; exact hb) (hW.mono (same_upd (Same.refl H) hl)) (.inl rfl) hl upd_same⟩
theorem sc_wait : FnScope ["self", "moment", "names", "refusal"] ["self", "moment", "names"] (defScope s_Watcher_wait) := ⟨rfl, rfl, rfl, by decide +kernel, rfl, by decide +kernel, by decide +kernel⟩
theorem ok_wait {f f1 f2 f3 : Addr} {fd fd1 fd2 fd3 : FuncData} (F : Fun K "wait" "Watcher.wait" s_Watcher_wait f fd) (TV : VTxt mg) (TW : ClsT K CW wK) (hlist : mg "list" = none)
    (C1 : Method P w K mg base 1 CW "refusal_at" f1 fd1 ["self", "moment"] (spRefusal K CW CU CP)) (C2 : Callee P w K mg base 3 "follow" f2 fd2 ["rules", "memory", "moment", "names"] (spFollow K CU CP)) (C3 : Callee P w K mg base 3 "spell_names" f3 fd3 ["names"] (spNames K)) :
    FnOk P w K mg base CX0 4 f fd ["self", "moment", "names"] (spWait K CW CU CP) := by
  refine F.ok sc_wait (fun vs H Q E h => ?_) (fun cdv A outer s H vs Q E hr h => ?_)
  · obtain ⟨_, _, _, _, _, _, _, _, rfl, _⟩ := h
    rfl
  obtain ⟨y, a, z, m, st, t, rs, ns, rfl, hW, hS, hR, hl, hb, k⟩ := h
  have hr1 : Room 1 _ := hr.mono (by decide)
  refine ⟨_, pss_cons (ps_set (i := 3) sc_wait.nd rfl (.inl rfl) (pe_meth (pv 0) TW.cl C1.M C1.G hr1 C1.b .nil pass0 (pa_cons (pv 1) pa_nil)))
    (pss_cons (ps_if (pt_cmpR op_ne (pv 3) (pe_ci rfl TV.noRef) (nomark _)) (pss_one (ps_ret (pe_lst (pa_cons (pv 3) pa_nil)))) pss_nil)
    (pss_one (ps_ret (pe_lst (pa_cons (pe_call C2.G hr rfl C2.at_ C2.kp C2.b .nil pass0 (pa_cons (pe_fld (pv 0) rfl) (pa_cons (pe_callTy call_list_of (by rfl) hlist (by decide +kernel) (pa_cons (pe_fld (pv 0) rfl) pa_nil)) (pa_cons (pv 1) (pa_cons (pe_call C3.G hr rfl C3.at_ C3.kp C3.b .nil pass0 (pa_cons (pv 2) pa_nil)) pa_nil))))) pa_nil))))), ?_⟩
  obtain ⟨dy, vs4, hy⟩ : ∃ dy vs4, H y = some (.ins CW dy (wK.zip vs4)) := by
    obtain ⟨_, _, _, h4⟩ := hW
    cases st with
    | none => obtain ⟨dx, mvs, a1, _⟩ := h4; exact ⟨dx, _, a1⟩
    | some W => obtain ⟨dx, u, lt, mvs, w⟩ := h4; exact ⟨dx, _, w.ins⟩
  refine ⟨_, rfl, y, dy, _, rfl, hy, lk_none (by decide +kernel), _, rfl, y, z, m, st, t, rfl, hW, ?_⟩
  refine ⟨_, rfl, rfl, _, rfl, ?_⟩
  have dec0 : decide (V.int (refN st t) = V.int 0) = decide (refN st t = 0) := by
    by_cases q : refN st t = 0
    · rw [decide_eq_true q, decide_eq_true (by rw [q])]
    · rw [decide_eq_false q, decide_eq_false (fun e => q (V.int.inj e))]
  rw [dec0]
  cases st with
  | none =>
    refine ifT (by rfl) ?_
    exact ⟨_, rfl, (by show 1 ≤ sizeLine; decide), fun l hl => k _ l m (fun b o hb _ _ => by rw [upd_ne (ne_of_none hb hl)]; exact hb) (hW.mono (same_upd (Same.refl H) hl)) (.inl rfl) hl upd_same⟩
  | some W =>
    have er : refN (some W) t = (Pw.refused W t).getD 0 := rfl
    by_cases c : (Pw.refused W t).getD 0 = 0
    · refine ifF (by rw [er, decide_eq_true c]; rfl) ?_
      have hnr := refN_zero c
      rw [step_wait_ok hnr] at k
      have hW0 := hW
      obtain ⟨hym, hzy, hzm, dx, u, lt, mvs, ws⟩ := hW
      refine ⟨_, rfl, y, CW, dx, _, _, rfl, ws.ins, TW.cl, TW.no 0 _ rfl, lk_zip wKnd (i := 0) rfl, _, rfl, y, CW, dx, _, _, rfl, ws.ins, TW.cl, TW.no 1 _ rfl, lk_zip wKnd (i := 1) rfl, m, _, rfl, .inl (SqL.of ws.mem), fun mm hmm => ?_⟩
      have sm0 : Same H (upd H mm (.lst mvs)) := same_upd (Same.refl H) hmm
      refine ⟨_, rfl, _, rfl, a, rs, ns, rfl, sm0.seq hS, hR.same sm0, hl, hb, fun H1 d sm hd hN => ?_⟩
      have hmay := not_refused hnr
      have hfit := ws.ok.fit t hmay
      have hfo := Pm.follow_is (here := ns) ws.ok.rd.ok hfit
      have ndm : d ≠ mm := fun e => by rw [e, upd_same] at hd; cases hd
      have hmu : mm ∉ u.foot := fun q => by
        obtain ⟨o, ho⟩ := rules_foot ws.rules mm q
        rw [hmm] at ho
        cases ho
      have hwl : (Pm.stateOf W.watches).watches.length ≤ 5000 := by rw [(Pm.sOf W.watches).wlen]; have := ws.ok.rd.wl; omega
      have sm1 := sm0.trans sm
      refine ⟨u, _, _, _, mm, d, W.memory, mvs, Pm.kindsW W.watches, t, ns, rfl, ws.rules.mono sm1, hmu, ndm, sm _ _ upd_same, ws.aM.imp fun _ _ _ q => q.same sm1, Pm.rules_wf ws.ok.rd.ok, Pm.rules_ops W.watches, hfit, Pm.watches_in, by have := ws.ok.rd.pl; omega, hwl, by have := Pm.mem_len ws.ok; omega, hN, fun H2 mvs2 of hm2 hA2 => ?_⟩
      rw [hfo.2.1]
      have sm2 : Same H H2 := fun b o hb => of _ _ (sm1 _ _ hb) (ne_of_none hb hmm)
      refine ⟨(by show 1 ≤ sizeLine; decide), fun l hl3 => ?_⟩
      have sm3 : Same H (upd H2 l (.lst [.int (Pw.bitsOf (Pw.stepOf ns t W.watches W.memory).1)])) := sm2.trans (same_upd (Same.refl _) hl3)
      exact k _ l m (fun b o hb _ _ => sm3 _ _ hb) (hW0.mono sm3) (.inl rfl) (sm2.free hl3) upd_same
    · refine ifT (by rw [er, decide_eq_false c]; rfl) ?_
      rw [step_wait_ref (refN_some c)] at k
      exact ⟨_, rfl, (by show 1 ≤ sizeLine; decide), fun l hl => k _ l m (fun b o hb _ _ => by rw [upd_ne (ne_of_none hb hl)]; exact hb) (hW.mono (same_upd (Same.refl H) hl)) (.inl rfl) hl upd_same⟩
end
end Hw

set_option maxHeartbeats 4000000
namespace Hw
open PySem L2
open Pm (PM R Op Ex)
open Pw (Mem)
def spTold (K : PySem.W.Frag) (CW CU CP : Addr) : Sp := fun vs H Q _ => ∃ (y z m : Addr) (st : Pw.State), vs = [.ref y] ∧ WAt K CW CU CP z H y st m ∧ Ans K CW CU CP z H y m st (PwNeutral.told (Pw.step st .told).2) Q
def spTell (K : PySem.W.Frag) (CW CU CP : Addr) : Sp := fun vs H Q _ => ∃ (y z m : Addr) (st : Pw.State), vs = [.ref y] ∧ WAt K CW CU CP z H y st m ∧ Ans K CW CU CP z H y m st (PwNeutral.told (Pw.step st .memory).2) Q
def spForget (K : PySem.W.Frag) (CW CU CP : Addr) : Sp := fun vs H Q _ => ∃ (y z m : Addr) (st : Pw.State), vs = [.ref y] ∧ WAt K CW CU CP z H y st m ∧ (∃ oz, H z = some oz) ∧
  Ans K CW CU CP z H y m (Pw.step st .forget).1 (PwNeutral.told (Pw.step st .forget).2) Q
/-- a new list, and nothing else -/
theorem Ans.new {K : PySem.W.Frag} {CW CU CP z : Addr} {H : Hp} {y m l : Addr} {st : Pw.State} {ns : List Int} {Q : VK} (k : Ans K CW CU CP z H y m st ns Q) (hW : WAt K CW CU CP z H y st m) (hl : H l = none) : Q (.ref l) (upd H l (.lst (ns.map V.int))) :=
  k _ l m (fun b o hb _ _ => by rw [upd_ne (ne_of_none hb hl)]; exact hb) (hW.mono (same_upd (Same.refl H) hl)) (.inl rfl) hl upd_same
section
variable {P : Program} {w : World} {K : PySem.W.Frag} {mg : Str → Option Value} {base : Heap} {CW CU CP CG : Addr}
theorem sc_wtold : FnScope ["self"] ["self"] (defScope s_Watcher_told) := ⟨rfl, rfl, rfl, by decide +kernel, rfl, by decide +kernel, by decide +kernel⟩
theorem ok_told {f : Addr} {fd : FuncData} (F : Fun K "told" "Watcher.told" s_Watcher_told f fd) (TV : VTxt mg) (TW : ClsT K CW wK) : FnOk P w K mg base CX0 1 f fd ["self"] (spTold K CW CU CP) := by
  refine F.ok sc_wtold (fun vs H Q E h => ?_) (fun cdv A outer s H vs Q E hr h => ?_)
  · obtain ⟨_, _, _, _, rfl, _⟩ := h
    rfl
  obtain ⟨y, z, m, st, rfl, hW, k⟩ := h
  refine ⟨_, pss_cons (ps_if (pt_cmpR op_isN (pe_fld (pv 0) rfl) pe_non (nomark _)) (pss_one (ps_ret (pe_lst (pa_cons (pe_ci rfl TV.noRules) pa_nil)))) pss_nil)
    (pss_cons (ps_if (pt_cmpR op_eq (pe_fld (pv 0) rfl) pe_int (nomark _)) (pss_one (ps_ret (pe_lst (pa_cons (pe_ci rfl TV.done) (pa_cons pe_int pa_nil))))) pss_nil)
    (pss_one (ps_ret (pe_lst (pa_cons (pe_ci rfl TV.done) (pa_cons (pe_fld (pv 0) rfl) (pa_cons (pe_fld (pv 0) rfl) (pa_cons (pe_fld (pv 0) rfl) pa_nil)))))))), ?_⟩
  have hW0 := hW
  obtain ⟨_, _, _, h4⟩ := hW
  cases st with
  | none =>
    obtain ⟨dx, mvs, hy, _⟩ := h4
    refine ⟨_, rfl, y, CW, dx, _, _, rfl, hy, TW.cl, TW.no 0 _ rfl, lk_zip wKnd (i := 0) rfl, rfl, _, rfl, ?_⟩
    refine ifT (by rfl) ?_
    exact ⟨(by show 1 ≤ sizeLine; decide), fun l hl => k.new hW0 hl⟩
  | some W =>
    obtain ⟨dx, u, lt, mvs, ws⟩ := h4
    refine ⟨_, rfl, y, CW, dx, _, _, rfl, ws.ins, TW.cl, TW.no 0 _ rfl, lk_zip wKnd (i := 0) rfl, rfl, _, rfl, ?_⟩
    refine ifF (by rfl) ?_
    refine ⟨_, rfl, y, CW, dx, _, _, rfl, ws.ins, TW.cl, TW.no 2 _ rfl, lk_zip wKnd (i := 2) rfl, rfl, _, rfl, ?_⟩
    have dec0 : decide (V.int (W.entries : Int) = V.int 0) = decide (W.entries = 0) := by
      by_cases q : W.entries = 0
      · rw [decide_eq_true q, decide_eq_true (by rw [q]; rfl)]
      · rw [decide_eq_false q, decide_eq_false (fun e => q (by have := V.int.inj e; omega))]
    rw [dec0]
    cases hl : W.last with
    | none =>
      have c := ws.ok.ent.mp hl
      refine ifT (decide_eq_true c) ?_
      have e : PwNeutral.told (Pw.step (some W) .told).2 = [0, 0] := by
        show PwNeutral.told (match W.last with | none => Pw.nums 0 [0] | some t => Pw.nums 0 [(W.entries : Nat), t, (W.held : Nat)]) = _
        rw [hl]
        rfl
      rw [e] at k
      exact ⟨(by show 2 ≤ sizeLine; decide), fun l hl => k.new hW0 hl⟩
    | some t =>
      have c : ¬ W.entries = 0 := fun q => by rw [ws.ok.ent.mpr q] at hl; cases hl
      refine ifF (decide_eq_false c) ?_
      have et := ws.lt t hl
      subst et
      have e : PwNeutral.told (Pw.step (some W) .told).2 = [0, (W.entries : Int), lt, (W.held : Int)] := by
        show PwNeutral.told (match W.last with | none => Pw.nums 0 [0] | some t => Pw.nums 0 [(W.entries : Nat), t, (W.held : Nat)]) = _
        rw [hl]
        rfl
      rw [e] at k
      refine ⟨_, rfl, y, CW, dx, _, _, rfl, ws.ins, TW.cl, TW.no 2 _ rfl, lk_zip wKnd (i := 2) rfl, _, rfl, y, CW, dx, _, _, rfl, ws.ins, TW.cl, TW.no 3 _ rfl, lk_zip wKnd (i := 3) rfl, _, rfl, y, CW, dx, _, _, rfl, ws.ins, TW.cl, TW.no 4 _ rfl, lk_zip wKnd (i := 4) rfl, ?_⟩
      exact ⟨(by show 4 ≤ sizeLine; decide), fun l hl => k.new hW0 hl⟩
theorem sc_wtell : FnScope ["self"] ["self"] (defScope s_Watcher_tell_memory) := ⟨rfl, rfl, rfl, by decide +kernel, rfl, by decide +kernel, by decide +kernel⟩
theorem ok_tell {f f1 : Addr} {fd fd1 : FuncData} (F : Fun K "tell_memory" "Watcher.tell_memory" s_Watcher_tell_memory f fd) (TV : VTxt mg) (TU : ClsT K CU uK) (TW : ClsT K CW wK) (C1 : Callee P w K mg base 2 "told_memory" f1 fd1 ["kinds", "memory"] (spToldMem K)) :
    FnOk P w K mg base CX0 3 f fd ["self"] (spTell K CW CU CP) := by
  refine F.ok sc_wtell (fun vs H Q E h => ?_) (fun cdv A outer s H vs Q E hr h => ?_)
  · obtain ⟨_, _, _, _, rfl, _⟩ := h
    rfl
  obtain ⟨y, z, m, st, rfl, hW, k⟩ := h
  refine ⟨_, pss_cons (ps_if (pt_cmpR op_isN (pe_fld (pv 0) rfl) pe_non (nomark _)) (pss_one (ps_ret (pe_lst (pa_cons (pe_ci rfl TV.noRules) pa_nil)))) pss_nil)
    (pss_one (ps_ret (pe_call C1.G hr rfl C1.at_ C1.kp C1.b .nil pass0 (pa_cons (pe_fld (pe_fld (pv 0) rfl) rfl) (pa_cons (pe_fld (pv 0) rfl) pa_nil))))), ?_⟩
  have hW0 := hW
  obtain ⟨_, _, _, h4⟩ := hW
  cases st with
  | none =>
    obtain ⟨dx, mvs, hy, _⟩ := h4
    refine ⟨_, rfl, y, CW, dx, _, _, rfl, hy, TW.cl, TW.no 0 _ rfl, lk_zip wKnd (i := 0) rfl, rfl, _, rfl, ?_⟩
    refine ifT (by rfl) ?_
    exact ⟨(by show 1 ≤ sizeLine; decide), fun l hl => k.new hW0 hl⟩
  | some W =>
    obtain ⟨dx, u, lt, mvs, ws⟩ := h4
    refine ⟨_, rfl, y, CW, dx, _, _, rfl, ws.ins, TW.cl, TW.no 0 _ rfl, lk_zip wKnd (i := 0) rfl, rfl, _, rfl, ?_⟩
    refine ifF (by rfl) ?_
    refine ⟨_, rfl, y, CW, dx, _, _, rfl, ws.ins, TW.cl, TW.no 0 _ rfl, lk_zip wKnd (i := 0) rfl, u.a, CU, u.dx, _, _, rfl, ws.rules.ins, TU.cl, TU.no 2 _ rfl, lk_zip uKnd (i := 2) rfl, _, rfl, y, CW, dx, _, _, rfl, ws.ins, TW.cl, TW.no 1 _ rfl, lk_zip wKnd (i := 1) rfl, ?_⟩
    refine ⟨u.b, m, u.bv, mvs, _, W.memory, rfl, SqL.of ws.rules.beg, SqL.of ws.mem, ws.rules.aB, ws.aM, Pm.wok_sh ws.ok, by have := Pm.mem_len ws.ok; omega, Pm.wok_small ws.ok, fun H' l sm hl hL => ?_⟩
    exact k _ l m (fun b o hb _ _ => sm _ _ hb) (hW0.mono sm) (.inl rfl) hl hL
theorem sc_wforget : FnScope ["self"] ["self"] (defScope s_Watcher_forget) := ⟨rfl, rfl, rfl, by decide +kernel, rfl, by decide +kernel, by decide +kernel⟩
theorem ok_forget {f f1 : Addr} {fd fd1 : FuncData} (F : Fun K "forget" "Watcher.forget" s_Watcher_forget f fd) (TV : VTxt mg) (TW : ClsT K CW wK) (C1 : Method P w K mg base 3 CW "restart" f1 fd1 ["self"] (spRestart K CW CU CP)) :
    FnOk P w K mg base CX0 4 f fd ["self"] (spForget K CW CU CP) := by
  refine F.ok sc_wforget (fun vs H Q E h => ?_) (fun cdv A outer s H vs Q E hr h => ?_)
  · obtain ⟨_, _, _, _, rfl, _⟩ := h
    rfl
  obtain ⟨y, z, m, st, rfl, hW, ⟨oz, hz⟩, k⟩ := h
  refine ⟨_, pss_cons (ps_if (pt_cmpR op_isN (pe_fld (pv 0) rfl) pe_non (nomark _)) (pss_one (ps_ret (pe_lst (pa_cons (pe_ci rfl TV.noRules) pa_nil)))) pss_nil)
    (pss_cons (ps_expr (pe_meth0 (pv 0) TW.cl C1.M C1.G hr C1.b .nil pass0)) (pss_one (ps_ret (pe_lst (pa_cons (pe_ci rfl TV.done) pa_nil))))), ?_⟩
  have hW0 := hW
  obtain ⟨hym, hzy, hzm, h4⟩ := hW
  cases st with
  | none =>
    obtain ⟨dx, mvs, hy, _⟩ := h4
    refine ⟨_, rfl, y, CW, dx, _, _, rfl, hy, TW.cl, TW.no 0 _ rfl, lk_zip wKnd (i := 0) rfl, rfl, _, rfl, ?_⟩
    refine ifT (by rfl) ?_
    exact ⟨(by show 1 ≤ sizeLine; decide), fun l hl => k.new hW0 hl⟩
  | some W =>
    obtain ⟨dx, u, lt, mvs, ws⟩ := h4
    refine ⟨_, rfl, y, CW, dx, _, _, rfl, ws.ins, TW.cl, TW.no 0 _ rfl, lk_zip wKnd (i := 0) rfl, rfl, _, rfl, ?_⟩
    refine ifF (by rfl) ?_
    have hbl : (Pw.freshOf W.watches).length ≤ 5000 := by
      have h1 := (Pm.freshOf_fit 0 W.watches).len
      have h2 := ws.ok.rd.kl
      omega
    refine ⟨_, rfl, y, dx, _, rfl, ws.ins, lk_none (by decide +kernel), y, dx, u, _, _, _, _, _, _, _, rfl, ws.ins, ws.rules, ws.yu, hbl, fun H1 mm mvs1 of hmm hy1 hM1 hA1 => ?_⟩
    have hmu : mm ∉ u.foot := fun q => by
      obtain ⟨o, ho⟩ := rules_foot ws.rules mm q
      rw [hmm] at ho
      cases ho
    have nym : y ≠ mm := ne_of_none ws.ins hmm
    refine ⟨(by show 1 ≤ sizeLine; decide), fun l hl => ?_⟩
    have hl0 : H l = none := by
      cases e : H l with
      | none => rfl
      | some o =>
        have nly : l ≠ y := fun q => by rw [q, hy1] at hl; cases hl
        have := of _ _ e nly
        rw [hl] at this
        cases this
    have W1 : WAt K CW CU CP z H1 y (some (Pw.fresh W.watches)) mm := ⟨nym, hzy, ne_of_none hz hmm, dx, u, 0, mvs1, ⟨hy1, rules_frame ws.rules of ws.yu, ws.yu, hmu, ws.zu, hM1, hA1, Pm.wok_fresh ws.ok.rd, fun t ht => by cases ht⟩⟩
    refine k _ l mm (fun b o hb hby _ => ?_) (W1.mono (same_upd (Same.refl H1) hl)) (.inr hmm) hl0 upd_same
    rw [upd_ne (ne_of_none hb hl0)]
    exact of _ _ hb hby
end
end Hw

set_option maxHeartbeats 4000000
namespace Hw
open PySem L2
open PyFlat (putRow putRows)
/-- a call's number, its numbers, its rows -/
def codeOf : Pw.Call → Int
  | .judge _ => 1 | .load _ => 2 | .entry _ _ => 3 | .wait _ _ => 4 | .told => 5 | .memory => 6 | .forget => 7
def numsOf : Pw.Call → List Int
  | .entry m _ => [m] | .wait m _ => [m] | _ => []
def rowsOf : Pw.Call → List (List Int)
  | .judge t => [Pm.intsB t] | .load t => [Pm.intsB t] | .entry _ ns => ns.map Pm.intsB | .wait _ ns => ns.map Pm.intsB | _ => []
theorem flat_is (c : Pw.Call) : Pm.flat c = (codeOf c :: numsOf c) :: rowsOf c := by cases c <;> rfl
theorem put_is (c : Pw.Call) : PyWide.put1 (Pm.flat c) = codeOf c :: (putRow (numsOf c) ++ (((rowsOf c).length : Int) :: putRows (rowsOf c))) := by rw [flat_is]; rfl
def spAnswerOf (K : PySem.W.Frag) (CW CU CP : Addr) : Sp := fun vs H Q _ => ∃ (y z m nl rl : Addr) (st : Pw.State) (c : Pw.Call) (rs : List V), vs = [.ref y, .int (codeOf c), .ref nl, .ref rl] ∧ WAt K CW CU CP z H y st m ∧ (∃ oz, H z = some oz) ∧
  SqL K H nl ((numsOf c).map V.int) ∧ SqL K H rl rs ∧ RowsR K H rs (rowsOf c) ∧ (rowsOf c).length ≤ 16000 ∧ (∀ x ∈ rowsOf c, x.length ≤ 16000) ∧
  Ans K CW CU CP z H y m (Pw.step st c).1 (PwNeutral.told (Pw.step st c).2) Q
structure ATxt (mg : Str → Option Value) : Prop where
  judge : CI mg "JUDGE" 1
  load : CI mg "LOAD" 2
  entry : CI mg "ENTRY" 3
  wait : CI mg "WAIT" 4
  told : CI mg "TOLD" 5
  memory : CI mg "MEMORY" 6
  forget : CI mg "FORGET" 7
theorem code_eq (i j : Int) : decide (V.int i = V.int j) = decide (i = j) := by
  by_cases h : i = j
  · rw [decide_eq_true h, decide_eq_true (by rw [h])]
  · rw [decide_eq_false h, decide_eq_false (fun q => h (V.int.inj q))]
theorem of_rules_told {t : List UInt8} {f : Pw.Watches → Pw.State × Pw.Answer} {s : Pw.State} (hf : ∀ ws, PwNeutral.told (f ws).2 = [((ws.length : Nat) : Int)]) : PwNeutral.told (Pw.ofRules t f s).2 = (readOut t).1 := by
  unfold Pw.ofRules readOut
  by_cases c : 4096 < t.length
  · rw [if_pos c, if_pos (show Pw.RULES < t.length from c)] <;> try rfl
  · rw [if_neg c, if_neg (show ¬ Pw.RULES < t.length from c)]
    cases e : Pw.read t with
    | error x => rfl
    | ok ws => exact hf ws
theorem of_rules_state {t : List UInt8} {f : Pw.Watches → Pw.State × Pw.Answer} {s : Pw.State} : (Pw.ofRules t f s).1 = (match (readOut t).2 with | none => s | some ws => (f ws).1) := by
  unfold Pw.ofRules readOut
  by_cases c : 4096 < t.length
  · rw [if_pos c, if_pos (show Pw.RULES < t.length from c)] <;> try rfl
  · rw [if_neg c, if_neg (show ¬ Pw.RULES < t.length from c)]
    cases e : Pw.read t with
    | error x => rfl
    | ok ws => rfl
theorem step_judge (st : Pw.State) (t : List UInt8) : (Pw.step st (.judge t)).1 = st ∧ PwNeutral.told (Pw.step st (.judge t)).2 = (readOut t).1 := by
  refine ⟨?_, of_rules_told fun ws => rfl⟩
  show (Pw.ofRules t (fun ws => (st, Pw.num (ws.length : Nat))) st).1 = st
  rw [of_rules_state]
  split <;> rfl
theorem step_load (st : Pw.State) (t : List UInt8) : (Pw.step st (.load t)).1 = (match (readOut t).2 with | none => st | some ws => some (Pw.fresh ws)) ∧ PwNeutral.told (Pw.step st (.load t)).2 = (readOut t).1 :=
  ⟨of_rules_state, of_rules_told fun ws => rfl⟩
theorem entry_told (st : Pw.State) (t : Int) (ns : List (List UInt8)) : PwNeutral.told (Pw.step st (.entry t ns)).2 = [(Pw.step st (.entry t ns)).2.num] := by
  cases st with
  | none => rfl
  | some W =>
    cases e : Pw.refused W t with
    | some z => rw [step_entry_ref e]; rfl
    | none => rw [step_entry_ok e]; rfl
theorem wait_told (st : Pw.State) (t : Int) (ns : List (List UInt8)) : PwNeutral.told (Pw.step st (.wait t ns)).2 = [(Pw.step st (.wait t ns)).2.num] := by
  cases st with
  | none => rfl
  | some W =>
    cases e : Pw.refused W t with
    | some z => rw [step_wait_ref e]; rfl
    | none => rw [step_wait_ok e]; rfl
theorem bv_ints (t : List UInt8) : (Pm.intsB t).map V.int = bv t := by
  unfold Pm.intsB bv
  rw [List.map_map]
  rfl
section
variable {P : Program} {w : World} {K : PySem.W.Frag} {mg : Str → Option Value} {base : Heap} {CW CU CP CG : Addr}
abbrev nAof : List Str := ["watcher", "call", "numbers", "rows"]
theorem sc_aof : FnScope nAof nAof (defScope s_answer_of) := ⟨rfl, rfl, rfl, by decide +kernel, rfl, by decide +kernel, by decide +kernel⟩
theorem ok_answer_of {f f1 f2 f3 f4 f5 f6 f7 : Addr} {fd fd1 fd2 fd3 fd4 fd5 fd6 fd7 : FuncData} (F : Fun K "answer_of" "answer_of" s_answer_of f fd) (TA : ATxt mg) (TW : ClsT K CW wK)
    (C1 : Method P w K mg base 9 CW "judge" f1 fd1 ["self", "row"] (spJudge K)) (C2 : Method P w K mg base 9 CW "load" f2 fd2 ["self", "row"] (spLoad K CW CU CP))
    (C3 : Method P w K mg base 4 CW "entry" f3 fd3 ["self", "moment", "names"] (spEntry K CW CU CP)) (C4 : Method P w K mg base 4 CW "wait" f4 fd4 ["self", "moment", "names"] (spWait K CW CU CP))
    (C5 : Method P w K mg base 1 CW "told" f5 fd5 ["self"] (spTold K CW CU CP)) (C6 : Method P w K mg base 3 CW "tell_memory" f6 fd6 ["self"] (spTell K CW CU CP)) (C7 : Method P w K mg base 4 CW "forget" f7 fd7 ["self"] (spForget K CW CU CP)) :
    FnOk P w K mg base CX0 12 f fd nAof (spAnswerOf K CW CU CP) := by
  refine F.ok sc_aof (fun vs H Q E h => ?_) (fun cdv A outer s H vs Q E hr h => ?_)
  · obtain ⟨_, _, _, _, _, _, _, _, rfl, _⟩ := h
    rfl
  obtain ⟨y, z, m, nl, rl, st, c, rs, rfl, hW, hz, hN, hRL, hR, hlen, hrow, k⟩ := h
  have hr9 : Room 9 _ := hr.mono (by decide)
  have hr4 : Room 4 _ := hr.mono (by decide)
  have hr3 : Room 3 _ := hr.mono (by decide)
  have hr1 : Room 1 _ := hr.mono (by decide)
  refine ⟨_, pss_cons (ps_if (pt_cmpR op_eq (pv 1) (pe_ci rfl TA.judge) (nomark _)) (pss_one (ps_ret (pe_meth (pv 0) TW.cl C1.M C1.G hr9 C1.b .nil pass0 (pa_cons (pe_ix ix_list (pv 3) pe_int (fun _ _ => rfl)) pa_nil)))) pss_nil)
    (pss_cons (ps_if (pt_cmpR op_eq (pv 1) (pe_ci rfl TA.load) (nomark _)) (pss_one (ps_ret (pe_meth (pv 0) TW.cl C2.M C2.G hr9 C2.b .nil pass0 (pa_cons (pe_ix ix_list (pv 3) pe_int (fun _ _ => rfl)) pa_nil)))) pss_nil)
    (pss_cons (ps_if (pt_cmpR op_eq (pv 1) (pe_ci rfl TA.entry) (nomark _)) (pss_one (ps_ret (pe_meth (pv 0) TW.cl C3.M C3.G hr4 C3.b .nil pass0 (pa_cons (pe_ix ix_list (pv 2) pe_int (fun _ _ => rfl)) (pa_cons (pv 3) pa_nil))))) pss_nil)
    (pss_cons (ps_if (pt_cmpR op_eq (pv 1) (pe_ci rfl TA.wait) (nomark _)) (pss_one (ps_ret (pe_meth (pv 0) TW.cl C4.M C4.G hr4 C4.b .nil pass0 (pa_cons (pe_ix ix_list (pv 2) pe_int (fun _ _ => rfl)) (pa_cons (pv 3) pa_nil))))) pss_nil)
    (pss_cons (ps_if (pt_cmpR op_eq (pv 1) (pe_ci rfl TA.told) (nomark _)) (pss_one (ps_ret (pe_meth0 (pv 0) TW.cl C5.M C5.G hr1 C5.b .nil pass0))) pss_nil)
    (pss_cons (ps_if (pt_cmpR op_eq (pv 1) (pe_ci rfl TA.memory) (nomark _)) (pss_one (ps_ret (pe_meth0 (pv 0) TW.cl C6.M C6.G hr3 C6.b .nil pass0))) pss_nil)
    (pss_cons (ps_if (pt_cmpR op_eq (pv 1) (pe_ci rfl TA.forget) (nomark _)) (pss_one (ps_ret (pe_meth0 (pv 0) TW.cl C7.M C7.G hr4 C7.b .nil pass0))) pss_nil)
    (pss_one ps_never))))))), ?_⟩
  obtain ⟨dy, vs4, hy⟩ : ∃ dy vs4, H y = some (.ins CW dy (wK.zip vs4)) := by
    obtain ⟨_, _, _, h4⟩ := hW
    cases st with
    | none => obtain ⟨dx, mvs, a1, _⟩ := h4; exact ⟨dx, _, a1⟩
    | some W => obtain ⟨dx, u, lt, mvs, w⟩ := h4; exact ⟨dx, _, w.ins⟩
  have one : ∀ t : List UInt8, RowsR K H rs [Pm.intsB t] → ∃ b, rs = [.ref b] ∧ SqL K H b (bv t) := by
    intro t h
    match rs, h with
    | [v], h =>
      obtain ⟨⟨b, rfl, hb⟩, _⟩ := h
      exact ⟨b, rfl, by rw [← bv_ints]; exact hb⟩
    | [], h => exact (h : False).elim
    | _ :: _ :: _, h => exact (h.2 : False).elim
  refine ⟨_, rfl, rfl, _, rfl, ?_⟩
  rw [code_eq]
  cases c with
  | judge t =>
    refine ifT (by rfl) ?_
    obtain ⟨b, rfl, hb⟩ := one t hR
    obtain ⟨e1, e2⟩ := step_judge st t
    rw [e1, e2] at k
    have hl := hrow (Pm.intsB t) (List.mem_cons_self ..)
    rw [show (Pm.intsB t).length = t.length from List.length_map ..] at hl
    exact ⟨_, rfl, y, dy, _, rfl, hy, lk_none (by decide +kernel), _, rfl, rl, _, _, .ref b, rfl, rfl, hRL, atI0, y, b, t, rfl, hb, hl, fun H' l sm hl0 hL => k _ l m (fun b o hb _ _ => sm _ _ hb) (hW.mono sm) (.inl rfl) hl0 hL⟩
  | load t =>
    refine ifF (by rfl) ?_
    refine ⟨_, rfl, rfl, _, rfl, ?_⟩
    rw [code_eq]
    refine ifT (by rfl) ?_
    obtain ⟨b, rfl, hb⟩ := one t hR
    obtain ⟨e1, e2⟩ := step_load st t
    rw [e1, e2] at k
    have hl := hrow (Pm.intsB t) (List.mem_cons_self ..)
    rw [show (Pm.intsB t).length = t.length from List.length_map ..] at hl
    exact ⟨_, rfl, y, dy, _, rfl, hy, lk_none (by decide +kernel), _, rfl, rl, _, _, .ref b, rfl, rfl, hRL, atI0, y, b, z, m, st, t, rfl, hW, hz, hb, hl, k⟩
  | entry t ns =>
    refine ifF (by rfl) ?_
    refine ⟨_, rfl, rfl, _, rfl, ?_⟩
    rw [code_eq]
    refine ifF (by rfl) ?_
    refine ⟨_, rfl, rfl, _, rfl, ?_⟩
    rw [code_eq]
    refine ifT (by rfl) ?_
    rw [entry_told] at k
    have hn : ns.length ≤ 16000 := by rw [show ns.length = (ns.map Pm.intsB).length from (List.length_map ..).symm]; exact hlen
    have hb : ∀ n ∈ ns, n.length ≤ 16000 := fun n h => by
      have := hrow (Pm.intsB n) (List.mem_map_of_mem h)
      rw [show (Pm.intsB n).length = n.length from List.length_map ..] at this
      exact this
    exact ⟨_, rfl, y, dy, _, rfl, hy, lk_none (by decide +kernel), _, rfl, nl, _, _, .int t, rfl, rfl, hN, atI0, _, rfl, y, rl, z, m, st, t, rs, ns, rfl, hW, hRL, hR, hn, hb, k⟩
  | wait t ns =>
    refine ifF (by rfl) ?_
    refine ⟨_, rfl, rfl, _, rfl, ?_⟩
    rw [code_eq]
    refine ifF (by rfl) ?_
    refine ⟨_, rfl, rfl, _, rfl, ?_⟩
    rw [code_eq]
    refine ifF (by rfl) ?_
    refine ⟨_, rfl, rfl, _, rfl, ?_⟩
    rw [code_eq]
    refine ifT (by rfl) ?_
    rw [wait_told] at k
    have hn : ns.length ≤ 16000 := by rw [show ns.length = (ns.map Pm.intsB).length from (List.length_map ..).symm]; exact hlen
    have hb : ∀ n ∈ ns, n.length ≤ 16000 := fun n h => by
      have := hrow (Pm.intsB n) (List.mem_map_of_mem h)
      rw [show (Pm.intsB n).length = n.length from List.length_map ..] at this
      exact this
    exact ⟨_, rfl, y, dy, _, rfl, hy, lk_none (by decide +kernel), _, rfl, nl, _, _, .int t, rfl, rfl, hN, atI0, _, rfl, y, rl, z, m, st, t, rs, ns, rfl, hW, hRL, hR, hn, hb, k⟩
  | told =>
    refine ifF (by rfl) ?_
    refine ⟨_, rfl, rfl, _, rfl, ?_⟩
    rw [code_eq]
    refine ifF (by rfl) ?_
    refine ⟨_, rfl, rfl, _, rfl, ?_⟩
    rw [code_eq]
    refine ifF (by rfl) ?_
    refine ⟨_, rfl, rfl, _, rfl, ?_⟩
    rw [code_eq]
    refine ifF (by rfl) ?_
    refine ⟨_, rfl, rfl, _, rfl, ?_⟩
    rw [code_eq]
    refine ifT (by rfl) ?_
    exact ⟨_, rfl, y, dy, _, rfl, hy, lk_none (by decide +kernel), y, z, m, st, rfl, hW, k⟩
  | memory =>
    refine ifF (by rfl) ?_
    refine ⟨_, rfl, rfl, _, rfl, ?_⟩
    rw [code_eq]
    refine ifF (by rfl) ?_
    refine ⟨_, rfl, rfl, _, rfl, ?_⟩
    rw [code_eq]
    refine ifF (by rfl) ?_
    refine ⟨_, rfl, rfl, _, rfl, ?_⟩
    rw [code_eq]
    refine ifF (by rfl) ?_
    refine ⟨_, rfl, rfl, _, rfl, ?_⟩
    rw [code_eq]
    refine ifF (by rfl) ?_
    refine ⟨_, rfl, rfl, _, rfl, ?_⟩
    rw [code_eq]
    refine ifT (by rfl) ?_
    exact ⟨_, rfl, y, dy, _, rfl, hy, lk_none (by decide +kernel), y, z, m, st, rfl, hW, k⟩
  | forget =>
    refine ifF (by rfl) ?_
    refine ⟨_, rfl, rfl, _, rfl, ?_⟩
    rw [code_eq]
    refine ifF (by rfl) ?_
    refine ⟨_, rfl, rfl, _, rfl, ?_⟩
    rw [code_eq]
    refine ifF (by rfl) ?_
    refine ⟨_, rfl, rfl, _, rfl, ?_⟩
    rw [code_eq]
    refine ifF (by rfl) ?_
    refine ⟨_, rfl, rfl, _, rfl, ?_⟩
    rw [code_eq]
    refine ifF (by rfl) ?_
    refine ⟨_, rfl, rfl, _, rfl, ?_⟩
    rw [code_eq]
    refine ifF (by rfl) ?_
    refine ⟨_, rfl, rfl, _, rfl, ?_⟩
    rw [code_eq]
    refine ifT (by rfl) ?_
    exact ⟨_, rfl, y, dy, _, rfl, hy, lk_none (by decide +kernel), y, z, m, st, rfl, hW, hz, k⟩
end
def spAnswers (K : PySem.W.Frag) : Sp := fun vs H Q _ => ∃ (a : Addr) (ns : List Int), vs = [.ref a] ∧ SqL K H a (ns.map V.int) ∧ ns.length ≤ 16000 ∧ PyWrpast.answers_asked ns = true ∧
  ∀ H' p, H' p = some (.lst ((PyWrpast.answers ns).map V.int)) → Q (.ref p) H'
theorem putRows_len : ∀ rows : List (List Int), ((rows.map fun x => (1 : Int) + (x.length : Nat)).sum) = ((putRows rows).length : Nat)
  | [] => rfl
  | x :: r => by
    rw [List.map_cons, List.sum_cons, putRows_len r]
    show _ = (((putRow x ++ putRows r).length : Nat) : Int)
    rw [List.length_append]
    simp [putRow]
    omega
theorem row_le : ∀ {rows : List (List Int)} {x : List Int}, x ∈ rows → x.length ≤ (putRows rows).length
  | y :: r, x, h => by
    show _ ≤ (putRow y ++ putRows r).length
    rw [List.length_append]
    rcases List.mem_cons.mp h with e | e
    · rw [e]; simp [putRow]; omega
    · have := row_le e; omega
theorem rows_le : ∀ (rows : List (List Int)), rows.length ≤ (putRows rows).length
  | [] => Nat.le_refl _
  | y :: r => by
    show _ ≤ (putRow y ++ putRows r).length
    rw [List.length_append]
    have := rows_le r
    simp [putRow]
    omega
theorem toldOf_le : ∀ (ps : List Pw.Call) (s : Pw.State) (c : Pw.Call) (r : List Pw.Call), (Pm.toldOf s ps).length + (PwNeutral.told (Pw.step (Pm.stOf s ps) c).2).length + 1 ≤ (Pm.toldOf s (ps ++ c :: r)).length
  | [], s, c, r => by
    show _ ≤ (_ :: (PwNeutral.told (Pw.step s c).2 ++ Pm.toldOf (Pw.step s c).1 r)).length
    simp [Pm.toldOf, Pm.stOf]
  | p :: ps, s, c, r => by
    have := toldOf_le ps (Pw.step s p).1 c r
    show (_ :: (PwNeutral.told (Pw.step s p).2 ++ Pm.toldOf (Pw.step s p).1 ps)).length + _ + 1 ≤ (_ :: (PwNeutral.told (Pw.step s p).2 ++ Pm.toldOf (Pw.step s p).1 (ps ++ c :: r))).length
    have e : Pm.stOf s (p :: ps) = Pm.stOf (Pw.step s p).1 ps := rfl
    rw [e]
    simp only [List.length_cons, List.length_append]
    omega
theorem put_append : ∀ (x y : List (List (List Int))), PyWide.put (x ++ y) = PyWide.put x ++ PyWide.put y
  | [], y => rfl
  | c :: x, y => by
    show PyWide.put1 c ++ PyWide.put (x ++ y) = (PyWide.put1 c ++ PyWide.put x) ++ PyWide.put y
    rw [put_append x y, List.append_assoc]
section
variable {P : Program} {w : World} {K : PySem.W.Frag} {mg : Str → Option Value} {base : Heap} {CW CU CP CG : Addr}
abbrev nAns : List Str := ["calls", "watcher", "answered", "place", "call", "numbers", "rows", "row", "answer"]
theorem sc_ans : FnScope nAns ["calls"] (defScope s_answers) := ⟨rfl, rfl, rfl, by decide +kernel, rfl, by decide +kernel, by decide +kernel⟩
theorem ok_answers {f f1 f2 f3 f4 : Addr} {fd fd1 fd2 fd3 fd4 : FuncData} (F : Fun K "answers" "answers" s_answers f fd) (hlen : mg "len" = none) (hsum : mg "sum" = none)
    (C1 : Maker P w K mg base 1 "Watcher" CW f1 fd1 ["self"] (spWInit CW)) (C2 : Callee P w K mg base 1 "row_at" f2 fd2 ["calls", "place"] (spRowAt K)) (C3 : Callee P w K mg base 2 "rows_at" f3 fd3 ["calls", "place"] (spRowsAt K))
    (C4 : Callee P w K mg base 12 "answer_of" f4 fd4 ["watcher", "call", "numbers", "rows"] (spAnswerOf K CW CU CP)) : FnOk P w K mg base CX0 13 f fd ["calls"] (spAnswers K) := by
  refine F.ok sc_ans (fun vs H Q E h => ?_) (fun cdv A outer s H vs Q E hr h => ?_)
  · obtain ⟨_, _, rfl, _⟩ := h
    rfl
  obtain ⟨a, ns, rfl, hS, hlenn, hask, k⟩ := h
  have hr1 : Room 1 _ := hr.mono (by decide)
  have hr2 : Room 2 _ := hr.mono (by decide)
  refine ⟨_, pss_cons (ps_set (i := 1) sc_ans.nd rfl (.inl rfl) (pe_make0 C1.M C1.G hr2 rfl C1.at_ C1.b .nil pass0))
    (pss_cons (ps_set (i := 2) sc_ans.nd rfl (.inl rfl) (pe_lst pa_nil)) (pss_cons (ps_set (i := 3) sc_ans.nd rfl (.inl rfl) pe_int)
    (pss_cons (ps_while PassesOwn.never (pt_cmpR op_lt (pv 3) (pe_callB call_len_seq (by rfl) hlen PySem.boot_len (pa_cons (pv 0) pa_nil)) (nomark _))
      (pss_cons (ps_set (i := 4) sc_ans.nd rfl (.inl rfl) (pe_ix ix_list (pv 0) (pv 3) (fun _ _ => rfl)))
      (pss_cons (ps_set (i := 5) sc_ans.nd rfl (.inl rfl) (pe_call C2.G hr1 rfl C2.at_ C2.kp C2.b .nil pass0 (pa_cons (pv 0) (pa_cons (pe_op op_add (pv 3) pe_int) pa_nil))))
      (pss_cons (ps_aug (i := 3) sc_ans.nd rfl (.inl rfl) (pe_op op_add pe_int (pe_callB call_len_seq (by rfl) hlen PySem.boot_len (pa_cons (pv 5) pa_nil))) ip_add)
      (pss_cons (ps_set (i := 6) sc_ans.nd rfl (.inl rfl) (pe_call C3.G hr2 rfl C3.at_ C3.kp C3.b .nil pass0 (pa_cons (pv 0) (pa_cons (pv 3) pa_nil))))
      (pss_cons (ps_aug (i := 3) sc_ans.nd rfl (.inl rfl) (pe_op op_add pe_int (pe_callB (cr_sum rfl) (by rfl) hsum PyProof.Rows.boot_sum (pa_cons (pe_lc (own := [("row", 7)]) (g := gName 7) (tt := tYes)
          (te := tOp (rI0 fun i j => .int (i + j)) (tC (.int 1)) (tCB (fun xs H Q => ∃ p ys, xs = [.ref p] ∧ (SqL K H p ys ∨ SqT K H p ys) ∧ Q (.int ys.length) H) (tCons (tVar 7) tNil))) rfl sc_ans.nd (pi_list (pv 6))
          (blkOk_by (N := nAns) (sc := defScope s_answers) (by decide +kernel)) (fun _ _ _ _ _ => pg_name (i := 7) sc_ans.nd rfl (Or.inl rfl)) (fun _ _ _ _ _ => pts_nil)
          (fun _ _ _ _ _ => pe_op op_add pe_int (pe_callB call_len_seq (by rfl) hlen PySem.boot_len (pa_cons (pv 7) pa_nil)))) pa_nil))) ip_add)
      (pss_cons (ps_set (i := 8) sc_ans.nd rfl (.inl rfl) (pe_call C4.G hr rfl C4.at_ C4.kp C4.b .nil pass0 (pa_cons (pv 1) (pa_cons (pv 4) (pa_cons (pv 5) (pa_cons (pv 6) pa_nil))))))
      (pss_cons (ps_expr (pe_bm PySem.F.plainAttrs_list PySem.F.slot_list_append PySem.F.type_list_append mt_append (pv 2) (pa_cons (pe_callB call_len_seq (by rfl) hlen PySem.boot_len (pa_cons (pv 8) pa_nil)) pa_nil)))
      (pss_one (ps_expr (pe_bm PySem.F.plainAttrs_list PySem.F.slot_list_extend PySem.F.type_list_extend mt_extend (pv 2) (pa_cons (pv 8) pa_nil))))))))))))
    (pss_one (ps_ret (pv 2)))))), ?_⟩
  obtain ⟨ps, hput, hans, hbig⟩ := Pm.asked_calls hask
  rw [hans] at k
  intro y dy ny ndy ney
  refine ⟨y, dy, rfl, upd_same, fun H2 m fr hm hy hmm => ⟨rfl, ?_⟩⟩
  obtain ⟨nmy, hm⟩ := fresh_upd hm
  obtain ⟨nmd, hm⟩ := fresh_upd hm
  have s2 : Same H H2 := fun b o hb => fr b o (by rw [upd_ne (ne_of_none hb ny), upd_ne (ne_of_none hb ndy)]; exact hb) (ne_of_none hb ny)
  refine ⟨Nat.zero_le _, fun z hz => ?_⟩
  have hz0 : H z = none := s2.free hz
  have s3 : Same H2 (upd H2 z (.lst [])) := same_upd (Same.refl _) hz
  have nzy : z ≠ y := fun e => by rw [e, hy] at hz; cases hz
  have nzm : z ≠ m := fun e => by rw [e, hmm] at hz; cases hz
  have W3 : WAt K CW CU CP z (upd H2 z (.lst [])) y none m := ⟨nmy.symm, nzy, nzm, dy, [], s3 _ _ hy, s3 _ _ hmm⟩
  refine ⟨fun c σ H' => ∃ (done rem : List Pw.Call) (m : Addr) (v4 v5 v6 v7 v8 : Option V), ps = done ++ rem ∧ σ = [some (.ref a), some (.ref y), some (.ref z), some (.int ((PyWide.put (done.map Pm.flat)).length : Nat)), v4, v5, v6, v7, v8] ∧ Same H H' ∧
    H' z = some (.lst ((Pm.toldOf none done).map V.int)) ∧ WAt K CW CU CP z H' y (Pm.stOf none done) m ∧ H m = none ∧ c = rem.length, ⟨_, [], ps, m, none, none, none, none, none, rfl, rfl, s2.trans s3, upd_same, W3, hm, rfl⟩, ?_⟩
  rintro cc σ H' ⟨done, rem, m, v4, v5, v6, v7, v8, hps, rfl, sm, hzL, hW, hm0, rfl⟩
  refine ⟨_, rfl, _, rfl, a, _, rfl, .inl (sm.seq hS), _, _, rfl, rfl, _, rfl, ?_⟩
  rw [List.length_map]
  cases rem with
  | nil =>
    rw [List.append_nil] at hps
    subst hps
    refine ifF (decide_eq_false (by rw [← hput]; omega)) ?_
    exact ⟨_, rfl, k _ _ hzL⟩
  | cons c rem =>
    obtain ⟨pre, hpre⟩ : ∃ pre, pre = PyWide.put (done.map Pm.flat) := ⟨_, rfl⟩
    obtain ⟨rest, hrest⟩ : ∃ rest, rest = PyWide.put (rem.map Pm.flat) := ⟨_, rfl⟩
    have hns : ns = pre ++ (codeOf c :: (putRow (numsOf c) ++ (((rowsOf c).length : Int) :: (putRows (rowsOf c) ++ rest)))) := by
      rw [hput, hps, List.map_append, put_append, List.map_cons, hpre, hrest]
      show _ ++ (PyWide.put1 (Pm.flat c) ++ _) = _
      rw [put_is]
      simp [List.append_assoc]
    have hdone : PyWide.put ((done ++ [c]).map Pm.flat) = pre ++ (codeOf c :: (putRow (numsOf c) ++ (((rowsOf c).length : Int) :: putRows (rowsOf c)))) := by
      rw [List.map_append, put_append, hpre]
      show _ ++ (PyWide.put1 (Pm.flat c) ++ []) = _
      rw [put_is, List.append_nil]
    rw [← hpre]
    have hlt : pre.length < ns.length := by rw [hns]; simp
    refine ifT (decide_eq_true (by omega)) ?_
    have hpl : (putRows (rowsOf c)).length ≤ 16000 := by
      have := congrArg List.length hns
      simp only [List.length_append, List.length_cons] at this
      omega
    refine ⟨fun σ' H'' => ∃ (m : Addr) (v4 v5 v6 v7 v8 : Option V), σ' = [some (.ref a), some (.ref y), some (.ref z), some (.int ((PyWide.put ((done ++ [c]).map Pm.flat)).length : Nat)), v4, v5, v6, v7, v8] ∧ Same H H'' ∧
      H'' z = some (.lst ((Pm.toldOf none (done ++ [c])).map V.int)) ∧ WAt K CW CU CP z H'' y (Pm.stOf none (done ++ [c])) m ∧ H m = none,
      fun σ' H'' ⟨m, v4, v5, v6, v7, v8, e1, e2, e3, e4, e5⟩ => ⟨rem.length, by simp, done ++ [c], rem, m, v4, v5, v6, v7, v8, by rw [hps]; simp, e1, e2, e3, e4, e5, rfl⟩, ?_⟩
    have hget : (ns.map V.int)[pre.length]? = some (.int (codeOf c)) := by
      rw [hns, List.getElem?_map, List.getElem?_append_right (Nat.le_refl _), Nat.sub_self]
      rfl
    refine ⟨_, rfl, _, rfl, a, _, _, .int (codeOf c), rfl, rfl, sm.seq hS, atI_nat hget, ?_⟩
    have e1 : ns = (pre ++ [codeOf c]) ++ (putRow (numsOf c) ++ (((rowsOf c).length : Int) :: (putRows (rowsOf c) ++ rest))) := by rw [hns]; simp [List.append_assoc]
    refine ⟨_, rfl, _, rfl, _, _, rfl, rfl, a, pre ++ [codeOf c], numsOf c, ((rowsOf c).length : Int) :: (putRows (rowsOf c) ++ rest), ?_, by rw [← e1]; exact sm.seq hS, fun H1 nl sm1 hnl hN => ?_⟩
    · simp
    refine ⟨_, rfl, _, rfl, nl, _, rfl, .inl (SqL.of hN), _, _, rfl, rfl, _, _, rfl, rfl, ?_⟩
    rw [List.length_map]
    have e2 : ns = (pre ++ (codeOf c :: putRow (numsOf c))) ++ (((rowsOf c).length : Int) :: (putRows (rowsOf c) ++ rest)) := by rw [hns]; simp [List.append_assoc]
    refine ⟨_, rfl, _, rfl, a, pre ++ (codeOf c :: putRow (numsOf c)), rowsOf c, rest, ?_, by rw [← e2]; exact (sm.trans sm1).seq hS, by have := rows_le (rowsOf c); omega, fun H3 rl rs sm3 hrl hR hRR => ?_⟩
    · have e : ((pre.length : Int) + (2 + ((numsOf c).length : Nat))) = ((pre ++ (codeOf c :: putRow (numsOf c))).length : Nat) := by simp [putRow]; omega
      exact congrArg (fun i => [V.ref a, V.int i]) e
    refine ⟨_, rfl, _, rfl, rl, rfl, ⟨_, SqL.of hR⟩, fun D hD => ?_⟩
    refine lc_list (K := K) (a := rl) (xs := rs) (fun i H4 => Same H3 H4 ∧ H4 D = some (.lst (((rowsOf c).take i).map fun x => V.int (1 + (x.length : Nat))))) ?_ ?_ ?_ ?_
    · exact ⟨same_upd (Same.refl _) hD, upd_same⟩
    · rintro i H4 _ ⟨s4, _⟩
      exact SqL.of (s4 _ _ hR)
    · rintro i x H4 hx ⟨s4, hL⟩
      obtain ⟨row, hrow, b, rfl, hb⟩ := A2.get' hRR hx
      refine ⟨rfl, _, rfl, b, _, rfl, .inl (s4.seq hb), _, _, rfl, rfl, _, hL, ?_, same_upd s4 hD, ?_⟩
      · rw [List.length_map, List.length_take]
        have := rows_le (rowsOf c)
        exact Nat.lt_of_le_of_lt (show min i (rowsOf c).length ≤ 16000 by omega) (by decide)
      · rw [upd_same, take_more hrow, List.map_append, List.length_map]
        rfl
    · rintro H4 ⟨s4, hL⟩
      have hrsl : rs.length = (rowsOf c).length := A2.len hRR
      rw [hrsl, List.take_length] at hL
      have hL2 : H4 D = some (.lst (((rowsOf c).map fun x => (1 : Int) + (x.length : Nat)).map V.int)) := by rw [hL, List.map_map]; rfl
      refine ⟨D, _, rfl, SqL.of hL2, _, _, rfl, rfl, _, _, rfl, rfl, ?_⟩
      rw [putRows_len]
      have s14 := (sm1.trans sm3).trans s4
      have hW4 := hW.mono s14
      have hz4 := s14 _ _ hzL
      refine ⟨_, rfl, _, rfl, _, rfl, _, rfl, y, z, m, nl, rl, Pm.stOf none done, c, rs, rfl, hW4, ⟨_, hz4⟩, SqL.of ((sm3.trans s4) _ _ hN), SqL.of (s4 _ _ hR), hRR.same s4, by have := rows_le (rowsOf c); omega, fun x hx => by have := row_le hx; omega, fun H5 l m5 fr5 hW5 hm5 hl hL5 => ?_⟩
      have sm4 := sm.trans s14
      have s5 : Same H H5 := fun b o hb => fr5 b o (sm4 _ _ hb) (ne_of_none hb ny) (ne_of_none hb hm0)
      have hz5 : H5 z = some (.lst ((Pm.toldOf none done).map V.int)) := fr5 _ _ hz4 hW.2.1 hW.2.2.1
      have nlz : l ≠ z := fun e => by rw [e, hz4] at hl; cases hl
      have htl := toldOf_le done none c rem
      rw [← hps] at htl
      refine ⟨_, rfl, .inl ⟨rfl, _, SqL.of hz5⟩, _, rfl, l, _, rfl, .inl (SqL.of hL5), z, _, _, rfl, rfl, hz5, ?_, ?_⟩
      · rw [List.length_map]
        exact Nat.lt_of_le_of_lt (show (Pm.toldOf none done).length ≤ 10000000 by omega) (by decide)
      have W6 := hW5.at_z (o := .lst ((Pm.toldOf none done).map V.int ++ [.int (((PwNeutral.told (Pw.step (Pm.stOf none done) c).2).map V.int).length : Nat)])) (by rw [hz5]; trivial)
      refine ⟨_, rfl, .inl ⟨rfl, _, SqL.of upd_same⟩, _, rfl, z, l, _, _, rfl, rfl, upd_same, by rw [upd_ne nlz]; exact hL5, ?_, ?_⟩
      · rw [List.length_append, List.length_map, List.length_map]
        exact Nat.le_trans (show (Pm.toldOf none done).length + 1 + (PwNeutral.told (Pw.step (Pm.stOf none done) c).2).length ≤ 10000000 by omega) (by decide)
      have hst : Pm.stOf none (done ++ [c]) = (Pw.step (Pm.stOf none done) c).1 := by unfold Pm.stOf; rw [List.foldl_append]; rfl
      refine ⟨m5, some (.int (codeOf c)), some (.ref nl), some (.ref rl), v7, some (.ref l), ?_, same_upd (same_upd s5 hz0) hz0, ?_, ?_, ?_⟩
      · have e : ((pre.length : Int) + (2 + ((numsOf c).length : Nat)) + (1 + ((putRows (rowsOf c)).length : Nat))) = ((PyWide.put ((done ++ [c]).map Pm.flat)).length : Nat) := by rw [hdone]; simp [putRow]; omega
        rw [← e]
        rfl
      · rw [upd_same, Pm.toldOf_snoc, List.map_append, List.length_map, List.append_assoc]
        rfl
      · rw [hst]
        exact W6.at_z (by rw [upd_same]; trivial)
      · rcases hm5 with e | e
        · rw [e]; exact hm0
        · exact sm4.free e
end
end Hw

set_option maxHeartbeats 4000000
namespace Hw
open PySem L2
theorem top_ok {P : Program} {w : World} {K : PySem.W.Frag} {mg : Str → Option Value} {base : Heap} {CP CU CG CW f_answers : Addr} {fd_answers : FuncData}
    (tV : VTxt mg) (tA : ATxt mg) (n_len : mg "len" = none) (n_sum : mg "sum" = none) (n_list : mg "list" = none)
    (kU : ClsT K CU uK) (kG : ClsT K CG gK) (kW : ClsT K CW wK) (k_Watcher : ClsF K CW) (g_Watcher : mg "Watcher" = some (.ref CW))
    {f_read : Addr} {fd_read : FuncData} (c_read : Callee P w K mg base 8 "read" f_read fd_read ["row"] (spRead K CG CU CP))
    {f_follow : Addr} {fd_follow : FuncData} (c_follow : Callee P w K mg base 3 "follow" f_follow fd_follow ["rules", "memory", "moment", "names"] (spFollow K CU CP))
    {f_spell_names : Addr} {fd_spell_names : FuncData} (c_spell_names : Callee P w K mg base 3 "spell_names" f_spell_names fd_spell_names ["names"] (spNames K))
    {f_row_at : Addr} {fd_row_at : FuncData} (c_row_at : Callee P w K mg base 1 "row_at" f_row_at fd_row_at ["calls", "place"] (spRowAt K))
    {f_rows_at : Addr} {fd_rows_at : FuncData} (c_rows_at : Callee P w K mg base 2 "rows_at" f_rows_at fd_rows_at ["calls", "place"] (spRowsAt K))
    {f_first_memory : Addr} {fd_first_memory : FuncData} (c_first_memory : Callee P w K mg base 2 "first_memory" f_first_memory fd_first_memory ["kinds"] (spFirstMem K))
    {f_told_memory : Addr} {fd_told_memory : FuncData} (c_told_memory : Callee P w K mg base 2 "told_memory" f_told_memory fd_told_memory ["kinds", "memory"] (spToldMem K))
    (i_Watcher : MethF K CW "__init__" "Watcher.__init__" s_Watcher_init)
    (x_refusal_at : MethF K CW "refusal_at" "Watcher.refusal_at" s_Watcher_refusal_at)
    (x_judge : MethF K CW "judge" "Watcher.judge" s_Watcher_judge)
    (x_restart : MethF K CW "restart" "Watcher.restart" s_Watcher_restart)
    (x_load : MethF K CW "load" "Watcher.load" s_Watcher_load)
    (x_entry : MethF K CW "entry" "Watcher.entry" s_Watcher_entry)
    (x_wait : MethF K CW "wait" "Watcher.wait" s_Watcher_wait)
    (x_told : MethF K CW "told" "Watcher.told" s_Watcher_told)
    (x_tell_memory : MethF K CW "tell_memory" "Watcher.tell_memory" s_Watcher_tell_memory)
    (x_forget : MethF K CW "forget" "Watcher.forget" s_Watcher_forget)
    (d_answer_of : DefF K mg "answer_of" s_answer_of)
    (F_answers : Fun K "answers" "answers" s_answers f_answers fd_answers) :
    FnOk P w K mg base CX0 13 f_answers fd_answers ["calls"] (spAnswers K) := by
  obtain ⟨f_Watcher, fd_Watcher, F_Watcher, M_Watcher⟩ := i_Watcher
  have m_Watcher := Maker.mk (P := P) (w := w) (base := base) g_Watcher ⟨k_Watcher.makes, M_Watcher.at_, M_Watcher.fn, k_Watcher.kp⟩ (F_Watcher.binds (ps := ["self"]) fun _ _ _ _ _ _ us hl => match us, hl with | [_], _ => rfl) (ok_winit F_Watcher kW)
  obtain ⟨f_refusal_at, fd_refusal_at, F_refusal_at, M_refusal_at⟩ := x_refusal_at
  have m_refusal_at := Method.mk (P := P) (w := w) (mg := mg) (base := base) M_refusal_at (F_refusal_at.binds (ps := ["self", "moment"]) fun _ _ _ _ _ _ us hl => match us, hl with | [_, _], _ => rfl) (ok_refusal (CU := CU) (CP := CP) F_refusal_at tV kW)
  obtain ⟨f_judge, fd_judge, F_judge, M_judge⟩ := x_judge
  have m_judge := Method.mk (P := P) (w := w) (mg := mg) (base := base) M_judge (F_judge.binds (ps := ["self", "row"]) fun _ _ _ _ _ _ us hl => match us, hl with | [_, _], _ => rfl) (ok_judge F_judge kG c_read)
  obtain ⟨f_restart, fd_restart, F_restart, M_restart⟩ := x_restart
  have m_restart := Method.mk (P := P) (w := w) (mg := mg) (base := base) M_restart (F_restart.binds (ps := ["self"]) fun _ _ _ _ _ _ us hl => match us, hl with | [_], _ => rfl) (ok_restart (CP := CP) F_restart kU kW c_first_memory)
  obtain ⟨f_load, fd_load, F_load, M_load⟩ := x_load
  have m_load := Method.mk (P := P) (w := w) (mg := mg) (base := base) M_load (F_load.binds (ps := ["self", "row"]) fun _ _ _ _ _ _ us hl => match us, hl with | [_, _], _ => rfl) (ok_load F_load kG kW c_read m_restart)
  obtain ⟨f_entry, fd_entry, F_entry, M_entry⟩ := x_entry
  have m_entry := Method.mk (P := P) (w := w) (mg := mg) (base := base) M_entry (F_entry.binds (ps := ["self", "moment", "names"]) fun _ _ _ _ _ _ us hl => match us, hl with | [_, _, _], _ => rfl) (ok_entry F_entry tV kW m_refusal_at c_follow c_spell_names)
  obtain ⟨f_wait, fd_wait, F_wait, M_wait⟩ := x_wait
  have m_wait := Method.mk (P := P) (w := w) (mg := mg) (base := base) M_wait (F_wait.binds (ps := ["self", "moment", "names"]) fun _ _ _ _ _ _ us hl => match us, hl with | [_, _, _], _ => rfl) (ok_wait F_wait tV kW n_list m_refusal_at c_follow c_spell_names)
  obtain ⟨f_told, fd_told, F_told, M_told⟩ := x_told
  have m_told := Method.mk (P := P) (w := w) (mg := mg) (base := base) M_told (F_told.binds (ps := ["self"]) fun _ _ _ _ _ _ us hl => match us, hl with | [_], _ => rfl) (ok_told (CU := CU) (CP := CP) F_told tV kW)
  obtain ⟨f_tell_memory, fd_tell_memory, F_tell_memory, M_tell_memory⟩ := x_tell_memory
  have m_tell_memory := Method.mk (P := P) (w := w) (mg := mg) (base := base) M_tell_memory (F_tell_memory.binds (ps := ["self"]) fun _ _ _ _ _ _ us hl => match us, hl with | [_], _ => rfl) (ok_tell (CP := CP) F_tell_memory tV kU kW c_told_memory)
  obtain ⟨f_forget, fd_forget, F_forget, M_forget⟩ := x_forget
  have m_forget := Method.mk (P := P) (w := w) (mg := mg) (base := base) M_forget (F_forget.binds (ps := ["self"]) fun _ _ _ _ _ _ us hl => match us, hl with | [_], _ => rfl) (ok_forget F_forget tV kW m_restart)
  obtain ⟨f_answer_of, fd_answer_of, F_answer_of, at_answer_of⟩ := d_answer_of
  have c_answer_of := Callee.mk (P := P) (w := w) (base := base) at_answer_of F_answer_of.kp (F_answer_of.binds (ps := ["watcher", "call", "numbers", "rows"]) fun _ _ _ _ _ _ us hl => match us, hl with | [_, _, _, _], _ => rfl) (ok_answer_of F_answer_of tA kW m_judge m_load m_entry m_wait m_told m_tell_memory m_forget)
  exact ok_answers F_answers n_len n_sum m_Watcher c_row_at c_rows_at c_answer_of
end Hw

set_option maxHeartbeats 4000000
namespace Hw
open PySem L2
theorem main_ok {P : Program} {w : World} {K : PySem.W.Frag} {h : Heap} {mg : Str → Option Value} {fa CP CU CG CR CW aR aO aJ aE aM aS : Addr} (KX : K.In h) (G : h.Ns mainGlobals mg) (hfa : mg "answers" = some (.ref fa))
    (a_Part : PySem.W.nsIn K mainGlobals "Part" = some (some (.ref CP)))
    (k_Part : ClsF K CP)
    (n_Part : ∀ (i : Nat) (f : Str), pK[i]? = some f → NoAttr K CP f)
    (a_Rules : PySem.W.nsIn K mainGlobals "Rules" = some (some (.ref CU)))
    (k_Rules : ClsF K CU)
    (n_Rules : ∀ (i : Nat) (f : Str), uK[i]? = some f → NoAttr K CU f)
    (a_Reading : PySem.W.nsIn K mainGlobals "Reading" = some (some (.ref CG)))
    (k_Reading : ClsF K CG)
    (n_Reading : ∀ (i : Nat) (f : Str), gK[i]? = some f → NoAttr K CG f)
    (a_Reader : PySem.W.nsIn K mainGlobals "Reader" = some (some (.ref CR)))
    (k_Reader : ClsF K CR)
    (n_Reader : ∀ (i : Nat) (f : Str), rK[i]? = some f → NoAttr K CR f)
    (a_Watcher : PySem.W.nsIn K mainGlobals "Watcher" = some (some (.ref CW)))
    (k_Watcher : ClsF K CW)
    (n_Watcher : ∀ (i : Nat) (f : Str), wK[i]? = some f → NoAttr K CW f)
    (t_OPENINGS : CT K mg "OPENINGS" aO openings)
    (t_JOINTS : CT K mg "JOINTS" aJ joints)
    (t_OPENED : CT K mg "OPENED" aE openeds)
    (t_REMEMBERING : CT K mg "REMEMBERING" aM remembering)
    (t_RESERVED : CT K mg "RESERVED" aR reservedZ)
    (t_STRENGTHS : STxt K mg w aS)
    (c_SOUND : CI mg "SOUND" 0)
    (c_MISPLACED : CI mg "MISPLACED" 3)
    (c_OUT_OF_BOUNDS : CI mg "OUT_OF_BOUNDS" 4)
    (c_TOO_DEEP : CI mg "TOO_DEEP" 5)
    (c_MOST_WATCHES : CI mg "MOST_WATCHES" 16)
    (c_MOST_NEEDED : CI mg "MOST_NEEDED" 64)
    (c_MOST_SPAN : CI mg "MOST_SPAN" 4294967295)
    (c_MOST_FIGURES : CI mg "MOST_FIGURES" 10)
    (c_MOST_OPENED : CI mg "MOST_OPENED" 40)
    (c_MOST_PARTS : CI mg "MOST_PARTS" 256)
    (c_MOST_NEEDED_IN_ALL : CI mg "MOST_NEEDED_IN_ALL" 1024)
    (c_UNKNOWN : CI mg "UNKNOWN" 2)
    (c_ENDED : CI mg "ENDED" 1)
    (c_TOO_LARGE : CI mg "TOO_LARGE" 6)
    (c_MOST_IN_NAME : CI mg "MOST_IN_NAME" 64)
    (c_TOO_LONG : CI mg "TOO_LONG" (-2))
    (c_FAULTY : CI mg "FAULTY" (-6))
    (c_MOST_BYTES : CI mg "MOST_BYTES" 4096)
    (c_BAD_MOMENT : CI mg "BAD_MOMENT" (-1))
    (c_NO_RULES : CI mg "NO_RULES" (-3))
    (c_TOO_EARLY : CI mg "TOO_EARLY" (-5))
    (c_TOO_MANY : CI mg "TOO_MANY" (-7))
    (c_NO_REFUSAL : CI mg "NO_REFUSAL" 0)
    (c_DONE : CI mg "DONE" 0)
    (c_FARTHEST_MOMENT : CI mg "FARTHEST_MOMENT" 9007199254740992)
    (c_MOST_ENTRIES : CI mg "MOST_ENTRIES" 1000000)
    (c_JUDGE : CI mg "JUDGE" 1)
    (c_LOAD : CI mg "LOAD" 2)
    (c_ENTRY : CI mg "ENTRY" 3)
    (c_WAIT : CI mg "WAIT" 4)
    (c_TOLD : CI mg "TOLD" 5)
    (c_MEMORY : CI mg "MEMORY" 6)
    (c_FORGET : CI mg "FORGET" 7)
    (s_WATCH : CS mg "WATCH" (exStr .watch))
    (s_COLON : CS mg "COLON" (exStr .colon))
    (s_OPERAND : CS mg "OPERAND" (exStr .operand))
    (s_WITHIN : CS mg "WITHIN" (exStr .within))
    (s_NEEDED : CS mg "NEEDED" (exStr .needed))
    (s_SPAN : CS mg "SPAN" (exStr .span))
    (s_JOINT : CS mg "JOINT" (exStr .joint))
    (s_GLYPHS : CS mg "GLYPHS" (glyphsZ))
    (b_len : PySem.W.nsIn K mainGlobals "len" = some none)
    (b_int : PySem.W.nsIn K mainGlobals "int" = some none)
    (b_all : PySem.W.nsIn K mainGlobals "all" = some none)
    (b_any : PySem.W.nsIn K mainGlobals "any" = some none)
    (b_list : PySem.W.nsIn K mainGlobals "list" = some none)
    (b_zip : PySem.W.nsIn K mainGlobals "zip" = some none)
    (b_sum : PySem.W.nsIn K mainGlobals "sum" = some none)
    (d_is_letter : DefF K mg "is_letter" s_is_letter)
    (d_is_figure : DefF K mg "is_figure" s_is_figure)
    (d_is_in_word : DefF K mg "is_in_word" s_is_in_word)
    (d_is_name : DefF K mg "is_name" s_is_name)
    (d_glyph : DefF K mg "glyph" s_glyph)
    (d_spell : DefF K mg "spell" s_spell)
    (d_skip_blanks : DefF K mg "skip_blanks" s_skip_blanks)
    (d_end_of_word : DefF K mg "end_of_word" s_end_of_word)
    (d_end_of_number : DefF K mg "end_of_number" s_end_of_number)
    (d_end_of_token : DefF K mg "end_of_token" s_end_of_token)
    (d_first_member : DefF K mg "first_member" s_first_member)
    (d_is_bounded : DefF K mg "is_bounded" s_is_bounded)
    (d_behind_opening : DefF K mg "behind_opening" s_behind_opening)
    (i_Part : MethF K CP "__init__" "Part.__init__" s_Part_init)
    (i_Rules : MethF K CU "__init__" "Rules.__init__" s_Rules_init)
    (i_Reading : MethF K CG "__init__" "Reading.__init__" s_Reading_init)
    (i_Reader : MethF K CR "__init__" "Reader.__init__" s_Reader_init)
    (x_put : MethF K CR "put" "Reader.put" s_Reader_put)
    (x_begin : MethF K CR "begin" "Reader.begin" s_Reader_begin)
    (x_end_bracket : MethF K CR "end_bracket" "Reader.end_bracket" s_Reader_end_bracket)
    (x_end_watch : MethF K CR "end_watch" "Reader.end_watch" s_Reader_end_watch)
    (x_end_stronger : MethF K CR "end_stronger" "Reader.end_stronger" s_Reader_end_stronger)
    (x_join_operands : MethF K CR "join_operands" "Reader.join_operands" s_Reader_join_operands)
    (x_take_joint : MethF K CR "take_joint" "Reader.take_joint" s_Reader_take_joint)
    (x_take_colon : MethF K CR "take_colon" "Reader.take_colon" s_Reader_take_colon)
    (x_take_watch : MethF K CR "take_watch" "Reader.take_watch" s_Reader_take_watch)
    (x_take_needed : MethF K CR "take_needed" "Reader.take_needed" s_Reader_take_needed)
    (x_take_span : MethF K CR "take_span" "Reader.take_span" s_Reader_take_span)
    (x_take_operand : MethF K CR "take_operand" "Reader.take_operand" s_Reader_take_operand)
    (x_take : MethF K CR "take" "Reader.take" s_Reader_take)
    (x_is_whole : MethF K CR "is_whole" "Reader.is_whole" s_Reader_is_whole)
    (x_is_too_large : MethF K CR "is_too_large" "Reader.is_too_large" s_Reader_is_too_large)
    (d_fault_of_token : DefF K mg "fault_of_token" s_fault_of_token)
    (d_first_fault : DefF K mg "first_fault" s_first_fault)
    (d_read : DefF K mg "read" s_read)
    (d_is_near : DefF K mg "is_near" s_is_near)
    (d_holds_by_itself : DefF K mg "holds_by_itself" s_holds_by_itself)
    (d_next_member : DefF K mg "next_member" s_next_member)
    (d_number_of_bits : DefF K mg "number_of_bits" s_number_of_bits)
    (d_holds_by_memory : DefF K mg "holds_by_memory" s_holds_by_memory)
    (d_follow : DefF K mg "follow" s_follow)
    (d_spell_names : DefF K mg "spell_names" s_spell_names)
    (d_first_memory : DefF K mg "first_memory" s_first_memory)
    (d_told_member : DefF K mg "told_member" s_told_member)
    (d_told_memory : DefF K mg "told_memory" s_told_memory)
    (d_row_at : DefF K mg "row_at" s_row_at)
    (d_rows_at : DefF K mg "rows_at" s_rows_at)
    (i_Watcher : MethF K CW "__init__" "Watcher.__init__" s_Watcher_init)
    (x_refusal_at : MethF K CW "refusal_at" "Watcher.refusal_at" s_Watcher_refusal_at)
    (x_judge : MethF K CW "judge" "Watcher.judge" s_Watcher_judge)
    (x_restart : MethF K CW "restart" "Watcher.restart" s_Watcher_restart)
    (x_load : MethF K CW "load" "Watcher.load" s_Watcher_load)
    (x_entry : MethF K CW "entry" "Watcher.entry" s_Watcher_entry)
    (x_wait : MethF K CW "wait" "Watcher.wait" s_Watcher_wait)
    (x_told : MethF K CW "told" "Watcher.told" s_Watcher_told)
    (x_tell_memory : MethF K CW "tell_memory" "Watcher.tell_memory" s_Watcher_tell_memory)
    (x_forget : MethF K CW "forget" "Watcher.forget" s_Watcher_forget)
    (d_answer_of : DefF K mg "answer_of" s_answer_of)
    (d_answers : DefF K mg "answers" s_answers) :
    ∃ fd : FuncData, (∀ (s : Shared) (us : List Value), us.length = (["calls"] : List Str).length → BindsTo s fd ⟨us, []⟩ ((["calls"] : List Str).zip us)) ∧ ∀ base : Heap, K.In base → base.Ns mainGlobals mg → FnOk P w K mg base CX0 13 fa fd ["calls"] (spAnswers K) := by
  have n_len : mg "len" = none := PySem.W.mg_none_of KX G b_len
  have n_int : mg "int" = none := PySem.W.mg_none_of KX G b_int
  have n_list : mg "list" = none := PySem.W.mg_none_of KX G b_list
  have tW := wtxt_of s_GLYPHS t_RESERVED n_len
  have tR : RTxt K mg aO aJ aE aM := ⟨c_SOUND, c_MISPLACED, c_OUT_OF_BOUNDS, c_TOO_DEEP, c_MOST_WATCHES, c_MOST_NEEDED, c_MOST_SPAN, c_MOST_FIGURES, c_MOST_OPENED, c_MOST_PARTS, c_MOST_NEEDED_IN_ALL, s_WATCH, s_COLON, s_OPERAND, s_WITHIN, s_NEEDED, s_SPAN, s_JOINT, t_OPENINGS, t_JOINTS, t_OPENED, t_REMEMBERING, n_len, n_int⟩
  have tF : FTxt mg := ⟨c_UNKNOWN, c_ENDED, c_TOO_LARGE, c_MOST_IN_NAME⟩
  have tQ : QTxt mg := ⟨c_TOO_LONG, c_FAULTY, c_MOST_BYTES⟩
  have tH : HTxt mg := ⟨PySem.W.mg_none_of KX G b_all, PySem.W.mg_none_of KX G b_any⟩
  have tV : VTxt mg := ⟨c_BAD_MOMENT, c_NO_RULES, c_TOO_EARLY, c_TOO_MANY, c_NO_REFUSAL, c_DONE, c_FARTHEST_MOMENT, c_MOST_ENTRIES⟩
  have tA : ATxt mg := ⟨c_JUDGE, c_LOAD, c_ENTRY, c_WAIT, c_TOLD, c_MEMORY, c_FORGET⟩
  obtain ⟨f_answers, fd_answers, F_answers, at_answers⟩ := d_answers
  have ef : f_answers = fa := by rw [hfa] at at_answers; cases at_answers; rfl
  subst ef
  refine ⟨fd_answers, fun s us hl => ?BIND, fun base _ _ => ?_⟩
  case BIND =>
    obtain ⟨oc, od, kV, doc, pm, an, cdv, ct, osl, rfl, _, _⟩ := F_answers.ex
    exact .of_eq (match us, hl with | [_], _ => rfl)
  obtain ⟨⟨_, _, c_read⟩, ⟨_, _, c_follow⟩, ⟨_, _, c_spell_names⟩, ⟨_, _, c_row_at⟩, ⟨_, _, c_rows_at⟩, ⟨_, _, c_first_memory⟩, ⟨_, _, c_told_memory⟩⟩ := chain_ok (P := P) (w := w) (base := base) tW tR t_STRENGTHS tF tQ tH n_list (PySem.W.mg_none_of KX G b_zip) ⟨k_Part.cl, n_Part⟩ ⟨k_Rules.cl, n_Rules⟩ ⟨k_Reading.cl, n_Reading⟩ ⟨k_Reader.cl, n_Reader⟩ k_Part k_Rules k_Reading k_Reader
    (PySem.W.mg_of KX G a_Part) (PySem.W.mg_of KX G a_Rules) (PySem.W.mg_of KX G a_Reading) (PySem.W.mg_of KX G a_Reader) d_is_letter d_is_figure d_is_in_word d_is_name d_glyph d_spell d_skip_blanks d_end_of_word d_end_of_number d_end_of_token d_first_member d_is_bounded d_behind_opening i_Part i_Rules i_Reading i_Reader x_put x_begin x_end_bracket x_end_watch x_end_stronger x_join_operands x_take_joint x_take_colon x_take_watch x_take_needed x_take_span x_take_operand x_take x_is_whole x_is_too_large d_fault_of_token d_first_fault d_read d_is_near d_holds_by_itself d_next_member d_number_of_bits d_holds_by_memory d_follow d_spell_names d_first_memory d_told_member d_told_memory d_row_at d_rows_at
  exact top_ok tV tA n_len (PySem.W.mg_none_of KX G b_sum) n_list ⟨k_Rules.cl, n_Rules⟩ ⟨k_Reading.cl, n_Reading⟩ ⟨k_Watcher.cl, n_Watcher⟩ k_Watcher (PySem.W.mg_of KX G a_Watcher) c_read c_follow c_spell_names c_row_at c_rows_at c_first_memory c_told_memory i_Watcher x_refusal_at x_judge x_restart x_load x_entry x_wait x_told x_tell_memory x_forget d_answer_of F_answers
end Hw

open PySem PySem.W PyProof.Rows
set_option maxRecDepth 100000 in
set_option maxHeartbeats 0 in
theorem PySem.Challenge.cw_pastwatch_s01_answers_holds : PySem.Challenge.rw_pastwatch_s01_answers.Holds := by
  w_on; k_headS; (case hw => exact ⟨[.list []], by decide +kernel, by decide +kernel⟩)
  k_fillS
  refine L2.walk_specK (r := PySem.Challenge.rw_pastwatch_s01_answers) (k := 13) (CX := L2.CX0) (ps := ["calls"]) (sp := Hw.spAnswers) (by decide +kernel) rfl rfl ⟨rfl, by decide, by decide⟩ (fun w h Y => PySem.W.kIn_of Y) ?F ?S (fun _ _ _ _ z => z)
  case F =>
    intro w mg fa h Y KX G hmg
    refine' Hw.main_ok KX G hmg ?a_Part ?k_Part ?n_Part ?a_Rules ?k_Rules ?n_Rules ?a_Reading ?k_Reading ?n_Reading ?a_Reader ?k_Reader ?n_Reader ?a_Watcher ?k_Watcher ?n_Watcher ?t_OPENINGS ?t_JOINTS ?t_OPENED ?t_REMEMBERING ?t_RESERVED ?t_STRENGTHS ?c_SOUND ?c_MISPLACED ?c_OUT_OF_BOUNDS ?c_TOO_DEEP ?c_MOST_WATCHES ?c_MOST_NEEDED ?c_MOST_SPAN ?c_MOST_FIGURES ?c_MOST_OPENED ?c_MOST_PARTS ?c_MOST_NEEDED_IN_ALL ?c_UNKNOWN ?c_ENDED ?c_TOO_LARGE ?c_MOST_IN_NAME ?c_TOO_LONG ?c_FAULTY ?c_MOST_BYTES ?c_BAD_MOMENT ?c_NO_RULES ?c_TOO_EARLY ?c_TOO_MANY ?c_NO_REFUSAL ?c_DONE ?c_FARTHEST_MOMENT ?c_MOST_ENTRIES ?c_JUDGE ?c_LOAD ?c_ENTRY ?c_WAIT ?c_TOLD ?c_MEMORY ?c_FORGET ?s_WATCH ?s_COLON ?s_OPERAND ?s_WITHIN ?s_NEEDED ?s_SPAN ?s_JOINT ?s_GLYPHS ?b_len ?b_int ?b_all ?b_any ?b_list ?b_zip ?b_sum ?d_is_letter ?d_is_figure ?d_is_in_word ?d_is_name ?d_glyph ?d_spell ?d_skip_blanks ?d_end_of_word ?d_end_of_number ?d_end_of_token ?d_first_member ?d_is_bounded ?d_behind_opening ?i_Part ?i_Rules ?i_Reading ?i_Reader ?x_put ?x_begin ?x_end_bracket ?x_end_watch ?x_end_stronger ?x_join_operands ?x_take_joint ?x_take_colon ?x_take_watch ?x_take_needed ?x_take_span ?x_take_operand ?x_take ?x_is_whole ?x_is_too_large ?d_fault_of_token ?d_first_fault ?d_read ?d_is_near ?d_holds_by_itself ?d_next_member ?d_number_of_bits ?d_holds_by_memory ?d_follow ?d_spell_names ?d_first_memory ?d_told_member ?d_told_memory ?d_row_at ?d_rows_at ?i_Watcher ?x_refusal_at ?x_judge ?x_restart ?x_load ?x_entry ?x_wait ?x_told ?x_tell_memory ?x_forget ?d_answer_of ?d_answers
    (case a_Part => k_is)
    (case k_Part => (refine' Hw.clsF_of ?pg ?hd ?po ?sa ?mk ?kc; (case pg => k_is); (case hd => k_is); (case po => k_is); (case sa => k_is); (case mk => k_is); (case kc => k_is)))
    (case n_Part => (refine' Hw.no6 ?h0 ?h1 ?h2 ?h3 ?h4 ?h5; (case h0 => k_is); (case h1 => k_is); (case h2 => k_is); (case h3 => k_is); (case h4 => k_is); (case h5 => k_is)))
    (case a_Rules => k_is)
    (case k_Rules => (refine' Hw.clsF_of ?pg ?hd ?po ?sa ?mk ?kc; (case pg => k_is); (case hd => k_is); (case po => k_is); (case sa => k_is); (case mk => k_is); (case kc => k_is)))
    (case n_Rules => (refine' Hw.no3 ?h0 ?h1 ?h2; (case h0 => k_is); (case h1 => k_is); (case h2 => k_is)))
    (case a_Reading => k_is)
    (case k_Reading => (refine' Hw.clsF_of ?pg ?hd ?po ?sa ?mk ?kc; (case pg => k_is); (case hd => k_is); (case po => k_is); (case sa => k_is); (case mk => k_is); (case kc => k_is)))
    (case n_Reading => (refine' Hw.no2 ?h0 ?h1; (case h0 => k_is); (case h1 => k_is)))
    (case a_Reader => k_is)
    (case k_Reader => (refine' Hw.clsF_of ?pg ?hd ?po ?sa ?mk ?kc; (case pg => k_is); (case hd => k_is); (case po => k_is); (case sa => k_is); (case mk => k_is); (case kc => k_is)))
    (case n_Reader => (refine' Hw.no8 ?h0 ?h1 ?h2 ?h3 ?h4 ?h5 ?h6 ?h7; (case h0 => k_is); (case h1 => k_is); (case h2 => k_is); (case h3 => k_is); (case h4 => k_is); (case h5 => k_is); (case h6 => k_is); (case h7 => k_is)))
    (case a_Watcher => k_is)
    (case k_Watcher => (refine' Hw.clsF_of ?pg ?hd ?po ?sa ?mk ?kc; (case pg => k_is); (case hd => k_is); (case po => k_is); (case sa => k_is); (case mk => k_is); (case kc => k_is)))
    (case n_Watcher => (refine' Hw.no5 ?h0 ?h1 ?h2 ?h3 ?h4; (case h0 => k_is); (case h1 => k_is); (case h2 => k_is); (case h3 => k_is); (case h4 => k_is)))
    (case t_OPENINGS => (refine' Hw.ct_of KX G ?e ?l ?hz ?hv; (case e => k_is); (case l => k_is); (case hz => decide); (case hv => exact (Hw.vals_str (Hw.vals_str (Hw.vals_str (Hw.vals_str (Hw.vals_str (Hw.vals_str .nil)))))))))
    (case t_JOINTS => (refine' Hw.ct_of KX G ?e ?l ?hz ?hv; (case e => k_is); (case l => k_is); (case hz => decide); (case hv => exact (Hw.vals_str (Hw.vals_str (Hw.vals_str (Hw.vals_str (Hw.vals_str (Hw.vals_str .nil)))))))))
    (case t_OPENED => (refine' Hw.ct_of KX G ?e ?l ?hz ?hv; (case e => k_is); (case l => k_is); (case hz => decide); (case hv => exact (Hw.vals_str (Hw.vals_str (Hw.vals_str (Hw.vals_str (Hw.vals_str (Hw.vals_str (Hw.vals_str .nil))))))))))
    (case t_REMEMBERING => (refine' Hw.ct_of KX G ?e ?l ?hz ?hv; (case e => k_is); (case l => k_is); (case hz => decide); (case hv => exact (Hw.vals_str (Hw.vals_str (Hw.vals_str (Hw.vals_str (Hw.vals_str .nil))))))))
    (case t_RESERVED => (refine' Hw.ct_of KX G ?e ?l ?hz ?hv; (case e => k_is); (case l => k_is); (case hz => decide); (case hv => exact (Hw.vals_str (Hw.vals_str (Hw.vals_str (Hw.vals_str (Hw.vals_str (Hw.vals_str (Hw.vals_str (Hw.vals_str (Hw.vals_str (Hw.vals_str (Hw.vals_str (Hw.vals_str .nil)))))))))))))))
    (case t_STRENGTHS => (refine' Hw.stxt_of KX G ?e ?l ?kl ?h0 ?h1 ?h2 ?h3 ?h4 ?h5 ?h6 ?h7 ?h8 ?h9 ?h10 ?h11; (case e => k_is); (case l => k_is); (case h0 => k_is); (case h1 => k_is); (case h2 => k_is); (case h3 => k_is); (case h4 => k_is); (case h5 => k_is); (case h6 => k_is); (case h7 => k_is); (case h8 => k_is); (case h9 => k_is); (case h10 => k_is); (case h11 => k_is); (case kl => exact ⟨⟨_, _, rfl, rfl⟩, ⟨_, _, rfl, rfl⟩, ⟨_, _, rfl, rfl⟩, ⟨_, _, rfl, rfl⟩, ⟨_, _, rfl, rfl⟩, ⟨_, _, rfl, rfl⟩, ⟨_, _, rfl, rfl⟩, ⟨_, _, rfl, rfl⟩, ⟨_, _, rfl, rfl⟩, ⟨_, _, rfl, rfl⟩, ⟨_, _, rfl, rfl⟩, ⟨_, _, rfl, rfl⟩, trivial⟩)))
    (case c_SOUND => (refine' Hw.ci_of KX G ?a; (case a => k_is)))
    (case c_MISPLACED => (refine' Hw.ci_of KX G ?a; (case a => k_is)))
    (case c_OUT_OF_BOUNDS => (refine' Hw.ci_of KX G ?a; (case a => k_is)))
    (case c_TOO_DEEP => (refine' Hw.ci_of KX G ?a; (case a => k_is)))
    (case c_MOST_WATCHES => (refine' Hw.ci_of KX G ?a; (case a => k_is)))
    (case c_MOST_NEEDED => (refine' Hw.ci_of KX G ?a; (case a => k_is)))
    (case c_MOST_SPAN => (refine' Hw.ci_of KX G ?a; (case a => k_is)))
    (case c_MOST_FIGURES => (refine' Hw.ci_of KX G ?a; (case a => k_is)))
    (case c_MOST_OPENED => (refine' Hw.ci_of KX G ?a; (case a => k_is)))
    (case c_MOST_PARTS => (refine' Hw.ci_of KX G ?a; (case a => k_is)))
    (case c_MOST_NEEDED_IN_ALL => (refine' Hw.ci_of KX G ?a; (case a => k_is)))
    (case c_UNKNOWN => (refine' Hw.ci_of KX G ?a; (case a => k_is)))
    (case c_ENDED => (refine' Hw.ci_of KX G ?a; (case a => k_is)))
    (case c_TOO_LARGE => (refine' Hw.ci_of KX G ?a; (case a => k_is)))
    (case c_MOST_IN_NAME => (refine' Hw.ci_of KX G ?a; (case a => k_is)))
    (case c_TOO_LONG => (refine' Hw.ci_of KX G ?a; (case a => k_is)))
    (case c_FAULTY => (refine' Hw.ci_of KX G ?a; (case a => k_is)))
    (case c_MOST_BYTES => (refine' Hw.ci_of KX G ?a; (case a => k_is)))
    (case c_BAD_MOMENT => (refine' Hw.ci_of KX G ?a; (case a => k_is)))
    (case c_NO_RULES => (refine' Hw.ci_of KX G ?a; (case a => k_is)))
    (case c_TOO_EARLY => (refine' Hw.ci_of KX G ?a; (case a => k_is)))
    (case c_TOO_MANY => (refine' Hw.ci_of KX G ?a; (case a => k_is)))
    (case c_NO_REFUSAL => (refine' Hw.ci_of KX G ?a; (case a => k_is)))
    (case c_DONE => (refine' Hw.ci_of KX G ?a; (case a => k_is)))
    (case c_FARTHEST_MOMENT => (refine' Hw.ci_of KX G ?a; (case a => k_is)))
    (case c_MOST_ENTRIES => (refine' Hw.ci_of KX G ?a; (case a => k_is)))
    (case c_JUDGE => (refine' Hw.ci_of KX G ?a; (case a => k_is)))
    (case c_LOAD => (refine' Hw.ci_of KX G ?a; (case a => k_is)))
    (case c_ENTRY => (refine' Hw.ci_of KX G ?a; (case a => k_is)))
    (case c_WAIT => (refine' Hw.ci_of KX G ?a; (case a => k_is)))
    (case c_TOLD => (refine' Hw.ci_of KX G ?a; (case a => k_is)))
    (case c_MEMORY => (refine' Hw.ci_of KX G ?a; (case a => k_is)))
    (case c_FORGET => (refine' Hw.ci_of KX G ?a; (case a => k_is)))
    (case s_WATCH => (refine' Hw.cs_of KX G ?a; (case a => k_is)))
    (case s_COLON => (refine' Hw.cs_of KX G ?a; (case a => k_is)))
    (case s_OPERAND => (refine' Hw.cs_of KX G ?a; (case a => k_is)))
    (case s_WITHIN => (refine' Hw.cs_of KX G ?a; (case a => k_is)))
    (case s_NEEDED => (refine' Hw.cs_of KX G ?a; (case a => k_is)))
    (case s_SPAN => (refine' Hw.cs_of KX G ?a; (case a => k_is)))
    (case s_JOINT => (refine' Hw.cs_of KX G ?a; (case a => k_is)))
    (case s_GLYPHS => (refine' Hw.cs_of KX G ?a; (case a => k_is)))
    (case b_len => k_is)
    (case b_int => k_is)
    (case b_all => k_is)
    (case b_any => k_is)
    (case b_list => k_is)
    (case b_zip => k_is)
    (case b_sum => k_is)
    (case d_is_letter => (refine' Hw.defF_of KX G ?a ?l ?c ?k; (case a => k_is); (case l => k_is); (case c => k_is); (case k => k_is)))
    (case d_is_figure => (refine' Hw.defF_of KX G ?a ?l ?c ?k; (case a => k_is); (case l => k_is); (case c => k_is); (case k => k_is)))
    (case d_is_in_word => (refine' Hw.defF_of KX G ?a ?l ?c ?k; (case a => k_is); (case l => k_is); (case c => k_is); (case k => k_is)))
    (case d_is_name => (refine' Hw.defF_of KX G ?a ?l ?c ?k; (case a => k_is); (case l => k_is); (case c => k_is); (case k => k_is)))
    (case d_glyph => (refine' Hw.defF_of KX G ?a ?l ?c ?k; (case a => k_is); (case l => k_is); (case c => k_is); (case k => k_is)))
    (case d_spell => (refine' Hw.defF_of KX G ?a ?l ?c ?k; (case a => k_is); (case l => k_is); (case c => k_is); (case k => k_is)))
    (case d_skip_blanks => (refine' Hw.defF_of KX G ?a ?l ?c ?k; (case a => k_is); (case l => k_is); (case c => k_is); (case k => k_is)))
    (case d_end_of_word => (refine' Hw.defF_of KX G ?a ?l ?c ?k; (case a => k_is); (case l => k_is); (case c => k_is); (case k => k_is)))
    (case d_end_of_number => (refine' Hw.defF_of KX G ?a ?l ?c ?k; (case a => k_is); (case l => k_is); (case c => k_is); (case k => k_is)))
    (case d_end_of_token => (refine' Hw.defF_of KX G ?a ?l ?c ?k; (case a => k_is); (case l => k_is); (case c => k_is); (case k => k_is)))
    (case d_first_member => (refine' Hw.defF_of KX G ?a ?l ?c ?k; (case a => k_is); (case l => k_is); (case c => k_is); (case k => k_is)))
    (case d_is_bounded => (refine' Hw.defF_of KX G ?a ?l ?c ?k; (case a => k_is); (case l => k_is); (case c => k_is); (case k => k_is)))
    (case d_behind_opening => (refine' Hw.defF_of KX G ?a ?l ?c ?k; (case a => k_is); (case l => k_is); (case c => k_is); (case k => k_is)))
    (case i_Part => (refine' Hw.methF_of ?a ?i ?l ?c ?k; (case a => k_is); (case i => k_is); (case l => k_is); (case c => k_is); (case k => k_is)))
    (case i_Rules => (refine' Hw.methF_of ?a ?i ?l ?c ?k; (case a => k_is); (case i => k_is); (case l => k_is); (case c => k_is); (case k => k_is)))
    (case i_Reading => (refine' Hw.methF_of ?a ?i ?l ?c ?k; (case a => k_is); (case i => k_is); (case l => k_is); (case c => k_is); (case k => k_is)))
    (case i_Reader => (refine' Hw.methF_of ?a ?i ?l ?c ?k; (case a => k_is); (case i => k_is); (case l => k_is); (case c => k_is); (case k => k_is)))
    (case x_put => (refine' Hw.methF_of ?a ?i ?l ?c ?k; (case a => k_is); (case i => k_is); (case l => k_is); (case c => k_is); (case k => k_is)))
    (case x_begin => (refine' Hw.methF_of ?a ?i ?l ?c ?k; (case a => k_is); (case i => k_is); (case l => k_is); (case c => k_is); (case k => k_is)))
    (case x_end_bracket => (refine' Hw.methF_of ?a ?i ?l ?c ?k; (case a => k_is); (case i => k_is); (case l => k_is); (case c => k_is); (case k => k_is)))
    (case x_end_watch => (refine' Hw.methF_of ?a ?i ?l ?c ?k; (case a => k_is); (case i => k_is); (case l => k_is); (case c => k_is); (case k => k_is)))
    (case x_end_stronger => (refine' Hw.methF_of ?a ?i ?l ?c ?k; (case a => k_is); (case i => k_is); (case l => k_is); (case c => k_is); (case k => k_is)))
    (case x_join_operands => (refine' Hw.methF_of ?a ?i ?l ?c ?k; (case a => k_is); (case i => k_is); (case l => k_is); (case c => k_is); (case k => k_is)))
    (case x_take_joint => (refine' Hw.methF_of ?a ?i ?l ?c ?k; (case a => k_is); (case i => k_is); (case l => k_is); (case c => k_is); (case k => k_is)))
    (case x_take_colon => (refine' Hw.methF_of ?a ?i ?l ?c ?k; (case a => k_is); (case i => k_is); (case l => k_is); (case c => k_is); (case k => k_is)))
    (case x_take_watch => (refine' Hw.methF_of ?a ?i ?l ?c ?k; (case a => k_is); (case i => k_is); (case l => k_is); (case c => k_is); (case k => k_is)))
    (case x_take_needed => (refine' Hw.methF_of ?a ?i ?l ?c ?k; (case a => k_is); (case i => k_is); (case l => k_is); (case c => k_is); (case k => k_is)))
    (case x_take_span => (refine' Hw.methF_of ?a ?i ?l ?c ?k; (case a => k_is); (case i => k_is); (case l => k_is); (case c => k_is); (case k => k_is)))
    (case x_take_operand => (refine' Hw.methF_of ?a ?i ?l ?c ?k; (case a => k_is); (case i => k_is); (case l => k_is); (case c => k_is); (case k => k_is)))
    (case x_take => (refine' Hw.methF_of ?a ?i ?l ?c ?k; (case a => k_is); (case i => k_is); (case l => k_is); (case c => k_is); (case k => k_is)))
    (case x_is_whole => (refine' Hw.methF_of ?a ?i ?l ?c ?k; (case a => k_is); (case i => k_is); (case l => k_is); (case c => k_is); (case k => k_is)))
    (case x_is_too_large => (refine' Hw.methF_of ?a ?i ?l ?c ?k; (case a => k_is); (case i => k_is); (case l => k_is); (case c => k_is); (case k => k_is)))
    (case d_fault_of_token => (refine' Hw.defF_of KX G ?a ?l ?c ?k; (case a => k_is); (case l => k_is); (case c => k_is); (case k => k_is)))
    (case d_first_fault => (refine' Hw.defF_of KX G ?a ?l ?c ?k; (case a => k_is); (case l => k_is); (case c => k_is); (case k => k_is)))
    (case d_read => (refine' Hw.defF_of KX G ?a ?l ?c ?k; (case a => k_is); (case l => k_is); (case c => k_is); (case k => k_is)))
    (case d_is_near => (refine' Hw.defF_of KX G ?a ?l ?c ?k; (case a => k_is); (case l => k_is); (case c => k_is); (case k => k_is)))
    (case d_holds_by_itself => (refine' Hw.defF_of KX G ?a ?l ?c ?k; (case a => k_is); (case l => k_is); (case c => k_is); (case k => k_is)))
    (case d_next_member => (refine' Hw.defF_of KX G ?a ?l ?c ?k; (case a => k_is); (case l => k_is); (case c => k_is); (case k => k_is)))
    (case d_number_of_bits => (refine' Hw.defF_of KX G ?a ?l ?c ?k; (case a => k_is); (case l => k_is); (case c => k_is); (case k => k_is)))
    (case d_holds_by_memory => (refine' Hw.defF_of KX G ?a ?l ?c ?k; (case a => k_is); (case l => k_is); (case c => k_is); (case k => k_is)))
    (case d_follow => (refine' Hw.defF_of KX G ?a ?l ?c ?k; (case a => k_is); (case l => k_is); (case c => k_is); (case k => k_is)))
    (case d_spell_names => (refine' Hw.defF_of KX G ?a ?l ?c ?k; (case a => k_is); (case l => k_is); (case c => k_is); (case k => k_is)))
    (case d_first_memory => (refine' Hw.defF_of KX G ?a ?l ?c ?k; (case a => k_is); (case l => k_is); (case c => k_is); (case k => k_is)))
    (case d_told_member => (refine' Hw.defF_of KX G ?a ?l ?c ?k; (case a => k_is); (case l => k_is); (case c => k_is); (case k => k_is)))
    (case d_told_memory => (refine' Hw.defF_of KX G ?a ?l ?c ?k; (case a => k_is); (case l => k_is); (case c => k_is); (case k => k_is)))
    (case d_row_at => (refine' Hw.defF_of KX G ?a ?l ?c ?k; (case a => k_is); (case l => k_is); (case c => k_is); (case k => k_is)))
    (case d_rows_at => (refine' Hw.defF_of KX G ?a ?l ?c ?k; (case a => k_is); (case l => k_is); (case c => k_is); (case k => k_is)))
    (case i_Watcher => (refine' Hw.methF_of ?a ?i ?l ?c ?k; (case a => k_is); (case i => k_is); (case l => k_is); (case c => k_is); (case k => k_is)))
    (case x_refusal_at => (refine' Hw.methF_of ?a ?i ?l ?c ?k; (case a => k_is); (case i => k_is); (case l => k_is); (case c => k_is); (case k => k_is)))
    (case x_judge => (refine' Hw.methF_of ?a ?i ?l ?c ?k; (case a => k_is); (case i => k_is); (case l => k_is); (case c => k_is); (case k => k_is)))
    (case x_restart => (refine' Hw.methF_of ?a ?i ?l ?c ?k; (case a => k_is); (case i => k_is); (case l => k_is); (case c => k_is); (case k => k_is)))
    (case x_load => (refine' Hw.methF_of ?a ?i ?l ?c ?k; (case a => k_is); (case i => k_is); (case l => k_is); (case c => k_is); (case k => k_is)))
    (case x_entry => (refine' Hw.methF_of ?a ?i ?l ?c ?k; (case a => k_is); (case i => k_is); (case l => k_is); (case c => k_is); (case k => k_is)))
    (case x_wait => (refine' Hw.methF_of ?a ?i ?l ?c ?k; (case a => k_is); (case i => k_is); (case l => k_is); (case c => k_is); (case k => k_is)))
    (case x_told => (refine' Hw.methF_of ?a ?i ?l ?c ?k; (case a => k_is); (case i => k_is); (case l => k_is); (case c => k_is); (case k => k_is)))
    (case x_tell_memory => (refine' Hw.methF_of ?a ?i ?l ?c ?k; (case a => k_is); (case i => k_is); (case l => k_is); (case c => k_is); (case k => k_is)))
    (case x_forget => (refine' Hw.methF_of ?a ?i ?l ?c ?k; (case a => k_is); (case i => k_is); (case l => k_is); (case c => k_is); (case k => k_is)))
    (case d_answer_of => (refine' Hw.defF_of KX G ?a ?l ?c ?k; (case a => k_is); (case l => k_is); (case c => k_is); (case k => k_is)))
    (case d_answers => (refine' Hw.defF_of KX G ?a ?l ?c ?k; (case a => k_is); (case l => k_is); (case c => k_is); (case k => k_is)))
  case S =>
    intro K H xs a hO hwi hask hx
    cases hx with
    | cons h1 h2 =>
      cases h2
      cases h1 with
      | lst hs ha =>
        have e := L2.ints_dw a.1 _ ha
        subst e
        have q : ((Codec.inLen 0 16000 a.1 && a.1.all (Codec.inInt (-1000000000000000000) 1000000000000000000)) && true) = true := hwi
        rw [Bool.and_eq_true, Bool.and_eq_true] at q
        exact ⟨_, a.1, rfl, hs, (Codec.inNat_iff.mp q.1.1).2, hask, fun H' p hp => .lst (L2.SqL.of hp) (L2.dw_ints _)⟩

