/- Texts of the proof, put together: WordsTw. -/
import Derived.WalkKit
import Derived.Lib.Bytealg

/- Plain functions that say what package words computes. Nothing of the program is imported here. -/
namespace Go.Proofs.YtckhafpejefbbaaGreatDoor.Tw
open Go

def smallI (c : Int) : Bool := decide (97 ≤ c ∧ c ≤ 122)
def digitI (c : Int) : Bool := decide (48 ≤ c ∧ c ≤ 57)
def wordI (c : Int) : Bool := decide ((97 ≤ c ∧ c ≤ 122) ∨ (48 ≤ c ∧ c ≤ 57))

def signI (c : Int) : Int × Int :=
  if c = 61 then (15, 1) else if c = 40 then (16, 1) else if c = 41 then (17, 1) else if c = 44 then (18, 1)
  else if c = 43 then (19, 1) else if c = 45 then (20, 1) else if c = 42 then (21, 1) else if c = 47 then (22, 1)
  else if c = 60 then (23, 1) else (0, 0)

def wordSortL (l : List UInt8) : Int :=
  if l = [108, 101, 116] then 3 else if l = [114, 101, 99] then 4 else if l = [105, 110] then 5 else if l = [102, 117, 110] then 6
  else if l = [105, 102] then 7 else if l = [116, 104, 101, 110] then 8 else if l = [101, 108, 115, 101] then 9
  else if l = [116, 114, 117, 101] then 10 else if l = [102, 97, 108, 115, 101] then 11 else if l = [102, 115, 116] then 12
  else if l = [115, 110, 100] then 13 else 1

def wordL (l : List UInt8) : Int × Int := if l.length > 6 then (0, 0) else (wordSortL l, l.length)
def numberL (l : List UInt8) : Int × Int := if l.length > 9 then (0, 0) else (2, l.length)

def headI (l : List UInt8) : Int := match l with | [] => -1 | c :: _ => c.toNat

def gapL (l : List UInt8) : Int :=
  if headI l = 32 ∨ headI l = 9 ∨ headI l = 10 then 1
  else if headI l = 123 then Lib.indexByte l 125 + 1 else 0

def runL (p : Int → Bool) (l : List UInt8) : List UInt8 := l.takeWhile fun c => p c.toNat

def firstL (l : List UInt8) : Int × Int :=
  if smallI (headI l) then wordL (runL wordI l)
  else if digitI (headI l) then numberL (runL digitI l)
  else if l.take 2 = [45, 62] then (14, 2)
  else signI (headI l)

theorem headI_get (s : ByteArray) (h : 0 < s.size) : headI s.data.toList = s[0].toNat := by
  obtain ⟨a⟩ := s
  obtain ⟨l⟩ := a
  cases l with
  | nil => simp [ByteArray.size] at h
  | cons c l => rfl

theorem indexByte_lt (l : List UInt8) (c : UInt8) : Lib.indexByte l c < l.length ∧ -1 ≤ Lib.indexByte l c := by
  refine ⟨?_, Lib.indexByte_ge l c⟩
  induction l with
  | nil => simp [Lib.indexByte]
  | cons b l ih =>
    simp only [Lib.indexByte, List.length_cons]
    split
    · omega
    · split <;> omega

end Go.Proofs.YtckhafpejefbbaaGreatDoor.Tw
