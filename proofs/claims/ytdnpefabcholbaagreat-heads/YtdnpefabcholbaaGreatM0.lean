set_option linter.unusedSimpArgs false
set_option linter.unusedVariables false
/-
  Plain mathematics, no Go: the two sides' functions over lists of bytes (as numbers), as far as they go ahead of the first IDAT.
-/
namespace Px

/-- One bit of the sum. -/
def crcBit (s : Nat) : Nat := if s % 2 = 1 then (s / 2) ^^^ 3988292384 else s / 2
def crcBits : Nat → Nat → Nat
  | 0, s => s
  | k + 1, s => crcBit (crcBits k s)
/-- The program's: a byte at once, then eight bits. -/
def crcAdd (s b : Nat) : Nat := crcBits 8 (s ^^^ b)
/-- The definition's: bit by bit. -/
def crcRef : Nat → Nat → Nat → Nat
  | 0, c, _ => c
  | k + 1, c, b => crcBit (crcRef k c b ^^^ (b / 2 ^ k % 2))
def crcL (s : Nat) (l : List Nat) : Nat := l.foldl crcAdd s
def crcStart : Nat := 4294967295
def crcEnd (s : Nat) : Nat := s ^^^ 4294967295

def numb (l : List Nat) : Nat := l.foldl (fun v x => 256 * v + x) 0

def capB (b : Nat) : Bool := decide (65 ≤ b ∧ b ≤ 90)
def lowB (b : Nat) : Bool := decide (97 ≤ b ∧ b ≤ 122)
def letB (b : Nat) : Bool := capB b || lowB b
def tyB (n : Nat) : Bool := letB (n / 16777216 % 256) && letB (n / 65536 % 256) && capB (n / 256 % 256) && letB (n % 256)

def legal (k d : Nat) : Bool :=
  if k = 0 then decide (d = 1 ∨ d = 2 ∨ d = 4 ∨ d = 8 ∨ d = 16)
  else if k = 3 then decide (d = 1 ∨ d = 2 ∨ d = 4 ∨ d = 8)
  else if k = 2 ∨ k = 4 ∨ k = 6 then decide (d = 8 ∨ d = 16)
  else false
/-- Samples of a pixel: the program's (0 of no kind) and the definition's (1). -/
def smp (k : Nat) : Nat := if k = 0 ∨ k = 3 then 1 else if k = 4 then 2 else if k = 2 then 3 else if k = 6 then 4 else 0

def ihdr : Nat := 1229472850
def plte : Nat := 1347179589
def trns : Nat := 1951551059
def idat : Nat := 1229209940
def iend : Nat := 1229278788

/-- The header. -/
structure Hd where
  W : Nat
  H : Nat
  D : Nat
  K : Nat
  L : Nat

/-- What the data of IHDR say: an error (0: none) and the header. -/
def headOf (d : Nat → Nat) : Nat × Hd :=
  let w := ((d 0 * 256 + d 1) * 256 + d 2) * 256 + d 3
  let h := ((d 4 * 256 + d 5) * 256 + d 6) * 256 + d 7
  if w = 0 ∨ h = 0 ∨ 2147483648 ≤ w ∨ 2147483648 ≤ h ∨ legal (d 9) (d 8) = false then (7, ⟨0, 0, 0, 0, 0⟩)
  else if d 10 ≠ 0 ∨ d 11 ≠ 0 ∨ 1 < d 12 then (7, ⟨0, 0, 0, 0, 0⟩)
  else if 16 < w ∨ 16 < h then (8, ⟨0, 0, 0, 0, 0⟩)
  else (0, ⟨w, h, d 8, d 9, d 12⟩)

/-! ### The program's reader -/

structure Rd where
  part : Nat
  taken : Nat
  number : Nat
  length : Nat
  ctype : Nat
  sum : Nat
  hd : Hd
  raw : Nat → Nat
  colours : Nat
  clear : Nat → Nat
  streamed : Nat
  sp : Bool
  sc : Bool
  sd : Bool
  dov : Bool

def Rd.start : Rd := ⟨0, 0, 0, 0, 0, 0, ⟨0, 0, 0, 0, 0⟩, fun _ => 0, 0, fun _ => 0, 0, false, false, false, false⟩
def Rd.enter (s : Rd) (p : Nat) : Rd := { s with part := p, taken := 0, number := 0 }
def Rd.num (s : Rd) (x : Nat) : Rd := { s with number := (s.number * 256 + x) % 4294967296, taken := (s.taken + 1) % 4294967296 }

def signB (i : Nat) : Nat := [137, 80, 78, 71, 13, 10, 26, 10].getD i 0

def Rd.takeSign (s : Rd) (x : Nat) : Rd × Nat :=
  if 8 ≤ s.taken ∨ x ≠ signB s.taken then (s, 1)
  else if s.taken + 1 = 8 then ({ s with taken := s.taken + 1 }.enter 1, 0) else ({ s with taken := s.taken + 1 }, 0)

def Rd.takeLength (s : Rd) (x : Nat) : Rd × Nat :=
  let s1 := s.num x
  if s1.taken ≠ 4 then (s1, 0)
  else if 2147483648 ≤ s1.number then (s1, 2)
  else ({ s1 with length := s1.number, sum := crcStart }.enter 2, 0)

def Rd.checkFirst (s : Rd) : Nat := if s.ctype ≠ ihdr then 4 else if s.length ≠ 13 then 5 else 0
def Rd.checkPalette (s : Rd) : Nat :=
  if s.sd || s.sp || s.sc then 4 else if s.hd.K = 0 ∨ s.hd.K = 4 then 4
  else if s.length < 3 ∨ 768 < s.length ∨ s.length % 3 ≠ 0 then 5
  else if s.hd.K = 3 ∧ 3 * 2 ^ s.hd.D < s.length then 5 else 0
def Rd.checkAlphas (s : Rd) : Nat := if s.sp = false then 4 else if s.length < 1 ∨ s.colours < s.length then 5 else 0
def Rd.checkClear (s : Rd) : Nat :=
  if s.sd || s.sc then 4 else if s.hd.K = 0 ∨ s.hd.K = 2 then (if s.length ≠ 2 * smp s.hd.K then 5 else 0)
  else if s.hd.K = 3 then s.checkAlphas else 4
def Rd.checkData (s : Rd) : Nat := if s.dov = true ∨ s.hd.K = 3 ∧ s.sp = false then 4 else 0
def Rd.checkEnd (s : Rd) : Nat := if s.sd = false then 4 else if s.length ≠ 0 then 5 else 0
def Rd.checkType (s : Rd) : Nat :=
  if tyB s.ctype = false then 3
  else if s.hd.W = 0 then s.checkFirst
  else if s.ctype ≠ idat ∧ s.sd = true ∧ s.dov = false ∧ s.streamed < 8 then 21
  else if s.ctype = ihdr then 4
  else if s.ctype = plte then s.checkPalette
  else if s.ctype = trns then s.checkClear
  else if s.ctype = idat then s.checkData
  else if s.ctype = iend then s.checkEnd
  else if capB (s.ctype / 16777216 % 256) then 3 else 0
def Rd.note (s : Rd) : Rd :=
  let s1 := if s.ctype = plte then { s with sp := true, colours := s.length / 3 }
    else if s.ctype = trns then { s with sc := true } else if s.ctype = idat then { s with sd := true } else s
  if s1.sd = true ∧ s1.ctype ≠ idat then { s1 with dov := true } else s1

def Rd.takeType (s : Rd) (x : Nat) : Rd × Nat :=
  let s1 := { s with sum := crcAdd s.sum x }.num x
  if s1.taken ≠ 4 then (s1, 0)
  else
    let s2 := { s1 with ctype := s1.number }
    if s2.checkType ≠ 0 then (s2, s2.checkType)
    else if s2.length = 0 then (s2.note.enter 4, 0) else (s2.note.enter 3, 0)

def upd (f : Nat → Nat) (i v : Nat) : Nat → Nat := fun j => if j = i then v else f j
def Rd.keep (s : Rd) (x : Nat) : Rd :=
  if s.ctype = ihdr then (if s.taken < 13 then { s with raw := upd s.raw s.taken x } else s)
  else if s.ctype = plte then s
  else if s.ctype = trns then (if s.taken < 256 then { s with clear := upd s.clear s.taken x } else s)
  else if s.ctype = idat then (if s.streamed < 8 then { s with streamed := s.streamed + 1 } else s)
  else s
def Rd.takeData (s : Rd) (x : Nat) : Rd × Nat :=
  let s1 := ({ s with sum := crcAdd s.sum x } : Rd).keep x
  let s2 := { s1 with taken := (s1.taken + 1) % 4294967296 }
  if s2.taken = s2.length then (s2.enter 4, 0) else (s2, 0)

def Rd.clearBad (s : Rd) (i : Nat) : Bool := decide (2 ^ s.hd.D ≤ s.clear (2 * i) * 256 + s.clear (2 * i + 1))
def Rd.accept (s : Rd) : Rd × Nat :=
  if s.ctype = ihdr then (if (headOf s.raw).1 ≠ 0 then (s, (headOf s.raw).1) else ({ s with hd := (headOf s.raw).2 }, 0))
  else if s.ctype = trns then (if s.hd.K = 3 then (s, 0) else if (List.range (smp s.hd.K)).any s.clearBad then (s, 9) else (s, 0))
  else (s, 0)
def Rd.takeSum (s : Rd) (x : Nat) : Rd × Nat :=
  let s1 := s.num x
  if s1.taken ≠ 4 then (s1, 0)
  else if s1.number ≠ crcEnd s1.sum then (s1, 6)
  else if s1.accept.2 ≠ 0 then s1.accept
  else if s1.ctype = iend then (s1.accept.1.enter 5, 0) else (s1.accept.1.enter 1, 0)

def Rd.take (s : Rd) (x : Nat) : Rd × Nat :=
  if s.part = 0 then s.takeSign x
  else if s.part = 1 then s.takeLength x
  else if s.part = 2 then s.takeType x
  else if s.part = 3 then s.takeData x
  else if s.part = 4 then s.takeSum x
  else (s, 22)

/-- The program's decoder. -/
structure Dec where
  file : Rd
  count : Nat
  err : Nat
  at' : Nat
def Dec.start : Dec := ⟨Rd.start, 0, 0, 0⟩
def Dec.one (d : Dec) (x : Nat) : Dec :=
  if d.err ≠ 0 then d
  else if (d.file.take x).2 ≠ 0 then { d with file := (d.file.take x).1, err := (d.file.take x).2, at' := d.count }
  else { d with file := (d.file.take x).1, count := d.count + 1 }
def Dec.feed (d : Dec) (l : List Nat) : Dec := l.foldl Dec.one d
def Dec.close (d : Dec) : Dec := if d.err = 0 ∧ d.file.part ≠ 5 then { d with err := 23, at' := d.count } else d

/-! ### The definition -/

structure Fl where
  on : Bool
  hd : Hd
  hasPal : Bool
  hasClear : Bool
  palN : Nat
  first : Bool
def Fl.start : Fl := ⟨false, ⟨0, 0, 0, 0, 0⟩, false, false, 0, false⟩

/-- What a chunk of that type (as a number) and length breaks. (No IDAT.) -/
def Fl.begins (f : Fl) (k n : Nat) : Nat :=
  if tyB k = false then 3
  else if f.first = false then (if k ≠ ihdr then 4 else if n ≠ 13 then 5 else 0)
  else if k = ihdr then 4
  else if k = plte then
    (if f.hasPal = true ∨ f.hasClear = true ∨ ¬ (f.hd.K = 2 ∨ f.hd.K = 3 ∨ f.hd.K = 6) then 4
     else if n = 0 ∨ n % 3 ≠ 0 ∨ 768 < n ∨ (f.hd.K = 3 ∧ 3 * 2 ^ f.hd.D < n) then 5 else 0)
  else if k = trns then
    (if f.hasClear = true ∨ (f.hd.K = 4 ∨ f.hd.K = 6) ∨ (f.hd.K = 3 ∧ f.hasPal = false) then 4
     else if f.hd.K = 3 ∧ (n = 0 ∨ f.palN / 3 < n) then 5
     else if f.hd.K ≠ 3 ∧ n ≠ 2 * (if f.hd.K = 2 then 3 else if f.hd.K = 4 then 2 else if f.hd.K = 6 then 4 else 1) then 5 else 0)
  else if k = iend then 4
  else if capB (k / 16777216 % 256) then 3 else 0
def pairsBad (D : Nat) : List Nat → Bool
  | a :: b :: r => decide (2 ^ D ≤ 256 * a + b) || pairsBad D r
  | _ => false
def Fl.ends (f : Fl) (k : Nat) (d : List Nat) : Fl × Nat :=
  if k = ihdr then
    (if (headOf (fun i => d.getD i 0)).1 ≠ 0 then (f, (headOf (fun i => d.getD i 0)).1)
     else ({ f with on := true, hd := (headOf (fun i => d.getD i 0)).2 }, 0))
  else if k = plte then ({ f with hasPal := true, palN := d.length }, 0)
  else if k = trns then (if f.hd.K ≠ 3 ∧ pairsBad f.hd.D d = true then (f, 9) else ({ f with hasClear := true }, 0))
  else (f, 0)

/-- A chunk, of the bytes l from its first on: what became of the file · the error (0: none) · its place, counted from there · the bytes that it took (0: it does not end, or may not be). -/
structure Ch where
  f : Fl
  err : Nat
  at' : Nat
  took : Nat
def Fl.chunk (f : Fl) (l : List Nat) : Ch :=
  if l.length < 4 then ⟨f, 0, 0, 0⟩
  else
    let n := numb (l.take 4)
    if 2147483648 ≤ n then ⟨f, 2, 3, 0⟩
    else if l.length < 8 then ⟨f, 0, 0, 0⟩
    else
      let k := numb ((l.drop 4).take 4)
      if f.begins k n ≠ 0 then ⟨f, f.begins k n, 7, 0⟩
      else
        let f1 := { f with first := true }
        if l.length < 8 + n + 4 then ⟨f1, 0, 0, 0⟩
        else if crcEnd (crcL crcStart ((l.drop 4).take (4 + n))) ≠ numb ((l.drop (8 + n)).take 4) then ⟨f1, 6, 8 + n + 3, 0⟩
        else
          let r := f1.ends k ((l.drop 8).take n)
          if r.2 ≠ 0 then ⟨r.1, r.2, 8 + n + 3, 0⟩ else ⟨r.1, 0, 0, 12 + n⟩

/-- The chunks from place i on. -/
def Fl.chunks : Nat → Fl → List Nat → Nat → Fl × Nat × Nat
  | 0, f, _, _ => (f, 0, 0)
  | fuel + 1, f, l, i =>
    if l = [] then (f, 0, 0)
    else
      let c := f.chunk l
      if c.took = 0 then (c.f, c.err, if c.err = 0 then 0 else i + c.at') else Fl.chunks fuel c.f (l.drop c.took) (i + c.took)

/-- The first place among the first eight bytes that is another one. -/
def badSign : Nat → List Nat → Option Nat
  | _, [] => none
  | i, x :: r => if 8 ≤ i then none else if x ≠ signB i then some i else badSign (i + 1) r
/-- The file of a text: what it says, its error and place. -/
def walk (l : List Nat) : Fl × Nat × Nat :=
  match badSign 0 l with
  | some i => (Fl.start, 1, i)
  | none => Fl.chunks (l.length + 1) Fl.start (l.drop 8) 8

end Px
