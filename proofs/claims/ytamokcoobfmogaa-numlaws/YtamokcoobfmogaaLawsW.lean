/- The law NumLaws, walked: it answers true, told by what its callees hand back. -/
import Derived.Test.YtamokcoobfmogaaOfL
import Derived.Test.YtamokcoobfmogaaAlive
import Derived.Test.YtamokcoobfmogaaFloat
import Derived.Deep.Cut
import Derived.Test.YtamokcoobfmogaaStepsB
namespace Go.Proofs.Ytamokcoobfmogaa
open Go.RowKit
attribute [local go_sem] keepOp keepAt keepUpon

/-- What the law's callees hand back: is the first number 0; has it a root; has twice it one. -/
structure LF (r s t : ByteArray) (nil has too : Bool) (x y z ab ba mab mba abC bc aBC mabC mbc aMbc aDbc mac dsm nx xnx dxy dxyy inv xinv one two x2 p q pp qq : E5) : Prop where
  of1 : ∀ w, Calls Try.prog 18 #[.string r] w fun r w' => r = .returned (.tuple #[x.v, .bool true]) ∧ Below w.heap.size w w'
  of2 : ∀ w, Calls Try.prog 18 #[.string s] w fun r w' => r = .returned (.tuple #[y.v, .bool true]) ∧ Below w.heap.size w w'
  of3 : ∀ w, Calls Try.prog 18 #[.string t] w fun r w' => r = .returned (.tuple #[z.v, .bool true]) ∧ Below w.heap.size w w'
  one1 : ∀ w, Calls Try.prog 13 #[.int .u32 1] w fun r w' => r = .returned (one.v) ∧ Below w.heap.size w w'
  two1 : ∀ w, Calls Try.prog 13 #[.int .u32 2] w fun r w' => r = .returned (two.v) ∧ Below w.heap.size w w'
  add1 : ∀ w, Calls Try.prog 19 #[x.v, y.v] w fun r w' => r = .returned (ab.v) ∧ Below w.heap.size w w'
  add2 : ∀ w, Calls Try.prog 19 #[y.v, x.v] w fun r w' => r = .returned (ba.v) ∧ Below w.heap.size w w'
  mul1 : ∀ w, Calls Try.prog 23 #[x.v, y.v] w fun r w' => r = .returned (mab.v) ∧ Below w.heap.size w w'
  mul2 : ∀ w, Calls Try.prog 23 #[y.v, x.v] w fun r w' => r = .returned (mba.v) ∧ Below w.heap.size w w'
  add3 : ∀ w, Calls Try.prog 19 #[ab.v, z.v] w fun r w' => r = .returned (abC.v) ∧ Below w.heap.size w w'
  add4 : ∀ w, Calls Try.prog 19 #[y.v, z.v] w fun r w' => r = .returned (bc.v) ∧ Below w.heap.size w w'
  add5 : ∀ w, Calls Try.prog 19 #[x.v, bc.v] w fun r w' => r = .returned (aBC.v) ∧ Below w.heap.size w w'
  mul3 : ∀ w, Calls Try.prog 23 #[mab.v, z.v] w fun r w' => r = .returned (mabC.v) ∧ Below w.heap.size w w'
  mul4 : ∀ w, Calls Try.prog 23 #[y.v, z.v] w fun r w' => r = .returned (mbc.v) ∧ Below w.heap.size w w'
  mul5 : ∀ w, Calls Try.prog 23 #[x.v, mbc.v] w fun r w' => r = .returned (aMbc.v) ∧ Below w.heap.size w w'
  mul6 : ∀ w, Calls Try.prog 23 #[x.v, bc.v] w fun r w' => r = .returned (aDbc.v) ∧ Below w.heap.size w w'
  mul7 : ∀ w, Calls Try.prog 23 #[x.v, z.v] w fun r w' => r = .returned (mac.v) ∧ Below w.heap.size w w'
  add6 : ∀ w, Calls Try.prog 19 #[mab.v, mac.v] w fun r w' => r = .returned (dsm.v) ∧ Below w.heap.size w w'
  neg1 : ∀ w, Calls Try.prog 25 #[x.v] w fun r w' => r = .returned (nx.v) ∧ Below w.heap.size w w'
  add7 : ∀ w, Calls Try.prog 19 #[x.v, nx.v] w fun r w' => r = .returned (xnx.v) ∧ Below w.heap.size w w'
  sub1 : ∀ w, Calls Try.prog 21 #[x.v, y.v] w fun r w' => r = .returned (dxy.v) ∧ Below w.heap.size w w'
  add8 : ∀ w, Calls Try.prog 19 #[dxy.v, y.v] w fun r w' => r = .returned (dxyy.v) ∧ Below w.heap.size w w'
  inv1 : ∀ w, Calls Try.prog 29 #[x.v] w fun r w' => r = .returned (inv.v) ∧ Below w.heap.size w w'
  mul8 : ∀ w, Calls Try.prog 23 #[x.v, inv.v] w fun r w' => r = .returned (xinv.v) ∧ Below w.heap.size w w'
  mul9 : ∀ w, Calls Try.prog 23 #[x.v, two.v] w fun r w' => r = .returned (x2.v) ∧ Below w.heap.size w w'
  mul10 : ∀ w, Calls Try.prog 23 #[p.v, p.v] w fun r w' => r = .returned (pp.v) ∧ Below w.heap.size w w'
  mul11 : ∀ w, Calls Try.prog 23 #[q.v, q.v] w fun r w' => r = .returned (qq.v) ∧ Below w.heap.size w w'
  s1 : ∀ w, Calls Try.prog 15 #[ab.v, ba.v] w fun r w' => r = .returned (.bool true) ∧ Below w.heap.size w w'
  s2 : ∀ w, Calls Try.prog 15 #[mab.v, mba.v] w fun r w' => r = .returned (.bool true) ∧ Below w.heap.size w w'
  s3 : ∀ w, Calls Try.prog 15 #[abC.v, aBC.v] w fun r w' => r = .returned (.bool true) ∧ Below w.heap.size w w'
  s4 : ∀ w, Calls Try.prog 15 #[mabC.v, aMbc.v] w fun r w' => r = .returned (.bool true) ∧ Below w.heap.size w w'
  s5 : ∀ w, Calls Try.prog 15 #[aDbc.v, dsm.v] w fun r w' => r = .returned (.bool true) ∧ Below w.heap.size w w'
  s6 : ∀ w, Calls Try.prog 15 #[xnx.v, zeroE.v] w fun r w' => r = .returned (.bool true) ∧ Below w.heap.size w w'
  s7 : ∀ w, Calls Try.prog 15 #[dxyy.v, x.v] w fun r w' => r = .returned (.bool true) ∧ Below w.heap.size w w'
  s8 : ∀ w, Calls Try.prog 15 #[x.v, zeroE.v] w fun r w' => r = .returned (.bool nil) ∧ Below w.heap.size w w'
  s9 : ∀ w, Calls Try.prog 15 #[xinv.v, one.v] w fun r w' => r = .returned (.bool (!nil)) ∧ Below w.heap.size w w'
  r1 : ∀ w, Calls Try.prog 27 #[x.v] w fun r w' => r = .returned (.tuple #[p.v, .bool has]) ∧ Below w.heap.size w w'
  r2 : ∀ w, Calls Try.prog 27 #[x2.v] w fun r w' => r = .returned (.tuple #[q.v, .bool too]) ∧ Below w.heap.size w w'
  z1 : nil = true → ∀ w, Calls Try.prog 15 #[p.v, zeroE.v] w fun r w' => r = .returned (.bool true) ∧ Below w.heap.size w w'
  z2 : nil = true → ∀ w, Calls Try.prog 15 #[q.v, zeroE.v] w fun r w' => r = .returned (.bool true) ∧ Below w.heap.size w w'
  o1 : ∀ w, Calls Try.prog 17 #[p.v] w fun r w' => r = .returned (.bool false) ∧ Below w.heap.size w w'
  o2 : ∀ w, Calls Try.prog 17 #[q.v] w fun r w' => r = .returned (.bool false) ∧ Below w.heap.size w w'
  t1 : has = true → ∀ w, Calls Try.prog 15 #[pp.v, x.v] w fun r w' => r = .returned (.bool true) ∧ Below w.heap.size w w'
  t2 : too = true → ∀ w, Calls Try.prog 15 #[qq.v, x2.v] w fun r w' => r = .returned (.bool true) ∧ Below w.heap.size w w'


end Go.Proofs.Ytamokcoobfmogaa
