import Derived.Test.YthnphhgpfedeeaaGreatDoorCF06
import Derived.Deep.DeepCutAuto
import Derived.Deep.CutBlock
namespace Go.Proofs.YthnphhgpfedeeaaGreatDoor
open Go.RowKit
open Nat renaming mod_eq_of_lt->ab
set_option linter.all false
theorem RM(v base d:Nat)(hb:base=10\/base=16)(hd:d<=15):(decide (18446744073709551616<=v*base+d)=(decide (18446744073709551616<=v)||decide ((18446744073709551615-d)/base<v%18446744073709551616))) /\ (v*base+d)%18446744073709551616=(v%18446744073709551616*base+d)%18446744073709551616:=by
 constructor
 ·rw[Bool.eq_iff_iff];simp only[Bool.or_eq_true,decide_eq_true_eq];rcases hb with rfl|rfl
  ·constructor
   ·intro h;by_cases hv:18446744073709551616<=v
    ·exact .inl hv
    ·right;rw[ab (by omega)];omega
   ·rintro(h|h)
    ·omega
    ·by_cases hv:18446744073709551616<=v
     ·omega
     ·rw[ab (by omega)]at h;omega
  ·constructor
   ·intro h;by_cases hv:18446744073709551616<=v
    ·exact .inl hv
    ·right;rw[ab (by omega)];omega
   ·rintro(h|h)
    ·omega
    ·by_cases hv:18446744073709551616<=v
     ·omega
     ·rw[ab (by omega)]at h;omega
 ·rw[Nat.add_mod,Nat.mul_mod]
  conv=>rhs;rw[Nat.add_mod,Nat.mul_mod,Nat.mod_mod]
theorem wrap64(x:Int):IntKind.u64.wrap x=x%18446744073709551616:=by simp[IntKind.wrap,IntKind.signed,IntKind.bits]
