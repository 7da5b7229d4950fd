/-
  A bridge that is right has a table of networks whose numbers are right.
-/
import Derived.Test.YtjfdhkjkknkmbaaGreatPCK01
import Derived.Test.YtjfdhkjkknkmbaaGreatPCK06
import Derived.Test.YtjfdhkjkknkmbaaGreatPCK36
namespace Go.Proofs.YtjfdhkjkknkmbaaGreat
set_option maxRecDepth 100000
set_option maxHeartbeats 16000000
open Go.RowKit

theorem ok_rg {B:BR} (h:zx B=true):B.Rg:=by
 unfold zx at h;simp only [Bool.and_eq_true] at h;obtain ⟨-,-,-,hp,hf,hv,-⟩:=h;refine ⟨fun x hx=>zh1 ((((zb1 B.f).1 hf).1).1 x hx),fun r hr => ?_⟩;unfold zaw at hv;simp only [Bool.and_eq_true,List.all_eq_true] at hv;have h1:=hv.1.1.2 r hr;unfold zbn at h1;simp only [Bool.and_eq_true] at h1;have ha:allOf ((B.ports.length:Int)).toNat≤63:=by
  unfold in3 at hp;simp only [Bool.and_eq_true,decide_eq_true_eq] at hp;rw [Int.toNat_natCast];rcases (show B.ports.length=1∨B.ports.length=2∨B.ports.length=3∨B.ports.length=4∨B.ports.length=5∨B.ports.length=6 by omega) with e | e | e | e | e | e <;> rw [e] <;> decide
 unfold in3 at h1;simp only [Bool.and_eq_true,decide_eq_true_eq] at h1;unfold VR.Rng I64;omega

end Go.Proofs.YtjfdhkjkknkmbaaGreat
