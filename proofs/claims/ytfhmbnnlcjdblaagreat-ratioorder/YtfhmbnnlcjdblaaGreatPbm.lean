/- Of what RatioOrderRow stands on: ExMake ExWorth. -/
import Derived.Test.YtfhmbnnlcjdblaaGreatPbh
import Derived.Test.YtfhmbnnlcjdblaaGreatPbl
import Derived.Test.YtfhmbnnlcjdblaaGreatPbd
namespace Go.Proofs.YtfhmbnnlcjdblaaGreat
open Go.RowKit
theorem Tz.uniq {m y z:Nat} (h:Tz m y) (k:Tz m z):y = z:=by
 obtain ⟨p,hp⟩:=h
 obtain ⟨q,hq⟩:=k
 rcases Nat.lt_trichotomy y z with hlt|rfl|hlt
 ·exfalso
  obtain ⟨d,rfl⟩:∃ d,z = y+(d+1):=⟨z - y - 1,by omega⟩
  rw [hp,Nat.pow_add,Nat.mul_assoc] at hq
  have:=Nat.eq_of_mul_eq_mul_left (Nat.pow_pos (by decide:0 < 2)) hq
  rw [Nat.pow_succ,Nat.mul_right_comm] at this
  omega
 ·rfl
 ·exfalso
  obtain ⟨d,rfl⟩:∃ d,y = z+(d+1):=⟨y - z - 1,by omega⟩
  rw [hp,Nat.pow_add,Nat.mul_assoc] at hq
  have:=Nat.eq_of_mul_eq_mul_left (Nat.pow_pos (by decide:0 < 2)) hq
  rw [Nat.pow_succ,Nat.mul_right_comm] at this
  omega
theorem st_mine (base:Nat) (a:Option Addr) (n c m:Nat):St base (fun W=>Mine W base a n c m):=⟨fun _ _ hb h=>h.kept hb,fun _ _ u hp h=>h.set hp u⟩
end Go.Proofs.YtfhmbnnlcjdblaaGreat
