/- Of what the proof is made: 3 texts, one behind the other. -/
import Derived.Test.YtkdlcomfpffhhaaGreatDoorM5
import Derived.OpenShut
import Derived.Laws.OwnMore
import Derived.BigQuiet
namespace Go.Proofs.YtkdlcomfpffhhaaGreatDoor
open Go.RowKit
theorem bnext {w w1 w2:World} (h:Below w.heap.size w w1) (k:Below w1.heap.size w1 w2):Below w.heap.size w w2:=h.trans (k.mono h.size)
def stF (L G k:Nat):Nat×Nat:=if k<G then (L+k,0) else (L+(G+k%G)*p2 (k/G-1),k/G-1)
theorem w64_in (n:Int) (h : -9223372036854775808≤n∧n≤9223372036854775807):wrap64 n=n:=by unfold wrap64; omega
set_option maxHeartbeats 1600000 in
theorem step_any (L G M k:Nat) (w:World) (hL:L≤3) (hG:1≤G) (hG4:G≤4) (hk:k/G≤15) (hk2:k≤60) :
  Calls Tryz.prog 227 #[.agg #[.int .i64 (L:Nat),.int .i64 (G:Nat),.int .i64 (M:Nat)],.int .i64 (k:Nat)] w fun e w'=>e = .returned (.tuple #[.int .i64 ((stF L G k).1:Nat),.int .i64 ((stF L G k).2:Nat)])∧Below w.heap.size w w':=by
 have hLI:(L:Int)≤3:=by omega
 have hGI:(1:Int)≤(G:Int):=by omega
 have hG4I:(G:Int)≤4:=by omega
 have hkI:(k:Int)≤60:=by omega
 by_cases hlt:k<G
 ·
  have hltI:(k:Int)<(G:Int):=by omega
  have e:stF L G k=(L+k,0):=by unfold stF; rw [if_pos hlt]
  rw [e]
  clear hk hk2 hlt hL hG hG4 e
  go_enter Tryz.func227,Tryz.ntmps227
  go_wp2
  go_ret2
  exact ⟨by simp,(Below.refl _ _).alloc (Nat.le_refl _) _⟩
 ·
  have hltI:¬ (k:Int)<(G:Int):=by omega
  obtain ⟨q,hq⟩:∃ q,k/G=q:=⟨_,rfl⟩
  have hq1:1≤q:=by rw [←hq]; exact (Nat.le_div_iff_mul_le hG).2 (by omega)
  obtain ⟨b,hb⟩:∃ b,q-1=b:=⟨_,rfl⟩
  obtain ⟨r,hr⟩:∃ r,k%G=r:=⟨_,rfl⟩
  have hr4:r<4:=by rw [←hr]; exact Nat.lt_of_lt_of_le (Nat.mod_lt _ hG) hG4
  have hqI:(k:Int)/(G:Int)=(q:Int):=by rw [←hq]; exact (Int.natCast_ediv k G).symm
  have hbI:(q:Int)-1=(b:Int):=by omega
  have hrI:(k:Int)%(G:Int)=(r:Int):=by rw [←hr]; exact (Int.natCast_emod k G).symm
  have hb14:(b:Int)≤14:=by omega
  have hrI4:(r:Int)<4:=by omega
  have e:stF L G k=(L+(G+r)*p2 b,b):=by unfold stF; rw [if_neg hlt,hq,hb,hr]
  have HW:Hid (wrap64 ((L:Int)+wrap64 (((G:Int)+(r:Int))*2 ^ b))=((L+(G+r)*p2 b:Nat):Int)):=by
   show _=_
   have h1:p2 b≤p2 14:=Nat.pow_le_pow_right (by omega) (by omega)
   have h2:p2 14=16384:=by decide
   have h3:(G+r)*p2 b≤7*16384:=Nat.mul_le_mul (by omega) (by omega)
   have h4:((G:Int)+(r:Int))*2 ^ b=(((G+r)*p2 b:Nat):Int):=by rw [Int.natCast_mul,p2_int]; simp
   rw [h4]
   generalize (G+r)*p2 b=Q at *
   rw [w64_in (Q:Int) (by omega),w64_in ((L:Int)+(Q:Int)) (by omega)]
   omega
  rw [e]
  clear hk hk2 hlt hL hG hG4 e hq hb hr hr4 hq1
  go_enter Tryz.func227,Tryz.ntmps227
  go_wp2
  go_quiet (fail)
  go_wp2
  go_ret2
  exact ⟨by rw [←unhide HW]; rfl,below_drewN ((Below.refl _ _).alloc (Nat.le_refl _) _) _⟩
theorem and_maskS (k:Nat) (n:Int) (h0:0≤n) (h1:n<9223372036854775808) (hk:k≤20):bits .and .i64 n ((2 ^ k-1:Nat):Int)=n%(2 ^ k:Nat):=by
 obtain ⟨a,rfl⟩:=Int.eq_ofNat_of_zero_le h0
 have hp:2 ^ k≤2 ^ 20:=Nat.pow_le_pow_right (by omega) hk
 rw [i64_and_nat a (2 ^ k-1) (by omega) (by omega),Nat.and_two_pow_sub_one_eq_mod]
 omega
theorem gOk_nn {n:Int} (h0:0≤n):gOk n=stOk (gY n) (gM n) (gD n) (gH n) (gI n) (gS n):=by
 cases h:inB n 0 4294967295
 ·
  have hb:=inB_false.1 h
  have:stOk (gY n) (gM n) (gD n) (gH n) (gI n) (gS n)=false:=st_no (.inr (.inl (by unfold gY; omega)))
  rw [this]; simp [gOk,h]
 ·
  simp [gOk,h]
set_option maxHeartbeats 1600000 in
theorem implStampGet_any (n:Int) (w:World) (hn:(Lit.int .i64 n).wf=true) :
  Calls Tryz.prog 118 #[.int .i64 n] w fun e w'=>e = .returned (.tuple #[stG n,.bool (gOk n)])∧Below w.heap.size w w':=by
 have hb:=bounds_i64 hn
 obtain ⟨lo,hi⟩:=hb
 by_cases h0:0≤n
 ·
  have a1:bits .and .i64 (n/2097152) 15=gM n:=and_maskS 4 _ (by omega) (by omega) (by omega)
  have a2:bits .and .i64 (n/65536) 31=gD n:=and_maskS 5 _ (by omega) (by omega) (by omega)
  have a3:bits .and .i64 (n/2048) 31=gH n:=and_maskS 5 _ (by omega) (by omega) (by omega)
  have a4:bits .and .i64 (n/32) 63=gI n:=and_maskS 6 _ (by omega) (by omega) (by omega)
  have a5:bits .and .i64 n 31=n%32:=and_maskS 5 _ (by omega) (by omega) (by omega)
  have hk:=gOk_nn h0
  have gy:1980+n/33554432=gY n:=by unfold gY; omega
  have gs:2*(n%32)=gS n:=rfl
  cases ho:stOk (gY n) (gM n) (gD n) (gH n) (gI n) (gS n)
  ·
   rw [ho] at hk
   rw [hk,stG_no hk]
   go_enter Tryz.func118,Tryz.ntmps118
   go_wp2_with fail
   refine (implStampOk_any _ _ _ _ _ _ _).mono ?_
   rintro e w2 ⟨rfl,hb2⟩
   rw [ho]
   have hx:=((six_alloc w 0 0 0 0 0 0 30).later ((Below.refl _ _).alloc (Nat.le_refl _) _) (by simp)).later hb2 (by simp; omega)
   obtain ⟨⟨z0,z1,z2,z3,z4,z5⟩,_,_⟩:=hx.store 0 0 0 0 0 0
   obtain ⟨⟨c0,c1,c2,c3,c4,c5⟩,⟨f0,f1,f2,f3,f4,f5⟩,hlt⟩:=hx
   go_wp2
   refine bodyPost_ret (v:=.tuple #[.agg #[.int .i64 0,.int .i64 0,.int .i64 0,.int .i64 0,.int .i64 0,.int .i64 0],.bool false]) (by simp [results,Tryz.results118,go_sem,z0,z1,z2,z3,z4,z5]) rfl ⟨rfl,?_⟩
   exact six_below ((((Below.refl _ _).alloc (Nat.le_refl _) _).alloc (by simp) _).trans (hb2.mono (by simp; omega))) (Nat.le_refl _) _ _ _ _ _ _
  ·
   rw [ho] at hk
   rw [hk,stG_yes hk]
   go_enter Tryz.func118,Tryz.ntmps118
   go_wp2_with fail
   refine (implStampOk_any _ _ _ _ _ _ _).mono ?_
   rintro e w2 ⟨rfl,hb2⟩
   rw [ho]
   have hx:=((six_alloc w 0 0 0 0 0 0 30).later ((Below.refl _ _).alloc (Nat.le_refl _) _) (by simp)).later hb2 (by simp; omega)
   have hz:=(six_alloc (w.alloc (.cells #[.int .i64 0,.int .i64 0,.int .i64 0,.int .i64 0,.int .i64 0,.int .i64 0] 30)) (gY n) (gM n) (gD n) (gH n) (gI n) (gS n) 30).later hb2 (by simp)
   have hz':Six w2 (w.heap.size+1) (gY n) (gM n) (gD n) (gH n) (gI n) (gS n):=by simpa using hz
   clear hz
   obtain ⟨⟨z0,z1,z2,z3,z4,z5⟩,_,_⟩:=hx.store (gY n) (gM n) (gD n) (gH n) (gI n) (gS n)
   obtain ⟨⟨c0,c1,c2,c3,c4,c5⟩,⟨f0,f1,f2,f3,f4,f5⟩,hlt⟩:=hx
   obtain ⟨⟨d0,d1,d2,d3,d4,d5⟩,_,_⟩:=hz'
   go_wp2
   refine bodyPost_ret (v:=.tuple #[.agg #[.int .i64 (gY n),.int .i64 (gM n),.int .i64 (gD n),.int .i64 (gH n),.int .i64 (gI n),.int .i64 (gS n)],.bool true]) (by simp [results,Tryz.results118,go_sem,z0,z1,z2,z3,z4,z5]) rfl ⟨rfl,?_⟩
   exact six_below ((((Below.refl _ _).alloc (Nat.le_refl _) _).alloc (by simp) _).trans (hb2.mono (by simp; omega))) (Nat.le_refl _) _ _ _ _ _ _
 ·
  have hk:gOk n=false:=by simp [gOk,inB,h0]
  rw [hk,stG_no hk]
  have hy:1980+n/33554432<1980:=by omega
  go_enter Tryz.func118,Tryz.ntmps118
  go_wp2_with fail
  refine (implStampOk_any _ _ _ _ _ _ _).mono ?_
  rintro e w2 ⟨rfl,hb2⟩
  rw [st_no (.inl hy)]
  have hx:=((six_alloc w 0 0 0 0 0 0 30).later ((Below.refl _ _).alloc (Nat.le_refl _) _) (by simp)).later hb2 (by simp; omega)
  obtain ⟨⟨z0,z1,z2,z3,z4,z5⟩,_,_⟩:=hx.store 0 0 0 0 0 0
  obtain ⟨⟨c0,c1,c2,c3,c4,c5⟩,⟨f0,f1,f2,f3,f4,f5⟩,hlt⟩:=hx
  go_wp2
  refine bodyPost_ret (v:=.tuple #[.agg #[.int .i64 0,.int .i64 0,.int .i64 0,.int .i64 0,.int .i64 0,.int .i64 0],.bool false]) (by simp [results,Tryz.results118,go_sem,z0,z1,z2,z3,z4,z5]) rfl ⟨rfl,?_⟩
  exact six_below ((((Below.refl _ _).alloc (Nat.le_refl _) _).alloc (by simp) _).trans (hb2.mono (by simp; omega))) (Nat.le_refl _) _ _ _ _ _ _
end Go.Proofs.YtkdlcomfpffhhaaGreatDoor
