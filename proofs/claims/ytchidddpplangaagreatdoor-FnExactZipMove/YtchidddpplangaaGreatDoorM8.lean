/- Of what the proof is made: 3 texts, one behind the other. -/
import Derived.Test.YtchidddpplangaaGreatDoorM6
import Derived.OpenShut
import Derived.Laws.OwnMore
import Derived.BigQuiet
set_option linter.unusedSimpArgs false
set_option linter.unusedVariables false
set_option maxHeartbeats 1600000
namespace Go.Proofs.YtchidddpplangaaGreatDoor
open Go.RowKit
theorem ai{w w1 w2:World}(h:Below w.heap.size w w1)(k:Below w1.heap.size w1 w2):Below w.heap.size w w2:=h.trans (k.mono h.size)
def stF(L G k:Nat):Nat×Nat:=if k<G then(L+k,0)else(L+(G+k%G)*p2 (k/G-1),k/G-1)
theorem LB(n:Int)(h : -9223372036854775808<=n/\n<=9223372036854775807):wrap64 n=n:=by unfold wrap64;omega
theorem Br(L G M k:Nat)(w:World)(l:L<=3)(g:1<=G)(c:G<=4)(n:k/G<=15)(d:k<=60) :
  Ds 233 #[.agg #[.int .i64 (L:Nat),.int .i64 (G:Nat),.int .i64 (M:Nat)],.int .i64 (k:Nat)] w (.tuple #[.int .i64 ((stF L G k).1:Nat),.int .i64 ((stF L G k).2:Nat)]):=by
 have u:(L:Int)<=3:=by omega
 have t:(1:Int)<=(G:Int):=by omega
 have j:(G:Int)<=4:=by omega
 have x:(k:Int)<=60:=by omega
 by_cases a:k<G
 .
  have f:(k:Int)<(G:Int):=by omega
  have e:stF L G k=(L+k,0):=by unfold stF;rw[a0e a]
  rw[e];clear n d a l g c e;go_enter Tryz.func233,Tryz.ntmps233;go_wp2
  go_ret2
  exact⟨by simp,(a0c _ _).alloc (a0a _) _⟩
 .
  have f:¬ (k:Int)<(G:Int):=by omega
  obtain⟨q,hq⟩:∃q,k/G=q:=⟨_,rfl⟩;have h:1<=q:=by rw[←hq];exact(Nat.le_div_iff_mul_le g).2 (by omega)
  obtain⟨b,hb⟩:∃b,q-1=b:=⟨_,rfl⟩;obtain⟨r,hr⟩:∃r,k%G=r:=⟨_,rfl⟩;have i:r<4:=by rw[←hr];exact a0m (a0Y _ g) c
  have y:(k:Int)/(G:Int)=(q:Int):=by rw[←hq];exact(Int.natCast_ediv k G).symm
  have v:(q:Int)-1=(b:Int):=by omega
  have z:(k:Int)%(G:Int)=(r:Int):=by rw[←hr];exact(Int.natCast_emod k G).symm
  have m:(b:Int)<=14:=by omega
  have o:(r:Int)<4:=by omega
  have e:stF L G k=(L+(G+r)*p2 b,b):=by unfold stF;rw[a0d a,hq,hb,hr]
  have p:Hid (wrap64 ((L:Int)+wrap64 (((G:Int)+(r:Int))*2 ^ b))=((L+(G+r)*p2 b:Nat):Int)):=by
   show _=_;have A:p2 b<=p2 14:=a0N (by omega) (by omega);have h2:p2 14=16384:=by decide
   have B:(G+r)*p2 b<=7*16384:=Nat.mul_le_mul (by omega) (by omega);have s:((G:Int)+(r:Int))*2 ^ b=(((G+r)*p2 b:Nat):Int):=by rw[a1v,j9];simp
   rw[s];generalize (G+r)*p2 b=Q at *
   rw[LB (Q:Int) (by omega),LB ((L:Int)+(Q:Int)) (by omega)];omega
  rw[e];clear n d a l g c e hq hb hr i h;go_enter Tryz.func233,Tryz.ntmps233;go_wp2
  go_quiet (fail)
  go_wp2
  go_ret2
  exact⟨by rw[←ab p];rfl,below_drewN ((a0c _ _).alloc (a0a _) _) _⟩
theorem ko(k:Nat)(n:Int)(b:0<=n)(d:n<9223372036854775808)(c:k<=20):bits .and .i64 n ((2 ^ k-1:Nat):Int)=n%(2 ^ k:Nat):=by
 obtain⟨a,rfl⟩:=a0t b;have e:2 ^ k<=2 ^ 20:=a0N (by omega) c;rw[mh a (2 ^ k-1) (by omega) (by omega),Nat.and_two_pow_sub_one_eq_mod];omega
theorem Jy{n:Int}(a:0<=n):gOk n=dt (gY n) (gM n) (gD n) (gH n) (gI n) (gS n):=by
 cases h:inB n 0 4294967295
 . have hb:=dN.1 h;have:dt (gY n) (gM n) (gD n) (gH n) (gI n) (gS n)=false:=Lg (.inr (.inl (by unfold gY;omega)));rw[this];simp[gOk,h]
 . simp[gOk,h]
theorem qp(n:Int)(w:World)(k:(Lit.int .i64 n).wf=true) :
  Ds 101 #[.int .i64 n] w (.tuple #[stG n,.bool (gOk n)]):=by
 have hb:=bounds_i64 k;obtain⟨lo,t⟩:=hb;by_cases i:0<=n
 .
  have a1:bits .and .i64 (n/2097152) 15=gM n:=ko 4 _ (by omega) (by omega) (by omega);have a2:bits .and .i64 (n/65536) 31=gD n:=ko 5 _ (by omega) (by omega) (by omega);have a3:bits .and .i64 (n/2048) 31=gH n:=ko 5 _ (by omega) (by omega) (by omega);have a4:bits .and .i64 (n/32) 63=gI n:=ko 6 _ (by omega) (by omega) (by omega);have a5:bits .and .i64 n 31=n%32:=ko 5 _ (by omega) (by omega) (by omega);have b:=Jy i;have gy:1980+n/33554432=gY n:=by unfold gY;omega
  have gs:2*(n%32)=gS n:=rfl;cases f:dt (gY n) (gM n) (gD n) (gH n) (gI n) (gS n)
  . rw[f]at b;rw[b,Lf b];go_enter Tryz.func101,Tryz.ntmps101;go_wp2_with fail;refine(dw _ _ _ _ _ _ _).mono ?_;rintro e w2 ⟨rfl,a⟩;rw[f];have c:=((kN w 0 0 0 0 0 0 29).later ((a0c _ _).alloc (a0a _) _) (by simp)).later a (by simp;omega);obtain⟨⟨z0,z1,z2,z3,z4,z5⟩,_,_⟩:=c.store 0 0 0 0 0 0;obtain⟨⟨c0,c1,c2,c3,c4,h⟩,⟨f0,f1,f2,f3,f4,f5⟩,d⟩:=c;go_wp2;refine a0F (v:=.tuple #[.agg #[.int .i64 0,.int .i64 0,.int .i64 0,.int .i64 0,.int .i64 0,.int .i64 0],.bool false]) (by simp[results,Tryz.results101,go_sem,z0,z1,z2,z3,z4,z5]) rfl ⟨rfl,?_⟩;exact qK ((((a0c _ _).alloc (a0a _) _).alloc (by simp) _).trans (a.mono (by simp;omega))) (a0a _) _ _ _ _ _ _
  .
   rw[f]at b;rw[b,M8 b];go_enter Tryz.func101,Tryz.ntmps101;go_wp2_with fail;refine(dw _ _ _ _ _ _ _).mono ?_;rintro e w2 ⟨rfl,a⟩;rw[f];have c:=((kN w 0 0 0 0 0 0 29).later ((a0c _ _).alloc (a0a _) _) (by simp)).later a (by simp;omega);have j:=(kN (w.alloc (.cells #[.int .i64 0,.int .i64 0,.int .i64 0,.int .i64 0,.int .i64 0,.int .i64 0] 29)) (gY n) (gM n) (gD n) (gH n) (gI n) (gS n) 29).later a (by simp);have g:Six w2 (w.heap.size+1) (gY n) (gM n) (gD n) (gH n) (gI n) (gS n):=by simpa using j
   clear j;obtain⟨⟨z0,z1,z2,z3,z4,z5⟩,_,_⟩:=c.store (gY n) (gM n) (gD n) (gH n) (gI n) (gS n);obtain⟨⟨c0,c1,c2,c3,c4,h⟩,⟨f0,f1,f2,f3,f4,f5⟩,d⟩:=c;obtain⟨⟨m,o,p,q,r,s⟩,_,_⟩:=g;go_wp2;refine a0F (v:=.tuple #[.agg #[.int .i64 (gY n),.int .i64 (gM n),.int .i64 (gD n),.int .i64 (gH n),.int .i64 (gI n),.int .i64 (gS n)],.bool true]) (by simp[results,Tryz.results101,go_sem,z0,z1,z2,z3,z4,z5]) rfl ⟨rfl,?_⟩;exact qK ((((a0c _ _).alloc (a0a _) _).alloc (by simp) _).trans (a.mono (by simp;omega))) (a0a _) _ _ _ _ _ _
 .
  have b:gOk n=false:=by simp[gOk,inB,i]
  rw[b,Lf b];have l:1980+n/33554432<1980:=by omega
  go_enter Tryz.func101,Tryz.ntmps101;go_wp2_with fail;refine(dw _ _ _ _ _ _ _).mono ?_;rintro e w2 ⟨rfl,a⟩;rw[Lg (.inl l)];have c:=((kN w 0 0 0 0 0 0 29).later ((a0c _ _).alloc (a0a _) _) (by simp)).later a (by simp;omega);obtain⟨⟨z0,z1,z2,z3,z4,z5⟩,_,_⟩:=c.store 0 0 0 0 0 0;obtain⟨⟨c0,c1,c2,c3,c4,h⟩,⟨f0,f1,f2,f3,f4,f5⟩,d⟩:=c;go_wp2;refine a0F (v:=.tuple #[.agg #[.int .i64 0,.int .i64 0,.int .i64 0,.int .i64 0,.int .i64 0,.int .i64 0],.bool false]) (by simp[results,Tryz.results101,go_sem,z0,z1,z2,z3,z4,z5]) rfl ⟨rfl,?_⟩;exact qK ((((a0c _ _).alloc (a0a _) _).alloc (by simp) _).trans (a.mono (by simp;omega))) (a0a _) _ _ _ _ _ _
end Go.Proofs.YtchidddpplangaaGreatDoor
