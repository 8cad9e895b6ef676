/- Contracts of the model's texts that tokens make: tokens that lead back, over this seat's program. -/
import Derived.Test.YtkdlcomfpffhhaaGreatDoorTt1
import Derived.Test.YtkdlcomfpffhhaaGreatDoorM8
set_option linter.unusedSimpArgs false
set_option linter.unusedVariables false
set_option maxHeartbeats 3200000
namespace Go.Proofs.YtkdlcomfpffhhaaGreatDoor
open Go.RowKit
theorem rG{t:Tk}(h:t.2.1≠0):isB t=false:=by simp[isB,h]
theorem mH(base n cap:Nat)(a:Option Addr)(s:List UInt8)(t:Tk)(w:World)(T:s.length=n)(h:aK w base (.slice a n cap) s)(S:n<=100000)(hb:base<=w.heap.size)(O:t.2.1≠0) :
  Calls Tryz.prog 275 #[.slice a n cap,.agg #[.int .i64 t.1,.int .i64 t.2.1,.int .i64 t.2.2]] w fun e w'=>∃v x,e = .returned (.tuple #[v,.bool (isK t&&decide (t.2.2<=(n:Int)))])/\aK w' base v x/\((isK t&&decide (t.2.2<=(n:Int)))=true->x=rep s t.2.2.toNat t.2.1.toNat)/\Below base w w':=by
 obtain⟨i0,hi,J,K,L⟩:=a0s Tryz.infoU8;obtain⟨x,y,z⟩:=t;simp only at O ⊢;have ac:(n:Int)<=100000:=by omega
 have an:(y == 0)=false:=by simpa using O
 have D:Below base w (w.alloc (.cells #[.int .i64 x,.int .i64 y,.int .i64 z] 343)):=(a0c base w).alloc hb _;have P:aK (w.alloc (.cells #[.int .i64 x,.int .i64 y,.int .i64 z] 343)) base (.slice a n cap) s:=h.later ((a0c w.heap.size w).alloc (a0a _) _) (a0a _);have M:=af (a0b T S);have q:=af (a0b P D);clear T S h P D;by_cases U:x=0
 .
  subst U;cases B:inB y 3 60
  .
   have m:Hid ((isK (0,y,z)&&decide (z<=(n:Int)))=false):=by show _=false;simp[isK,B]
   go_enter a1n,a1o;go_wp2_with (go_at_call 58;refine(aE _ _ _ _).mono ?_;rintro e w' ⟨rfl,c⟩;rw[c,B];clear c w')
   go_ret2
   rw[ae m];exact⟨_,s,rfl,(ae q).1,(fun h=>by cases h),(ae q).2⟩
  .
   cases C:inB z 1 250
   .
    have m:Hid ((isK (0,y,z)&&decide (z<=(n:Int)))=false):=by show _=false;simp[isK,C]
    go_enter a1n,a1o;go_wp2_with fail;refine(aE _ _ _ _).mono ?_;rintro e w' ⟨rfl,c⟩;rw[c,B];clear c w';go_wp2_with fail;refine(aE _ _ _ _).mono ?_;rintro e w' ⟨rfl,c⟩;rw[c,C];clear c w';go_wp2
    go_ret2
    rw[ae m];exact⟨_,s,rfl,(ae q).1,(fun h=>by cases h),(ae q).2⟩
   .
    obtain⟨y1,y2⟩:=aG.1 B;obtain⟨z1,z2⟩:=aG.1 C;by_cases Q:z<=(n:Int)
    .
     have m:Hid ((isK (0,y,z)&&decide (z<=(n:Int)))=true):=by show _=true;simp[isK,B,C,Q]
     obtain⟨Y,rfl⟩:=a0r (show 0<=y by omega);obtain⟨Z,rfl⟩:=a0r (show 0<=z by omega);have X:decide (n<Z)=false:=a0j (by omega);go_enter a1n,a1o;go_wp2_with fail;refine(aE _ _ _ _).mono ?_;rintro e w' ⟨rfl,c⟩;rw[c,B];clear c w';go_wp2_with fail;refine(aE _ _ _ _).mono ?_;rintro e w' ⟨rfl,c⟩;rw[c,C];clear c w';go_wp2_with fail
     go_loopw [0,6] (fun v i wr=>∃k:Nat,k<=Y/\i = .int .i64 k/\aK wr base v (rep s Z k)/\wr.heap[w.heap.size]?=some (Obj.cells #[.int .i64 0,.int .i64 (Y:Int),.int .i64 (Z:Int)] 343)/\Below base w wr) (fun _ i _=>Y-(intOf i).toNat)
     case atStart=>exact⟨0,a0h _,rfl,(ae q).1,alloc_at _ _,(ae q).2⟩
     case round=>
      obtain⟨k,R,rfl,hq,f,d⟩:=hrel;obtain⟨c0,c1,c2,ab⟩:=rH f;have l:Hid ((rep s Z k).length=n+k):=by show _=_;rw[jW,(ae M).1]
      obtain⟨va,vc,rfl⟩:=hq.formN (ae l);have V:=af R;by_cases aa:k<Y
      .
       obtain⟨g,rfl⟩:=hq.somes (by rw[ae l];omega);obtain⟨p,hp⟩:∃p,n+k-Z=p:=⟨_,rfl⟩;have ad:((n:Int)+(k:Int))-(Z:Int)=(p:Int):=by omega
       obtain⟨d0,_,_⟩:=hq.at (j:=p) (ae l) (by omega);have I:Hid (rep s Z (k+1)=rep s Z k++[(rep s Z k).getD p 0]):=by
        show _=_;simp only[rep];rw[ae l,hp]
       have E:=a0G hb d.size;have N:Hid (n+k+1<=maxLen/\(n+k+1)*1<=140737488355328):=by show _/\_;have:=(ae M).2;unfold maxLen;omega
       have al:(p:Int)<(n:Int)+(k:Int):=by omega
       have W:=af (a0b hq (a0b f d));have A:=af (hq.own (ae l));clear hq f d R hp;generalize (rep s Z k).getD p 0=b at *
       go_wp2_with (at_builtin;refine a0v _ rfl _ _ 22 rfl base 5 i0 (.int .u8 0) 1 1 a0S hi J K L rfl (by decide) _ _ _ rfl (a0k (ae A) _) ⟨wr.heap.size,0,none⟩ 1 1 [.int .u8 (b.toNat:Int)] rfl rfl (bo _ _ rfl _ _) (one_byte _) (ae N).1 (ae N).2 (av E _) ?_;intro v' x2 r o F;clear F);obtain⟨hq,f,d⟩:=ae W;have H:=aI (v:=.slice (some ⟨g,0,none⟩) (n+k) vc) o (ae A) (a0a _) E d;have G:=bO (ae l) r;rw[←ae I]at G;have u:=((cf.refl 343 wr).alloc (.cells #[.int .u8 (b.toNat:Int)] 5)).grown (a0k (ae A) _) (by decide) o _ _ _ f;clear r o hq f d;go_wp2;go_roundw
       case rel=>exact⟨k+1,by have:=ae V;omega,by go_num,G,u,H⟩
       case measure=>simp[intOf];omega
      .
       obtain rfl:k=Y:=by omega
       go_wp2
       go_ret2
       rw[ae m];exact⟨_,_,rfl,hq,(fun _=>by simp),d⟩
    .
     have m:Hid ((isK (0,y,z)&&decide (z<=(n:Int)))=false):=by show _=false;simp[Q]
     go_enter a1n,a1o;go_wp2_with fail;refine(aE _ _ _ _).mono ?_;rintro e w' ⟨rfl,c⟩;rw[c,B];clear c w';go_wp2_with fail;refine(aE _ _ _ _).mono ?_;rintro e w' ⟨rfl,c⟩;rw[c,C];clear c w';go_wp2
     go_ret2
     rw[ae m];exact⟨_,s,rfl,(ae q).1,(fun h=>by cases h),(ae q).2⟩
 .
  have m:Hid ((isK (x,y,z)&&decide (z<=(n:Int)))=false):=by show _=false;simp[isK,U]
  go_enter a1n,a1o;go_wp2
  go_ret2
  rw[ae m];exact⟨_,s,rfl,(ae q).1,(fun h=>by cases h),(ae q).2⟩
theorem l4Add_any(base n cap:Nat)(a:Option Addr)(s:List UInt8)(t:Tk)(w:World)(i:s.length=n)(h:aK w base (.slice a n cap) s)(j:n<=100000)(hb:base<=w.heap.size) :
  Calls Tryz.prog 275 #[.slice a n cap,.agg #[.int .i64 t.1,.int .i64 t.2.1,.int .i64 t.2.2]] w fun e w'=>∃v x,e = .returned (.tuple #[v,.bool (fQ s t).isSome])/\aK w' base v x/\((fQ s t).isSome=true->fQ s t=some x)/\Below base w w':=by
 by_cases g:t.2.1=0
 .
  have k:isK t=false:=by
   have:inB t.2.1 3 60=false:=dK.2 (by omega);simp[isK,this]
  have e:fQ s t=if isB t then some (s++[cU t.1])else none:=by unfold fQ;rw[k];rfl
  refine(mJ base n cap a s t w i h j hb g).mono ?_;rintro e1 w' ⟨v,x,rfl,f,c,b⟩;cases d:isB t
  . rw[d]at e c;exact⟨v,x,by rw[e];rfl,f,(fun h=>by rw[e]at h;cases h),b⟩
  . rw[d]at e c;exact⟨v,x,by rw[e];rfl,f,(fun _=>by rw[e,c rfl];rfl),b⟩
 .
  have e:fQ s t=if isK t&&decide (t.2.2<=(n:Int))then some (rep s t.2.2.toNat t.2.1.toNat)else none:=by unfold fQ;rw[rG g,i];rfl
  refine(mH base n cap a s t w i h j hb g).mono ?_;rintro e1 w' ⟨v,x,rfl,f,c,b⟩;cases d:isK t&&decide (t.2.2<=(n:Int))
  . rw[d]at e c;exact⟨v,x,by rw[e];rfl,f,(fun h=>by rw[e]at h;cases h),b⟩
  . rw[d]at e c;exact⟨v,x,by rw[e];rfl,f,(fun _=>by rw[e,c rfl];rfl),b⟩
end Go.Proofs.YtkdlcomfpffhhaaGreatDoor
