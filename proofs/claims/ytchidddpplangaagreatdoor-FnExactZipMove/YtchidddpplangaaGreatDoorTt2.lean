/- Contracts of the model's texts that tokens make: tokens that lead back, over this seat's program. -/
import Derived.Test.YtchidddpplangaaGreatDoorTt1
import Derived.Test.YtchidddpplangaaGreatDoorM9
set_option linter.unusedSimpArgs false
set_option linter.unusedVariables false
set_option maxHeartbeats 3200000
namespace Go.Proofs.YtchidddpplangaaGreatDoor
open Go.RowKit
theorem tH{t:Tk}(h:t.2.1≠0):isB t=false:=by simp[isB,h]
theorem od(base n cap:Nat)(a:Option Addr)(s:List UInt8)(t:Tk)(w:World)(T:s.length=n)(h:aQ w base (.slice a n cap) s)(S:n<=100000)(hb:base<=w.heap.size)(O:t.2.1≠0) :
  Calls Tryz.prog 224 #[.slice a n cap,.agg #[.int .i64 t.1,.int .i64 t.2.1,.int .i64 t.2.2]] w fun e w'=>∃v x,e = .returned (.tuple #[v,.bool (isK t&&decide (t.2.2<=(n:Int)))])/\aQ w' base v x/\((isK t&&decide (t.2.2<=(n:Int)))=true->x=rep s t.2.2.toNat t.2.1.toNat)/\Below base w w':=by
 obtain⟨i0,hi,J,K,L⟩:=a0o Tryz.infoU8;obtain⟨x,y,z⟩:=t;simp only at O ⊢;have ad:(n:Int)<=100000:=by omega
 have a0:(y == 0)=false:=by simpa using O
 have D:Below base w (w.alloc (.cells #[.int .i64 x,.int .i64 y,.int .i64 z] 229)):=(a0c base w).alloc hb _;have P:aQ (w.alloc (.cells #[.int .i64 x,.int .i64 y,.int .i64 z] 229)) base (.slice a n cap) s:=h.later ((a0c w.heap.size w).alloc (a0a _) _) (a0a _);have M:=ae (a0b T S);have q:=ae (a0b P D);clear T S h P D;by_cases U:x=0
 .
  subst U;cases B:inB y 3 60
  .
   have m:Hid ((isK (0,y,z)&&decide (z<=(n:Int)))=false):=by show _=false;simp[isK,B]
   go_enter a1e,a1f;go_wp2_with (go_at_call 24;refine(aG _ _ _ _).mono ?_;rintro e w' ⟨rfl,c⟩;rw[c,B];clear c w')
   go_ret2
   rw[ab m];exact⟨_,s,rfl,(ab q).1,(fun h=>by cases h),(ab q).2⟩
  .
   cases C:inB z 1 250
   .
    have m:Hid ((isK (0,y,z)&&decide (z<=(n:Int)))=false):=by show _=false;simp[isK,C]
    go_enter a1e,a1f;go_wp2_with fail;refine(aG _ _ _ _).mono ?_;rintro e w' ⟨rfl,c⟩;rw[c,B];clear c w';go_wp2_with fail;refine(aG _ _ _ _).mono ?_;rintro e w' ⟨rfl,c⟩;rw[c,C];clear c w';go_wp2
    go_ret2
    rw[ab m];exact⟨_,s,rfl,(ab q).1,(fun h=>by cases h),(ab q).2⟩
   .
    obtain⟨y1,y2⟩:=aB.1 B;obtain⟨z1,z2⟩:=aB.1 C;by_cases Q:z<=(n:Int)
    .
     have m:Hid ((isK (0,y,z)&&decide (z<=(n:Int)))=true):=by show _=true;simp[isK,B,C,Q]
     obtain⟨Y,rfl⟩:=a0t (show 0<=y by omega);obtain⟨Z,rfl⟩:=a0t (show 0<=z by omega);have X:decide (n<Z)=false:=a0h (by omega);go_enter a1e,a1f;go_wp2_with fail;refine(aG _ _ _ _).mono ?_;rintro e w' ⟨rfl,c⟩;rw[c,B];clear c w';go_wp2_with fail;refine(aG _ _ _ _).mono ?_;rintro e w' ⟨rfl,c⟩;rw[c,C];clear c w';go_wp2_with fail
     go_loopw [0,6] (fun v i wr=>∃k:Nat,k<=Y/\i = .int .i64 k/\aQ wr base v (rep s Z k)/\wr.heap[w.heap.size]?=some (Obj.cells #[.int .i64 0,.int .i64 (Y:Int),.int .i64 (Z:Int)] 229)/\Below base w wr) (fun _ i _=>Y-(intOf i).toNat)
     case atStart=>exact⟨0,a0g _,rfl,(ab q).1,alloc_at _ _,(ab q).2⟩
     case round=>
      obtain⟨k,R,rfl,hq,f,d⟩:=hrel;obtain⟨c0,c1,c2,ac⟩:=oZ f;have l:Hid ((rep s Z k).length=n+k):=by show _=_;rw[lx,(ab M).1]
      obtain⟨va,vc,rfl⟩:=hq.formN (ab l);have V:=ae R;by_cases aa:k<Y
      .
       obtain⟨g,rfl⟩:=hq.somes (by rw[ab l];omega);obtain⟨p,hp⟩:∃p,n+k-Z=p:=⟨_,rfl⟩;have al:((n:Int)+(k:Int))-(Z:Int)=(p:Int):=by omega
       obtain⟨d0,_,_⟩:=hq.at (j:=p) (ab l) (by omega);have I:Hid (rep s Z (k+1)=rep s Z k++[(rep s Z k).getD p 0]):=by
        show _=_;simp only[rep];rw[ab l,hp]
       have E:=a0E hb d.size;have N:Hid (n+k+1<=maxLen/\(n+k+1)*1<=140737488355328):=by show _/\_;have:=(ab M).2;unfold maxLen;omega
       have an:(p:Int)<(n:Int)+(k:Int):=by omega
       have W:=ae (a0b hq (a0b f d));have A:=ae (hq.own (ab l));clear hq f d R hp;generalize (rep s Z k).getD p 0=b at *
       go_wp2_with (at_builtin;refine a0r _ rfl _ _ 103 rfl base 5 i0 (.int .u8 0) 1 1 a0Q hi J K L rfl (by decide) _ _ _ rfl (a0k (ab A) _) ⟨wr.heap.size,0,none⟩ 1 1 [.int .u8 (b.toNat:Int)] rfl rfl (bE _ _ rfl _ _) (one_byte _) (ab N).1 (ab N).2 (ao E _) ?_;intro v' x2 r o F;clear F);obtain⟨hq,f,d⟩:=ab W;have H:=aC (v:=.slice (some ⟨g,0,none⟩) (n+k) vc) o (ab A) (a0a _) E d;have G:=cq (ab l) r;rw[←ab I]at G;have u:=((bm.refl 229 wr).alloc (.cells #[.int .u8 (b.toNat:Int)] 5)).grown (a0k (ab A) _) (by decide) o _ _ _ f;clear r o hq f d;go_wp2;go_roundw
       case rel=>exact⟨k+1,by have:=ab V;omega,by go_num,G,u,H⟩
       case measure=>simp[intOf];omega
      .
       obtain rfl:k=Y:=by omega
       go_wp2
       go_ret2
       rw[ab m];exact⟨_,_,rfl,hq,(fun _=>by simp),d⟩
    .
     have m:Hid ((isK (0,y,z)&&decide (z<=(n:Int)))=false):=by show _=false;simp[Q]
     go_enter a1e,a1f;go_wp2_with fail;refine(aG _ _ _ _).mono ?_;rintro e w' ⟨rfl,c⟩;rw[c,B];clear c w';go_wp2_with fail;refine(aG _ _ _ _).mono ?_;rintro e w' ⟨rfl,c⟩;rw[c,C];clear c w';go_wp2
     go_ret2
     rw[ab m];exact⟨_,s,rfl,(ab q).1,(fun h=>by cases h),(ab q).2⟩
 .
  have m:Hid ((isK (x,y,z)&&decide (z<=(n:Int)))=false):=by show _=false;simp[isK,U]
  go_enter a1e,a1f;go_wp2
  go_ret2
  rw[ab m];exact⟨_,s,rfl,(ab q).1,(fun h=>by cases h),(ab q).2⟩
theorem l4Add_any(base n cap:Nat)(a:Option Addr)(s:List UInt8)(t:Tk)(w:World)(i:s.length=n)(h:aQ w base (.slice a n cap) s)(j:n<=100000)(hb:base<=w.heap.size) :
  Calls Tryz.prog 224 #[.slice a n cap,.agg #[.int .i64 t.1,.int .i64 t.2.1,.int .i64 t.2.2]] w fun e w'=>∃v x,e = .returned (.tuple #[v,.bool (gJ s t).isSome])/\aQ w' base v x/\((gJ s t).isSome=true->gJ s t=some x)/\Below base w w':=by
 by_cases g:t.2.1=0
 .
  have k:isK t=false:=by
   have:inB t.2.1 3 60=false:=dN.2 (by omega);simp[isK,this]
  have e:gJ s t=if isB t then some (s++[dz t.1])else none:=by unfold gJ;rw[k];rfl
  refine(oe base n cap a s t w i h j hb g).mono ?_;rintro e1 w' ⟨v,x,rfl,f,c,b⟩;cases d:isB t
  . rw[d]at e c;exact⟨v,x,by rw[e];rfl,f,(fun h=>by rw[e]at h;cases h),b⟩
  . rw[d]at e c;exact⟨v,x,by rw[e];rfl,f,(fun _=>by rw[e,c rfl];rfl),b⟩
 .
  have e:gJ s t=if isK t&&decide (t.2.2<=(n:Int))then some (rep s t.2.2.toNat t.2.1.toNat)else none:=by unfold gJ;rw[tH g,i];rfl
  refine(od base n cap a s t w i h j hb g).mono ?_;rintro e1 w' ⟨v,x,rfl,f,c,b⟩;cases d:isK t&&decide (t.2.2<=(n:Int))
  . rw[d]at e c;exact⟨v,x,by rw[e];rfl,f,(fun h=>by rw[e]at h;cases h),b⟩
  . rw[d]at e c;exact⟨v,x,by rw[e];rfl,f,(fun _=>by rw[e,c rfl];rfl),b⟩
end Go.Proofs.YtchidddpplangaaGreatDoor
