/- Contracts of the model's tokens of a text, over this seat's program. -/
import Derived.Test.YtchidddpplangaaGreatDoorTo1
import Derived.Test.YtchidddpplangaaGreatDoorM11
import Derived.Test.YtchidddpplangaaGreatDoorM7
set_option maxRecDepth 100000
set_option linter.unusedSimpArgs false
set_option linter.unusedVariables false
set_option maxHeartbeats 6400000
namespace Go.Proofs.YtchidddpplangaaGreatDoor
open Go.Proofs.Tryz
open Go.RowKit
theorem vD{L:List UInt8}{p k:Nat}(h:(br L p k).1<agN L p (k+1)):br L p (k+1)=(agN L p (k+1),k+1):=by simp only[br];rw[a0e h]
theorem yS{L:List UInt8}{p k:Nat}(h:¬ (br L p k).1<agN L p (k+1)):br L p (k+1)=br L p k:=by simp only[br];rw[a0d h]
theorem pd(s:ByteArray)(w:World)(hs:s.size<=100000) :
  Calls prog 122 #[.string s] w fun e w'=>∃v,e = .returned v/\dY w' w.heap.size v (bJ s.data.toList 0)/\Below w.heap.size w w':=by
 obtain⟨i0,hi,V,W,X⟩:=a0o Tryz.infoTok;have an:(s.size:Int)<=100000:=by omega
 have HS:=ae hs;have M:=ae (jX s);have R:dY (w.alloc (.cells #[] 229)) w.heap.size (.slice (some ⟨w.heap.size,0,none⟩) 0 0) []:=dY.lit _ _ (a0a _);have N:Below w.heap.size w (w.alloc (.cells #[] 229)):=(a0c _ _).alloc (a0a _) _;clear hs;go_enter func122,ntmps122;go_wp2_with fail
 go_loopw [3,4,5,6,7,8] (fun v i _ _ _ _ wr=>∃(p:Nat) (D:List Tk),p<=s.size/\i = .int .i64 p/\dY wr w.heap.size v D/\D++bJ s.data.toList p=bJ s.data.toList 0/\D.length<=p/\Below w.heap.size w wr) (fun _ i _ _ _ _ _=>s.size-(intOf i).toNat)
 case atStart=>exact⟨0,[],a0g _,rfl,R,rfl,a0a _,N⟩
 case round=>
  obtain⟨p,D,Z,rfl,hq,t,u,j⟩:=hrel;clear R N;obtain⟨va,vc,rfl⟩:=hq.form;by_cases z:p<s.size
  .
   have S:(p:Int)<(s.size:Int):=by omega
   have J:=ae (a0b hq (a0b t (a0b u (a0b j Z))));clear hq t u j Z;go_wp2_with fail
   go_loopw [5,6,7,8] (fun lo fa ba _ wq=>∃k:Nat,k<=min p 250/\ba = .int .i64 ((k:Int)+1)/\lo = .int .i64 ((br s.data.toList p k).1:Nat)/\fa = .int .i64 ((br s.data.toList p k).2:Nat)/\Below wr.heap.size wr wq) (fun _ _ ba _ _=>252-(intOf ba).toNat)
   case atStart=>exact⟨0,a0g _,rfl,rfl,rfl,a0c _ _⟩
   case round=>
    obtain⟨k,hk,rfl,rfl,rfl,x⟩:=hrel;have P:=(lT s.data.toList p k).1;have HK:=ae hk;have O:((br s.data.toList p k).1:Int)<=60:=by omega
    obtain⟨b,hb⟩:∃b:Nat,k+1=b:=⟨_,rfl⟩;have al:(k:Int)+1=(b:Int):=by omega
    have r:=ae hb;rcases (by omega:((b:Int)<=250/\(b:Int)<=(p:Int))∨((b:Int)<=250/\¬ (b:Int)<=(p:Int))∨¬ (b:Int)<=250)with⟨E,aa⟩|⟨E,aa⟩|E
    .
     have HA:=ae (zV s p b wr (by have:=ab HS;omega) (by omega) (by omega) (by omega));have d:=ae (fun h=>vD (L:=s.data.toList) (p:=p) (k:=k) h);have m:=ae (fun h=>yS (L:=s.data.toList) (p:=p) (k:=k) h);rw[hb]at d m;clear hk P hb;generalize br s.data.toList p k=B at *
     obtain⟨g,B2⟩:=B;simp only at O d m ⊢;generalize agN s.data.toList p b=A at *
     by_cases f:g<A
     .
      have I:(g:Int)<(A:Int):=by omega
      have e1:=ae (ab d f);clear d m f;go_wp2_with fail;refine(ab HA).mono ?_;rintro e x1 ⟨rfl,G⟩;go_wp2;go_roundw
      case rel=>exact⟨k+1,by have:=ab r;omega,by have:=ab r;go_num,by have:=ab r;rw[this,ab e1],by have:=ab r;rw[this,ab e1],ai x G⟩
      case measure=>simp[intOf];omega
     .
      have I:¬ (g:Int)<(A:Int):=by omega
      have e1:=ae (ab m f);clear d m f;go_wp2_with fail;refine(ab HA).mono ?_;rintro e x1 ⟨rfl,G⟩;go_wp2;go_roundw
      case rel=>exact⟨k+1,by have:=ab r;omega,by have:=ab r;go_num,by have:=ab r;rw[this,ab e1],by have:=ab r;rw[this,ab e1],ai x G⟩
      case measure=>simp[intOf];omega
    all_goals
     have Q:Hid (k=min p 250):=by show k=min p 250;have:=ab HK;have:=ab r;omega
     have U:=ae (lC (L:=s.data.toList) (p:=p) (by rw[ab M];exact z));have T:=ae (Fp (L:=s.data.toList) (p:=p) (by rw[ab M];exact z));have q:Hid (gK s.data.toList p=if (br s.data.toList p k).1<3 then(((s.data.toList.getD p 0).toNat:Int),0,0)else(0,((br s.data.toList p k).1:Int),((br s.data.toList p k).2:Int))):=by show _=_;unfold gK;rw[ab Q]
     have o:Hid (kb s.data.toList p=if (br s.data.toList p k).1<3 then 1 else(br s.data.toList p k).1):=by show _=_;unfold kb;rw[ab Q]
     have ac:=ae (yz s p z);have ad:(s[p].toNat:Int)<256:=by have:=a2I s[p];omega
     have C:=ae ((ab J).1.later x (a0a _));have F:=ae (ai (ab J).2.2.2.1 x);have y:=(ab F).size;have Y:Hid (D.length+1<=maxLen/\(D.length+1)*24<=140737488355328):=by show _/\_;have:=(ab J).2.2.1;have:=ab HS;unfold maxLen;omega
     clear hk P hb;generalize br s.data.toList p k=B at *
     obtain⟨g,B2⟩:=B;simp only at O q o ⊢;by_cases f:g<3
     .
      have I:(g:Int)<3:=by omega
      have e1:Hid (gK s.data.toList p=((s[p].toNat:Int),0,0)):=by show _=_;rw[ab q,a0e f,ab ac]
      have e2:Hid (kb s.data.toList p=1):=by show _=_;rw[ab o,a0e f]
      clear f q o;go_wp2_with (at_builtin;refine a0r _ rfl _ _ 176 rfl w.heap.size 229 i0 (.agg #[.int .i64 0,.int .i64 0,.int .i64 0]) 3 24 underlying176 hi V W X rfl (by decide) _ _ _ rfl (a0k (ab C) _) ⟨wr.heap.size,0,none⟩ 1 1 [.int .i64 (s[p].toNat:Int),.int .i64 0,.int .i64 0] rfl rfl (JR _ _ _ _ _ _ rfl) (JS _ _ _) (ab Y).1 (ab Y).2 (ao y _) ?_;intro v' x2 c a l;clear l);have H:=aC (v:=.slice va D.length vc) a (ab C) (a0a _) y (ab F);have n:=we rfl c;rw[←ab e1]at n;clear c a;go_wp2;go_roundw
      case rel=>
       obtain⟨_,t,u,_,Z⟩:=ab J;have K:=ab T;have h2:=ab e2;rw[h2,ab M]at K;refine⟨p+1,D++[gK s.data.toList p],K,by go_num,n,?_,by rw[a0j,a1o];omega,H⟩;rw[←t,ab U,h2,a0L];rfl
      case measure=>simp[intOf];omega
     .
      have I:¬ (g:Int)<3:=by omega
      have e1:Hid (gK s.data.toList p=(0,(g:Int),(B2:Int))):=by show _=_;rw[ab q,a0d f]
      have e2:Hid (kb s.data.toList p=g):=by show _=_;rw[ab o,a0d f]
      have Hc:=ae f;clear f q o;go_wp2_with (at_builtin;refine a0r _ rfl _ _ 176 rfl w.heap.size 229 i0 (.agg #[.int .i64 0,.int .i64 0,.int .i64 0]) 3 24 underlying176 hi V W X rfl (by decide) _ _ _ rfl (a0k (ab C) _) ⟨wr.heap.size,0,none⟩ 1 1 [.int .i64 0,.int .i64 (g:Int),.int .i64 (B2:Int)] rfl rfl (JR _ _ _ _ _ _ rfl) (JS _ _ _) (ab Y).1 (ab Y).2 (ao y _) ?_;intro v' x2 c a l;clear l);have H:=aC (v:=.slice va D.length vc) a (ab C) (a0a _) y (ab F);have n:=we rfl c;rw[←ab e1]at n;clear c a;go_wp2;go_roundw
      case rel=>
       obtain⟨_,t,u,_,Z⟩:=ab J;have K:=ab T;have h2:=ab e2;have h3:=ab Hc;rw[h2,ab M]at K;refine⟨p+g,D++[gK s.data.toList p],K,by go_num,n,?_,by rw[a0j,a1o];omega,H⟩;rw[←t,ab U,h2,a0L];rfl
      case measure=>have h3:=ab Hc;simp[intOf];omega
  .
   have S:¬ (p:Int)<(s.size:Int):=by omega
   have e0:bJ s.data.toList p=[]:=jl (by rw[ab M];exact z);rw[e0,a1c]at t;have HD:=ae t;clear t e0;go_wp2;go_ret;exact⟨_,rfl,by rw[←ab HD];exact hq,j⟩
end Go.Proofs.YtchidddpplangaaGreatDoor
