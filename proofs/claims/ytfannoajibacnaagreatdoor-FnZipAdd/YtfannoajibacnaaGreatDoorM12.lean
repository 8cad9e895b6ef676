/- Texts. -/
import Derived.Test.YtfannoajibacnaaGreatDoorTo1
set_option linter.all false
set_option maxRecDepth 100000
set_option maxHeartbeats 6400000
namespace Go.Proofs.YtfannoajibacnaaGreatDoor
open Go.Proofs.Tryz
open Go.RowKit
variable {L:List UInt8}{p:Nat}
def yS{k:Nat}(h:(bm L p k).1<agN L p (k+1)):bm L p (k+1)=(agN L p (k+1),k+1):=by simp only[bm];rw[a0d h]
def Cs{k:Nat}(h:¬ (bm L p k).1<agN L p (k+1)):bm L p (k+1)=bm L p k:=by simp only[bm];rw[a0e h]
def rt(s:ByteArray)(w:World)(hs:s.size<=100000) :
  Calls prog 200 #[s] w fun e w'=>∃v,e = .returned v/\lU w' w.heap.size v (bq s.data.toList 0)/\Below w.heap.size w w':=by
 obtain⟨i0,hi,V,W,X⟩:=a0p Tryz.infoTok;have al:(s.size:Int)<=100000:=by omega
 have HS:=af hs;have M:=af (kv s);have R:lU (w.alloc (.cells #[] 309)) w.heap.size (.slice w.heap.size 0 0) []:=lU.lit _ _ (a0a _);have N:Below w.heap.size w (w.alloc (.cells #[] 309)):=cC;clear hs;go_enter func200,ntmps200;go_wp2_with fail
 go_loopw [3,4,5,6,7,8] (fun v i _ _ _ _ wr=>∃(p:Nat) (D:List Tk),p<=s.size/\i = .int .i64 p/\lU wr w.heap.size v D/\D++bq s.data.toList p=bq s.data.toList 0/\D.length<=p/\Below w.heap.size w wr) (fun _ i _ _ _ _ _=>s.size-(intOf i).toNat)
 case atStart=>exact⟨0,[],a0g _,rfl,R,rfl,a0a _,N⟩
 case round=>
  obtain⟨p,D,Z,rfl,hq,t,u,j⟩:=hrel;clear R N;obtain⟨va,vc,rfl⟩:=hq.form;by_cases z:p<s.size
  .
   have S:(p:Int)<(s.size:Int):=(by omega);have J:=af (a0b hq (a0b t (a0b u (a0b j Z))));clear hq t u j Z;go_wp2_with fail
   go_loopw [5,6,7,8] (fun lo fa ba _ wq=>∃k:Nat,k<=min p 250/\ba = .int .i64 ((k:Int)+1)/\lo = .int .i64 ((bm s.data.toList p k).1:Nat)/\fa = .int .i64 ((bm s.data.toList p k).2:Nat)/\Below wr.heap.size wr wq) (fun _ _ ba _ _=>252-(intOf ba).toNat)
   case atStart=>exact⟨0,a0g _,rfl,rfl,rfl,a0c _ _⟩
   case round=>
    obtain⟨k,hk,rfl,rfl,rfl,x⟩:=hrel;have P:=(lZ s.data.toList p k).1;have HK:=af hk;have O:((bm s.data.toList p k).1:Int)<=60:=(by omega);obtain⟨b,hb⟩:∃b:Nat,k+1=b:=⟨_,rfl⟩;have ad:(k:Int)+1=(b:Int):=(by omega);have r:=af hb;rcases (by omega:((b:Int)<=250/\(b:Int)<=(p:Int))∨((b:Int)<=250/\¬ (b:Int)<=(p:Int))∨¬ (b:Int)<=250)with⟨E,aa⟩|⟨E,aa⟩|E
    .
     have HA:=af (D6 s p b wr (by have:=ae HS;omega) (by omega) (by omega) (by omega));have d:=af (fun h=>yS (L:=s.data.toList) (p:=p) (k:=k) h);have m:=af (fun h=>Cs (L:=s.data.toList) (p:=p) (k:=k) h);rw[hb]at d m;clear hk P hb;generalize bm s.data.toList p k=B at *;obtain⟨g,B2⟩:=B;simp only at O d m ⊢;generalize agN s.data.toList p b=A at *;by_cases f:g<A
     .
      have I:(g:Int)<(A:Int):=(by omega);have e1:=af (ae d f);clear d m f;go_wp2_with fail;apply HA.mono;rintro e x1⟨rfl,G⟩;go_wp2;go_roundw
      case rel=>exact⟨k+1,by have:=ae r;omega,by have:=ae r;go_num,by have:=ae r;rw[this,ae e1],by have:=ae r;rw[this,ae e1],aj x G⟩
      case measure=>simp[intOf];omega
     .
      have I:¬ (g:Int)<(A:Int):=(by omega);have e1:=af (ae m f);clear d m f;go_wp2_with fail;apply HA.mono;rintro e x1⟨rfl,G⟩;go_wp2;go_roundw
      case rel=>exact⟨k+1,by have:=ae r;omega,by have:=ae r;go_num,by have:=ae r;rw[this,ae e1],by have:=ae r;rw[this,ae e1],aj x G⟩
      case measure=>simp[intOf];omega
    all_goals
     have Q:Hid (k=min p 250):=by show k=min p 250;have:=ae HK;have:=ae r;omega
     have U:=af (jp (L:=s.data.toList) (p:=p) (by rw[ae M];exact z));have T:=af (rR (L:=s.data.toList) (p:=p) (by rw[ae M];exact z));have q:Hid (gq s.data.toList p=if (bm s.data.toList p k).1<3 then(((s.data.toList.getD p 0).toNat:Int),0,0)else(0,((bm s.data.toList p k).1:Int),((bm s.data.toList p k).2:Int))):=by show _=_;unfold gq;rw[ae Q]
     have o:Hid (jH s.data.toList p=if (bm s.data.toList p k).1<3 then 1 else(bm s.data.toList p k).1):=by show _=_;unfold jH;rw[ae Q]
     have ab:=af (BU s p z);have ac:(s[p].toNat:Int)<256:=by have:=a2v s[p];omega
     have C:=af (J.1.later x (a0a _));have F:=af (aj J.2.2.2.1 x);have y:=F.size;have Y:Hid (D.length+1<=maxLen/\(D.length+1)*24<=140737488355328):=by show _/\_;have:=J.2.2.1;have:=ae HS;unfold maxLen;omega
     clear hk P hb;generalize bm s.data.toList p k=B at *;obtain⟨g,B2⟩:=B;simp only at O q o ⊢;by_cases f:g<3
     .
      have I:(g:Int)<3:=(by omega);have e1:Hid (gq s.data.toList p=((s[p].toNat:Int),0,0)):=by show _=_;rw[ae q,a0d f,ae ab]
      have e2:Hid (jH s.data.toList p=1):=by show _=_;rw[ae o,a0d f]
      clear f q o;go_wp2_with (at_builtin;refine a0w _ rfl _ _ 280 rfl w.heap.size 309 i0 (.agg #[.int .i64 0,.int .i64 0,.int .i64 0]) 3 24 underlying280 hi V W X rfl (by decide) _ _ _ rfl (a0o C _) ⟨wr.heap.size,0,none⟩ 1 1 [.int .i64 (s[p].toNat:Int),.int .i64 0,.int .i64 0] rfl rfl (OC _ _ _ _ _ _ rfl) (OD _ _ _) Y.1 Y.2 (ar y _) ?_;intro v' x2 c a l;clear l);have H:=aH (v:=.slice va D.length vc) a C (a0a _) y F;have n:=zo rfl c;rw[←ae e1]at n;clear c a;go_wp2;go_roundw
      case rel=>
       obtain⟨_,t,u,_,Z⟩:=ae J;have K:=ae T;have h2:=ae e2;rw[h2,ae M]at K;refine⟨p+1,D++[gq s.data.toList p],K,by go_num,n,?_,by rw[a0i,a1l];omega,H⟩;rw[←t,ae U,h2,a0I];rfl
      case measure=>simp[intOf];omega
     .
      have I:¬ (g:Int)<3:=(by omega);have e1:Hid (gq s.data.toList p=(0,(g:Int),(B2:Int))):=by show _=_;rw[ae q,a0e f]
      have e2:Hid (jH s.data.toList p=g):=by show _=_;rw[ae o,a0e f]
      have Hc:=af f;clear f q o;go_wp2_with (at_builtin;refine a0w _ rfl _ _ 280 rfl w.heap.size 309 i0 (.agg #[.int .i64 0,.int .i64 0,.int .i64 0]) 3 24 underlying280 hi V W X rfl (by decide) _ _ _ rfl (a0o C _) ⟨wr.heap.size,0,none⟩ 1 1 [.int .i64 0,.int .i64 (g:Int),.int .i64 (B2:Int)] rfl rfl (OC _ _ _ _ _ _ rfl) (OD _ _ _) Y.1 Y.2 (ar y _) ?_;intro v' x2 c a l;clear l);have H:=aH (v:=.slice va D.length vc) a C (a0a _) y F;have n:=zo rfl c;rw[←ae e1]at n;clear c a;go_wp2;go_roundw
      case rel=>
       obtain⟨_,t,u,_,Z⟩:=ae J;have K:=ae T;have h2:=ae e2;have h3:=ae Hc;rw[h2,ae M]at K;refine⟨p+g,D++[gq s.data.toList p],K,by go_num,n,?_,by rw[a0i,a1l];omega,H⟩;rw[←t,ae U,h2,a0I];rfl
      case measure=>have h3:=ae Hc;simp[intOf];omega
  .
   have S:¬ (p:Int)<(s.size:Int):=(by omega);have e0:bq s.data.toList p=[]:=fu (by rw[ae M];exact z);rw[e0,a05]at t;have HD:=af t;clear t e0;go_wp2;go_ret;exact⟨_,rfl,by rw[←ae HD];exact hq,j⟩
def P5(L:List UInt8)(p b:Nat)(hb:1<=b)(c:b<=p):∀n,p+n<=L.length->(∀i,i<n->L.getD (p+i) 0=L.getD (p+i-b) 0)->rep (L.take p) b n=L.take (p+n):=by
 intro n;induction n with
 | zero=>intro _ _;rfl
 | succ n ih=>
  intro h a;have e:=ih (by omega) (fun i h2=>a i (by omega));simp only[rep];rw[e,a0u,show min (p+n) L.length=p+n by omega];have e2:(L.take (p+n)).getD (p+n-b) 0=L.getD (p+n) 0:=by
   rw[a n (by omega)];simp only[List.getD_eq_getElem?_getD];rw[List.getElem?_take,a0d (by omega)]
  rw[e2,←a2a,List.take_add_one]
  congr 1
  rw[List.getD_eq_getElem?_getD,List.getElem?_eq_getElem (by omega)];rfl
def Cx(b:UInt8):gt (b.toNat:Int)=b:=by
 unfold gt;simp
def JU(h:p<L.length)(t:L.length<=300):fX (L.take p) (gq L p)=some (L.take (p+jH L p)):=by
 obtain⟨r,h2,l,s⟩:=lZ L p (min p 250);have f:=rR h;have a:(L.take p).length=p:=by rw[a0u];omega
 unfold gq;unfold jH at f ⊢;by_cases g:(bm L p (min p 250)).1<3
 .
  rw[a0d g,a0d g];have v:=a2v (L.getD p 0);have d:isB (((L.getD p 0).toNat:Int),0,0)=true:=by
   generalize L.getD p 0=c at *;simp only[isB,inB];simp;omega
  rw[qK (by unfold okT;rw[d];rfl) (fun k=>by rw[D2 d]at k;cases k) (by unfold yK;rw[d,a];simp only[a0Y];omega),d];simp only[a0Y];rw[Cx,List.take_add_one,List.getD_eq_getElem?_getD,List.getElem?_eq_getElem h];rfl
 .
  rw[a0e g]at f ⊢;rw[a0e g];obtain⟨m,o⟩:=l (by omega);generalize u:(bm L p (min p 250)).1=n,hb:(bm L p (min p 250)).2=b at *;have j:isK ((0:Int),(n:Int),(b:Int))=true:=by simp only[isK,inB];simp;omega
  have d:isB ((0:Int),(n:Int),(b:Int))=false:=by
   cases e:isB ((0:Int),(n:Int),(b:Int))
   . rfl
   . rw[D2 e]at j;cases j
  rw[qK (by unfold okT;rw[d,j];rfl) (fun _=>by rw[a];simp only;omega) (by unfold yK;rw[d,a];simp;omega),d];simp only[a07,a08,a0n];rw[P5 L p b m (by omega) n f (fun i q=>Tw L p b i (by rw[←o];exact q))]
