/- Of what the proof is made: 2 texts, one behind the other. -/
import Derived.Test.YtkdlcomfpffhhaaGreatDoorEd5
import Derived.Test.YtkdlcomfpffhhaaGreatDoorM43
import Derived.Test.YtkdlcomfpffhhaaGreatDoorM26
import Derived.Test.YtkdlcomfpffhhaaGreatDoorM46
import Derived.Test.YtkdlcomfpffhhaaGreatDoorM41
import Derived.Test.YtkdlcomfpffhhaaGreatDoorM37
import Derived.Test.YtkdlcomfpffhhaaGreatDoorM7
set_option maxRecDepth 100000
set_option linter.unusedSimpArgs false
set_option linter.unusedVariables false
set_option maxHeartbeats 3200000
namespace Go.Proofs.YtkdlcomfpffhhaaGreatDoor
open Go.Proofs.Tryz
open Go.RowKit Corb
theorem lB{α:Type}{T:TypeId}{c:Nat}{f:α->List Value}{w w':World}{base b:Nat}{v:Value}{l:List α}(h:aN T c f w base v l)(j:Kn b w w')(hb:b<base):aN T c f w' base v l:=by
 refine⟨h.1,?_⟩;rcases h.2 with k|⟨g,cap,d,rfl,e,a,rest⟩
 . exact .inl k
 . have i:=(Array.getElem?_eq_some_iff.1 a).1;refine .inr ⟨g,cap,d,rfl,e,?_,rest⟩;rw[j.2.1 g i (by omega)];exact a
theorem oS{b:Nat}{w w':World}(h:Below w.heap.size w w')(hb:b<w.heap.size):Kn b w w':=⟨h.mono (a0y hb),fun k a _=>h.block k a,h.size⟩
theorem Kp{l:List En}(h:dS l=true)(i:Nat)(a:i<l.length):(l.getD i default).n.size<=43/\(l.getD i default).t.size<=300:=by
 have:=ee (n:=(l.getD i default).n) (t:=(l.getD i default).t) ((gW h).1 i a);exact⟨this.1,this.2.1⟩
def fN(j:Nat):ByteArray:=(⟨#[102]⟩:ByteArray)++⟨(Lib.decDigits j).toArray⟩
def fM(j:Nat):ByteArray:=⟨#[102,UInt8.ofNat (48+j)]⟩
theorem NR{j:Nat}(h:j<6):fN j=fM j:=by
 unfold fN fM;rw[Lib.decDigits,dif_pos (by omega)];rfl
theorem M4:∀j,j<6->fG (fM j).data.toList=true/\(∀v∈dx,aZ v.data.toList (fM j).data.toList=false)/\∀i,i<j->aZ (fM i).data.toList (fM j).data.toList=false:=by decide +kernel
def Gs(l:List En):Prop:=dS l=true/\∀e∈l,e.n∈dx
def DK(l:List En):Prop:=dS l=true/\∀e∈l,e.n∈dx∨∃j,j<l.length/\e.n=fM j
theorem Nc:Gs []:=⟨rfl,fun e a=>by cases a⟩
theorem Lo{l:List En}{e:En}(h:Gs l)(c:cj l e=0)(b:e.n∈dx):Gs (l++[e]):=
 ⟨(lS h.1 e).2 c,fun f a=>by
  rcases a1j.1 a with a|a
  . exact h.2 f a
  . rw[a1g.1 a];exact b⟩
theorem ME{l:List En}(h:Gs l):DK l:=⟨h.1,fun e a=>.inl (h.2 e a)⟩
theorem KW{l:List En}{n:Nat}(m:l.length=n)(h:DK l)(f:n<6){y mo d c mi s:Int}(o:cb y mo d c mi s=true):DK (l++[⟨fN n,y,mo,d,c,mi,s,⟨#[]⟩⟩]):=by
 subst m;obtain⟨f1,f2,f3⟩:=M4 l.length f;rw[NR f];refine⟨(lS h.1 _).2 ?_,fun e b=>?_⟩
 .
  have k:jk ⟨fM l.length,y,mo,d,c,mi,s,⟨#[]⟩⟩=true:=by
   show(fG (fM l.length).data.toList&&(cb y mo d c mi s&&decide ((⟨#[]⟩:ByteArray).size<=300)))=true;rw[f1,o];rfl
  have i:jF l (fM l.length)=false:=(MN _ _).2 fun e b=>by
   rcases h.2 e b with a|⟨j,g,a⟩
   . exact f2 _ a
   . rw[a];exact f3 j g
  unfold cj;rw[a0e k];show(if jF l (fM l.length)=true then(3:Int)else _)=0;rw[i,a0d (by decide),a0d (by omega)]
 .
  rw[a0o];rcases a1j.1 b with b|b
  .
   rcases h.2 e b with a|⟨j,g,a⟩
   . exact .inl a
   . exact .inr ⟨j,by omega,a⟩
  . rw[a1g.1 b];exact .inr ⟨l.length,by simp,rfl⟩
theorem xX(B b m:Nat)(w:World)(h:Rd w B b m)(hm:m<=60000) :
  Calls prog 76 #[.pointer (some ⟨b,0,none⟩)] w fun e w'=>(∃v l,e = .returned v/\ie w' w.heap.size v l/\DK l)/\Rd w' B b (m+300)/\Kn b w w':=by
 obtain⟨i0,hi,bk,bs,b0⟩:=a0s Tryz.infoEnt;have c:=h.lt;have R0:Hid (Rd (w.alloc (.cells #[] 32)) B b m):=h.alloc _;have O0:Hid (ie (w.alloc (.cells #[] 32)) w.heap.size (.slice (some ⟨w.heap.size,0,none⟩) 0 0) []):=a0P w #[] 0 (a0a _) (by unfold maxLen;omega) rfl;have K0:Hid (Kn b w (w.alloc (.cells #[] 32))):=dE w _ c;have ac:Hid (∀x,x<=40->x<=maxLen/\x*80<=140737488355328):=fun x hx=>by unfold maxLen;omega
 clear h;go_enter func76,ntmps76;go_wp2_with fail;refine(bi B b m _ _ (ae R0) (by omega) (by omega) (by omega)).mono ?_;rintro e w1 ⟨r,rfl,r0,r1,T,D⟩;obtain⟨n0,rfl⟩:=a0r r0;have O1:=af (lB (ae O0) D.kn c);have K1:=af ((ae K0).trans D.kn);have R1:=af T;have a2:n0<=4:=by omega
 clear R0 O0 K0 T D r0 r1;go_wp2_with fail
 go_loopw [3,4] (fun v i wr=>∃(l:List En) (k:Nat),i = .int .i64 k/\k<=4/\l.length+k<=4/\ie wr w.heap.size v l/\Gs l/\Rd wr B b (m+1+(4-k)*60)/\Kn b w wr) (fun _ i _=>(intOf i).toNat)
 case atStart=>exact⟨[],n0,rfl,a2,by simpa using a2,ae O1,Nc,(ae R1).mono (by omega),ae K1⟩
 case round=>
  obtain⟨l,k,rfl,hk,a0,ho,hT,q,z⟩:=hrel;clear O1 K1 R1;obtain⟨n,Z⟩:∃n,l.length=n:=⟨_,rfl⟩;obtain⟨g,cap,rfl,O,_⟩:=aN.formN Z ho;have bc:(k:Int)<=4:=by omega
  have a:=af (a0b ho (a0b hT (a0b q (a0b z (a0b Z a0)))));have C:=q.lt;clear ho hT q z Z a0;by_cases hp:0<k
  .
   have be:(0:Int)<(k:Int):=by omega
   go_wp2_with fail;refine(tG B b _ _ (ae a).2.2.1 (by omega)).mono ?_;rintro e w2 ⟨nm,y,mo,d,h,mi,s,t,rfl,⟨aa,ht⟩,F,A⟩;have j:=af (a0b (lB (ae a).1 A c) (a0b F ((ae a).2.2.2.1.trans A)));have Q:=F.lt;have an:=af aa;have HC:=af (EM _ l ⟨nm,y,mo,d,h,mi,s,t⟩ _ w2 (ae j).1 (by have:=ae a;omega) (fun i hi=>by have:=Kp (ae a).2.1.1 i hi;omega) (by have:=LA (a1j.2 (.inr aa));show nm.size<=_;omega) (by show(t.size:Int)<=_;omega));clear F A aa ht;generalize hE:(⟨nm,y,mo,d,h,mi,s,t⟩:En)=en at HC;go_wp2_with fail;have ao:Value.agg #[.string nm,.int .i64 y,.int .i64 mo,.int .i64 d,.int .i64 h,.int .i64 mi,.int .i64 s,.string t] = .agg #[.string en.n,.int .i64 en.y,.int .i64 en.mo,.int .i64 en.d,.int .i64 en.h,.int .i64 en.mi,.int .i64 en.s,.string en.t]:=by rw[←hE]
   rw[ao];have V:Hid (en.n∈dx):=by show _∈_;rw[←hE];exact ae an
   clear hE ao an;refine(ae HC).mono ?_;rintro f w3 ⟨⟨v3,rfl,ab,H⟩,M⟩;have k3:=oS M Q;have L:=af (a0b ((ae j).2.1.kept (M.mono Q)) ((ae j).2.2.trans k3));by_cases S:cj l en=0
   .
    have W:=af (aN.mono (ab S) (ae j).2.2.2.2);have a6:=af (Lo (ae a).2.1 S (ae V));have I:Hid ((l++[en]).length+(k-1)<=4):=by show _<=_;have:=ae a;simp;omega
    clear ab H M k3 HC j V S;go_wp2_with fail;go_roundw
    case rel=>exact⟨l++[en],k-1,by go_num,by omega,ae I,ae W,ae a6,(ae L).1.mono (by omega),(ae L).2⟩
    case measure=>simp[intOf];omega
   .
    have W:=af (lB (ae j).1 k3 c);have hv:=H S;clear ab H M k3 HC j V S;rw[hv];clear hv;go_wp2_with fail;go_roundw
    case rel=>exact⟨l,k-1,by go_num,by omega,by have:=ae a;omega,ae W,(ae a).2.1,(ae L).1.mono (by omega),(ae L).2⟩
    case measure=>simp[intOf];omega
  .
   have be:¬ (0:Int)<(k:Int):=by omega
   go_wp2_with fail;refine(bi B b _ 24 _ (ae a).2.2.1 (by omega) (by omega) (by omega)).mono ?_;rintro e w4 ⟨r,rfl,r0,r1,U,E⟩;have o:=af (a0b (lB (ae a).1 E.kn c) (a0b U ((ae a).2.2.2.1.trans E.kn)));have bd:(n:Int)<=4:=by have:=ae a;omega
   have J:=af (a0b (ae a).2.1 (ae a).2.2.2.2.1);clear U E a;by_cases S:r=0
   .
    subst S;go_wp2_with fail
    go_loopw [3,5] (fun v i wr=>∃(l:List En) (n:Nat),l.length=n/\i = .int .i64 n/\n<=6/\ie wr w.heap.size v l/\DK l/\Rd wr B b (m+242+n*6)/\Kn b w wr) (fun _ i _=>6-(intOf i).toNat)
    case atStart=>exact⟨l,n,(ae J).2,rfl,by omega,(ae o).1,ME (ae J).1,(ae o).2.1.mono (by omega),(ae o).2.2⟩
    case round=>
     clear o J bd bc O;obtain⟨l,n,Z,rfl,h6,ho,hF,q,z⟩:=hrel;obtain⟨g,cap,rfl,O,_⟩:=aN.formN Z ho;have a:=af (a0b ho (a0b hF (a0b q (a0b z Z))));have C:=q.lt;clear ho hF q z Z;by_cases h5:n<6
     .
      have ba:(n:Int)<6:=by omega
      have HD:=af (ED n (by omega) wr);go_wp2_with fail;refine(ae HD).mono ?_;rintro e w5 ⟨rfl,Y⟩;have k5:=oS Y C;have u:=af (a0b (lB (ae a).1 k5 c) (a0b ((ae a).2.2.1.kept (Y.mono C)) ((ae a).2.2.2.1.trans k5)));have N:¬ (9223372036854775807:Nat)<(⟨#[102]⟩:ByteArray).size+(⟨(Lib.decDigits n).toArray⟩:ByteArray).size:=by
       rw[Lib.decDigits,dif_pos (by omega)];show ¬ (9223372036854775807:Nat)<1+1;decide
      have bb:(⟨#[102]⟩:ByteArray)++⟨(Lib.decDigits n).toArray⟩=fN n:=rfl;have ad:=af N;clear Y k5 HD N;generalize (⟨(Lib.decDigits n).toArray⟩:ByteArray)=dg at *
      have N:=ae ad;clear ad;go_wp2_with fail;refine(mf B b _ _ (ae u).2.1 (by omega)).mono ?_;rintro e w6 ⟨y,mo,d,h,mi,s,rfl,⟨_,a4⟩,G,P⟩;have k6:=rL P;have O6:=lB (ae u).1 k6 c;have a1:=G.lt;have a5:=af (KW (ae a).2.2.2.2 (ae a).2.1 h5 a4);generalize fN n=nm at *
      have K:=af (a0k (aN.own (ae a).2.2.2.2 O6) (.cells #[.string nm,.int .i64 y,.int .i64 mo,.int .i64 d,.int .i64 h,.int .i64 mi,.int .i64 s,.string ⟨#[]⟩] 32));have al:=af (nv (aP w6 #[.string nm,.int .i64 y,.int .i64 mo,.int .i64 d,.int .i64 h,.int .i64 mi,.int .i64 s,.string ⟨#[]⟩] 32));have X:=af (a0b (G.alloc (.cells #[.string nm,.int .i64 y,.int .i64 mo,.int .i64 d,.int .i64 h,.int .i64 mi,.int .i64 s,.string ⟨#[]⟩] 32)) (((ae u).2.2.trans k6).trans (dE w6 (.cells #[.string nm,.int .i64 y,.int .i64 mo,.int .i64 d,.int .i64 h,.int .i64 mi,.int .i64 s,.string ⟨#[]⟩] 32) a1)));have I:Hid (l.length=n):=(ae a).2.2.2.2;have a9:Hid (w.heap.size<=w6.heap.size):=((ae u).2.2.trans k6).2.2;clear O6 k6 P G a4 u a bb N;go_wp2_with (at_builtin;refine a0v _ rfl _ _ 33 rfl w.heap.size 32 i0 (.agg #[.string ⟨#[]⟩,.int .i64 0,.int .i64 0,.int .i64 0,.int .i64 0,.int .i64 0,.int .i64 0,.string ⟨#[]⟩]) 8 80 a2g hi bk bs b0 rfl (by decide) _ n (l.flatMap iX) rfl (ae K) ⟨w6.heap.size,0,none⟩ 1 1 (iX ⟨nm,y,mo,d,h,mi,s,⟨#[]⟩⟩) rfl rfl (ae al) (ik _) (ae ac _ (by omega)).1 (ae ac _ (by omega)).2 (av (ae a9) _) ?_;intro v7 w7 R p a3);have O7:Hid (ie w7 w.heap.size v7 (l++[⟨nm,y,mo,d,h,mi,s,⟨#[]⟩⟩])):=aN.snoc (ae I) R;have R7:=af ((ae X).1.grown p (fun k e=>a0i c (a0p (ae K) k e).1));have K7:Hid (Kn b w w7):=xW (ae X).2 p (fun k e=>(a0p (ae K) k e).1) c;have a7:Hid ((l++[(⟨nm,y,mo,d,h,mi,s,⟨#[]⟩⟩:En)]).length=n+1):=by show _=_;rw[a0o,ae I];rfl
      clear R p a3 K al X;go_wp2_with fail;go_roundw
      case rel=>exact⟨_,n+1,ae a7,by go_num,by omega,ae O7,ae a5,(ae R7).mono (by omega),ae K7⟩
      case measure=>simp[intOf];omega
     .
      have ba:¬ (n:Int)<6:=by omega
      go_wp2;go_ret;exact⟨⟨_,rfl,_,(ae a).1,(ae a).2.1⟩,(ae a).2.2.1.mono (by omega),(ae a).2.2.2.1⟩
   .
    have b1:(r == 0)=false:=by simpa using S
    go_wp2;go_ret;exact⟨⟨_,_,rfl,(ae o).1,ME (ae J).1⟩,(ae o).2.1.mono (by omega),(ae o).2.2⟩
theorem AZ(B b m:Nat)(w:World)(h:Rd w B b m)(z:m<=50000) :
  Calls prog 45 #[.pointer (some ⟨b,0,none⟩)] w fun e w'=>(∃l,DK l/\e = .returned (.string (wH l)))/\Rd w' B b (m+300)/\Kn b w w':=by
 have r:=af (xX B b m w h (by omega));clear h;go_enter func45,ntmps45;go_wp2_with fail;refine(ae r).mono ?_;rintro e w1 ⟨⟨v,l,rfl,q,p⟩,a,c⟩;obtain⟨n,hn⟩:∃n,l.length=n:=⟨_,rfl⟩;obtain⟨g,cap,rfl,s,_⟩:=aN.formN hn q;have o:=p.1;have u:=(gW o).2;have k:=af (EK g cap n l w1 hn (im hn q) (by omega) (fun i y=>M3 o (by omega)));rw[←My o hn]at k;have f:=af (a0b a (a0b c (a0b p a.lt)));clear q p o u hn a c r;obtain⟨S,hS⟩:∃x,wH l=x:=⟨_,rfl⟩;rw[hS]at k;have t:=af hS;clear hS;go_wp2_with fail;refine(ae k).mono ?_;rintro e w2 ⟨rfl,j⟩;have d:=af j;clear j k;go_wp2;go_ret;exact⟨⟨l,(ae f).2.2.1,by rw[ae t];rfl⟩,(ae f).1.kept ((ae d).mono (ae f).2.2.2),(ae f).2.1.trans (oS (ae d) (ae f).2.2.2)⟩
end Go.Proofs.YtkdlcomfpffhhaaGreatDoor
