/- Of what the proof is made: 2 texts, one behind the other. -/
import Derived.Test.YtlpmnnjlmjffpaaGreatDoorM42
import Derived.Test.YtlpmnnjlmjffpaaGreatDoorM41
import Derived.Test.YtlpmnnjlmjffpaaGreatDoorM29
import Derived.Test.YtlpmnnjlmjffpaaGreatDoorM43
import Derived.Test.YtlpmnnjlmjffpaaGreatDoorM39
import Derived.Test.YtlpmnnjlmjffpaaGreatDoorM35
import Derived.Test.YtlpmnnjlmjffpaaGreatDoorM8
set_option maxRecDepth 100000
set_option linter.unusedSimpArgs false
set_option linter.unusedVariables false
set_option maxHeartbeats 3200000
namespace Go.Proofs.YtlpmnnjlmjffpaaGreatDoor
open Go.Proofs.Tryz
open Go.RowKit Corb
theorem mt{α:Type}{T:TypeId}{c:Nat}{f:α->List Value}{w w':World}{base b:Nat}{v:Value}{l:List α}(h:bD T c f w base v l)(j:Kn b w w')(hb:b<base):bD T c f w' base v l:=by
 refine⟨h.1,?_⟩;rcases h.2 with k|⟨g,cap,d,rfl,e,a,rest⟩
 . exact .inl k
 . have i:=(Array.getElem?_eq_some_iff.1 a).1;refine .inr ⟨g,cap,d,rfl,e,?_,rest⟩;rw[j.2.1 g i (by omega)];exact a
theorem pI{b:Nat}{w w':World}(h:Below w.heap.size w w')(hb:b<w.heap.size):Kn b w w':=⟨h.mono (a0C hb),fun k a _=>h.block k a,h.size⟩
theorem Lx{l:List En}(h:bC l=true)(i:Nat)(a:i<l.length):(l.getD i default).n.size<=43/\(l.getD i default).t.size<=300:=by
 have:=dz (n:=(l.getD i default).n) (t:=(l.getD i default).t) ((fg h).1 i a);exact⟨this.1,this.2.1⟩
def fN(j:Nat):ByteArray:=(⟨#[102]⟩:ByteArray)++⟨(Lib.decDigits j).toArray⟩
def fM(j:Nat):ByteArray:=⟨#[102,UInt8.ofNat (48+j)]⟩
theorem Pj{j:Nat}(h:j<6):fN j=fM j:=by
 unfold fN fM;rw[Lib.decDigits,a2o (by omega)];rfl
theorem Om:∀j,j<6->j8 (fM j).data.toList=true/\(∀v∈fD,bV v.data.toList (fM j).data.toList=false)/\∀i,i<j->bV (fM i).data.toList (fM j).data.toList=false:=by decide +kernel
def H5(l:List En):Prop:=bC l=true/\∀e∈l,e.n∈fD
def we(l:List En):Prop:=bC l=true/\∀e∈l,e.n∈fD∨∃j,j<l.length/\e.n=fM j
theorem OC:H5 []:=⟨rfl,fun e a=>by cases a⟩
theorem MB{l:List En}{e:En}(h:H5 l)(c:bv l e=0)(b:e.n∈fD):H5 (l++[e]):=
 ⟨(mM h.1 e).2 c,fun f a=>by
  rcases a1b.1 a with a|a
  . exact h.2 f a
  . rw[a09.1 a];exact b⟩
theorem NK{l:List En}(h:H5 l):we l:=⟨h.1,fun e a=>.inl (h.2 e a)⟩
theorem Mk{l:List En}{n:Nat}(m:l.length=n)(h:we l)(f:n<6){y mo d c mi s:Int}(o:cz y mo d c mi s=true):we (l++[⟨fN n,y,mo,d,c,mi,s,⟨#[]⟩⟩]):=by
 subst m;obtain⟨f1,f2,f3⟩:=Om l.length f;rw[Pj f];refine⟨(mM h.1 _).2 ?_,fun e b=>?_⟩
 .
  have k:jW ⟨fM l.length,y,mo,d,c,mi,s,⟨#[]⟩⟩=true:=by
   show(j8 (fM l.length).data.toList&&(cz y mo d c mi s&&decide ((⟨#[]⟩:ByteArray).size<=300)))=true;rw[f1,o];rfl
  have i:kv l (fM l.length)=false:=(NX _ _).2 fun e b=>by
   rcases h.2 e b with a|⟨j,g,a⟩
   . exact f2 _ a
   . rw[a];exact f3 j g
  unfold bv;rw[a0e k];show(if kv l (fM l.length)=true then(3:Int)else _)=0;rw[i,a0d (by decide),a0d (by omega)]
 .
  rw[a0m];rcases a1b.1 b with b|b
  .
   rcases h.2 e b with a|⟨j,g,a⟩
   . exact .inl a
   . exact .inr ⟨j,by omega,a⟩
  . rw[a09.1 b];exact .inr ⟨l.length,by simp,rfl⟩
theorem yR(B b m:Nat)(w:World)(h:Rd w B b m)(hm:m<=60000) :
  Calls prog 68 #[.pointer (some ⟨b,0,none⟩)] w fun e w'=>(∃v l,e = .returned v/\im w' w.heap.size v l/\we l)/\Rd w' B b (m+300)/\Kn b w w':=by
 obtain⟨i0,hi,bq,bs,bz⟩:=a0w Tryz.infoEnt;have c:=h.lt;have R0:Hid (Rd (w.alloc (.cells #[] 35)) B b m):=h.alloc _;have O0:Hid (im (w.alloc (.cells #[] 35)) w.heap.size (.slice (some ⟨w.heap.size,0,none⟩) 0 0) []):=a0Y w #[] 0 (a0a _) (by unfold maxLen;omega) rfl;have K0:Hid (Kn b w (w.alloc (.cells #[] 35))):=gR w _ c;have ac:Hid (∀x,x<=40->x<=maxLen/\x*80<=140737488355328):=fun x hx=>by unfold maxLen;omega
 clear h;go_enter func68,ntmps68;go_wp2_with fail;refine(bG B b m _ _ (ae R0) (by omega) (by omega) (by omega)).mono ?_;rintro e w1 ⟨r,rfl,r0,r1,T,D⟩;obtain⟨n0,rfl⟩:=a0r r0;have O1:=af (mt (ae O0) D.kn c);have K1:=af ((ae K0).trans D.kn);have R1:=af T;have a3:n0<=4:=by omega
 clear R0 O0 K0 T D r0 r1;go_wp2_with fail
 go_loopw [3,4] (fun v i wr=>∃(l:List En) (k:Nat),i = .int .i64 k/\k<=4/\l.length+k<=4/\im wr w.heap.size v l/\H5 l/\Rd wr B b (m+1+(4-k)*60)/\Kn b w wr) (fun _ i _=>(intOf i).toNat)
 case atStart=>exact⟨[],n0,rfl,a3,by simpa using a3,ae O1,OC,(ae R1).mono (by omega),ae K1⟩
 case round=>
  obtain⟨l,k,rfl,hk,a1,ho,hT,q,z⟩:=hrel;clear O1 K1 R1;obtain⟨n,Z⟩:∃n,l.length=n:=⟨_,rfl⟩;obtain⟨g,cap,rfl,O,_⟩:=bD.formN Z ho;have bd:(k:Int)<=4:=by omega
  have a:=af (a0b ho (a0b hT (a0b q (a0b z (a0b Z a1)))));have C:=q.lt;clear ho hT q z Z a1;by_cases hp:0<k
  .
   have bk:(0:Int)<(k:Int):=by omega
   go_wp2_with fail;refine(ul B b _ _ (ae a).2.2.1 (by omega)).mono ?_;rintro e w2 ⟨nm,y,mo,d,h,mi,s,t,rfl,⟨aa,ht⟩,F,A⟩;have j:=af (a0b (mt (ae a).1 A c) (a0b F ((ae a).2.2.2.1.trans A)));have Q:=F.lt;have ao:=af aa;have HC:=af (FQ _ l ⟨nm,y,mo,d,h,mi,s,t⟩ _ w2 (ae j).1 (by have:=ae a;omega) (fun i hi=>by have:=Lx (ae a).2.1.1 i hi;omega) (by have:=MQ (a1b.2 (.inr aa));show nm.size<=_;omega) (by show(t.size:Int)<=_;omega));clear F A aa ht;generalize hE:(⟨nm,y,mo,d,h,mi,s,t⟩:En)=en at HC;go_wp2_with fail;have a0:Value.agg #[.string nm,.int .i64 y,.int .i64 mo,.int .i64 d,.int .i64 h,.int .i64 mi,.int .i64 s,.string t] = .agg #[.string en.n,.int .i64 en.y,.int .i64 en.mo,.int .i64 en.d,.int .i64 en.h,.int .i64 en.mi,.int .i64 en.s,.string en.t]:=by rw[←hE]
   rw[a0];have V:Hid (en.n∈fD):=by show _∈_;rw[←hE];exact ae ao
   clear hE a0 ao;refine(ae HC).mono ?_;rintro f w3 ⟨⟨v3,rfl,ab,H⟩,M⟩;have k3:=pI M Q;have L:=af (a0b ((ae j).2.1.kept (M.mono Q)) ((ae j).2.2.trans k3));by_cases S:bv l en=0
   .
    have W:=af (bD.mono (ab S) (ae j).2.2.2.2);have a7:=af (MB (ae a).2.1 S (ae V));have I:Hid ((l++[en]).length+(k-1)<=4):=by show _<=_;have:=ae a;simp;omega
    clear ab H M k3 HC j V S;go_wp2_with fail;go_roundw
    case rel=>exact⟨l++[en],k-1,by go_num,by omega,ae I,ae W,ae a7,(ae L).1.mono (by omega),(ae L).2⟩
    case measure=>simp[intOf];omega
   .
    have W:=af (mt (ae j).1 k3 c);have hv:=H S;clear ab H M k3 HC j V S;rw[hv];clear hv;go_wp2_with fail;go_roundw
    case rel=>exact⟨l,k-1,by go_num,by omega,by have:=ae a;omega,ae W,(ae a).2.1,(ae L).1.mono (by omega),(ae L).2⟩
    case measure=>simp[intOf];omega
  .
   have bk:¬ (0:Int)<(k:Int):=by omega
   go_wp2_with fail;refine(bG B b _ 24 _ (ae a).2.2.1 (by omega) (by omega) (by omega)).mono ?_;rintro e w4 ⟨r,rfl,r0,r1,U,E⟩;have o:=af (a0b (mt (ae a).1 E.kn c) (a0b U ((ae a).2.2.2.1.trans E.kn)));have be:(n:Int)<=4:=by have:=ae a;omega
   have J:=af (a0b (ae a).2.1 (ae a).2.2.2.2.1);clear U E a;by_cases S:r=0
   .
    subst S;go_wp2_with fail
    go_loopw [3,5] (fun v i wr=>∃(l:List En) (n:Nat),l.length=n/\i = .int .i64 n/\n<=6/\im wr w.heap.size v l/\we l/\Rd wr B b (m+242+n*6)/\Kn b w wr) (fun _ i _=>6-(intOf i).toNat)
    case atStart=>exact⟨l,n,(ae J).2,rfl,by omega,(ae o).1,NK (ae J).1,(ae o).2.1.mono (by omega),(ae o).2.2⟩
    case round=>
     clear o J be bd O;obtain⟨l,n,Z,rfl,h6,ho,hF,q,z⟩:=hrel;obtain⟨g,cap,rfl,O,_⟩:=bD.formN Z ho;have a:=af (a0b ho (a0b hF (a0b q (a0b z Z))));have C:=q.lt;clear ho hF q z Z;by_cases h5:n<6
     .
      have bb:(n:Int)<6:=by omega
      have HD:=af (ve n (by omega) wr);go_wp2_with fail;refine(ae HD).mono ?_;rintro e w5 ⟨rfl,Y⟩;have k5:=pI Y C;have u:=af (a0b (mt (ae a).1 k5 c) (a0b ((ae a).2.2.1.kept (Y.mono C)) ((ae a).2.2.2.1.trans k5)));have N:¬ (9223372036854775807:Nat)<(⟨#[102]⟩:ByteArray).size+(⟨(Lib.decDigits n).toArray⟩:ByteArray).size:=by
       rw[Lib.decDigits,a2o (by omega)];show ¬ (9223372036854775807:Nat)<1+1;decide
      have bc:(⟨#[102]⟩:ByteArray)++⟨(Lib.decDigits n).toArray⟩=fN n:=rfl;have ad:=af N;clear Y k5 HD N;generalize (⟨(Lib.decDigits n).toArray⟩:ByteArray)=dg at *
      have N:=ae ad;clear ad;go_wp2_with fail;refine(mX B b _ _ (ae u).2.1 (by omega)).mono ?_;rintro e w6 ⟨y,mo,d,h,mi,s,rfl,⟨_,a5⟩,G,P⟩;have k6:=lF P;have O6:=mt (ae u).1 k6 c;have a2:=G.lt;have a6:=af (Mk (ae a).2.2.2.2 (ae a).2.1 h5 a5);generalize fN n=nm at *
      have K:=af (a0n (bD.own (ae a).2.2.2.2 O6) (.cells #[.string nm,.int .i64 y,.int .i64 mo,.int .i64 d,.int .i64 h,.int .i64 mi,.int .i64 s,.string ⟨#[]⟩] 35));have al:=af (oo (au w6 #[.string nm,.int .i64 y,.int .i64 mo,.int .i64 d,.int .i64 h,.int .i64 mi,.int .i64 s,.string ⟨#[]⟩] 35));have X:=af (a0b (G.alloc (.cells #[.string nm,.int .i64 y,.int .i64 mo,.int .i64 d,.int .i64 h,.int .i64 mi,.int .i64 s,.string ⟨#[]⟩] 35)) (((ae u).2.2.trans k6).trans (gR w6 (.cells #[.string nm,.int .i64 y,.int .i64 mo,.int .i64 d,.int .i64 h,.int .i64 mi,.int .i64 s,.string ⟨#[]⟩] 35) a2)));have I:Hid (l.length=n):=(ae a).2.2.2.2;have ba:Hid (w.heap.size<=w6.heap.size):=((ae u).2.2.trans k6).2.2;clear O6 k6 P G a5 u a bc N;go_wp2_with (at_builtin;refine a0x _ rfl _ _ 27 rfl w.heap.size 35 i0 (.agg #[.string ⟨#[]⟩,.int .i64 0,.int .i64 0,.int .i64 0,.int .i64 0,.int .i64 0,.int .i64 0,.string ⟨#[]⟩]) 8 80 a2c hi bq bs bz rfl (by decide) _ n (l.flatMap iu) rfl (ae K) ⟨w6.heap.size,0,none⟩ 1 1 (iu ⟨nm,y,mo,d,h,mi,s,⟨#[]⟩⟩) rfl rfl (ae al) (iK _) (ae ac _ (by omega)).1 (ae ac _ (by omega)).2 (an (ae ba) _) ?_;intro v7 w7 R p a4);have O7:Hid (im w7 w.heap.size v7 (l++[⟨nm,y,mo,d,h,mi,s,⟨#[]⟩⟩])):=bD.snoc (ae I) R;have R7:=af ((ae X).1.grown p (fun k e=>a0j c (a0D (ae K) k e).1));have K7:Hid (Kn b w w7):=yP (ae X).2 p (fun k e=>(a0D (ae K) k e).1) c;have a9:Hid ((l++[(⟨nm,y,mo,d,h,mi,s,⟨#[]⟩⟩:En)]).length=n+1):=by show _=_;rw[a0m,ae I];rfl
      clear R p a4 K al X;go_wp2_with fail;go_roundw
      case rel=>exact⟨_,n+1,ae a9,by go_num,by omega,ae O7,ae a6,(ae R7).mono (by omega),ae K7⟩
      case measure=>simp[intOf];omega
     .
      have bb:¬ (n:Int)<6:=by omega
      go_wp2;go_ret;exact⟨⟨_,rfl,_,(ae a).1,(ae a).2.1⟩,(ae a).2.2.1.mono (by omega),(ae a).2.2.2.1⟩
   .
    have b0:(r == 0)=false:=by simpa using S
    go_wp2;go_ret;exact⟨⟨_,_,rfl,(ae o).1,NK (ae J).1⟩,(ae o).2.1.mono (by omega),(ae o).2.2⟩
theorem kI(B b m:Nat)(w:World)(h:Rd w B b m)(z:m<=50000) :
  Calls prog 36 #[.pointer (some ⟨b,0,none⟩)] w fun e w'=>(∃l,we l/\e = .returned (.string (aV l)))/\Rd w' B b (m+300)/\Kn b w w':=by
 have r:=af (yR B b m w h (by omega));clear h;go_enter func36,ntmps36;go_wp2_with fail;refine(ae r).mono ?_;rintro e w1 ⟨⟨v,l,rfl,q,p⟩,a,c⟩;obtain⟨n,hn⟩:∃n,l.length=n:=⟨_,rfl⟩;obtain⟨g,cap,rfl,s,_⟩:=bD.formN hn q;have o:=p.1;have u:=(fg o).2;have k:=af (FO g cap n l w1 hn (iL hn q) (by omega) (fun i y=>Ol o (by omega)));rw[←ND o hn]at k;have f:=af (a0b a (a0b c (a0b p a.lt)));clear q p o u hn a c r;obtain⟨S,hS⟩:∃x,aV l=x:=⟨_,rfl⟩;rw[hS]at k;have t:=af hS;clear hS;go_wp2_with fail;refine(ae k).mono ?_;rintro e w2 ⟨rfl,j⟩;have d:=af j;clear j k;go_wp2;go_ret;exact⟨⟨l,(ae f).2.2.1,by rw[ae t];rfl⟩,(ae f).1.kept ((ae d).mono (ae f).2.2.2),(ae f).2.1.trans (pI (ae d) (ae f).2.2.2)⟩
theorem si(a:Option Addr)(len cap:Nat)(z:Nat->Int)(w:World)(h:Src w a len z)(u:len<=cap)(v:len<=maxLen) :
  Calls prog 28 #[.slice a len cap] w fun e w'=>(∃(l:List En) (s:ByteArray),e = .returned (.string s)/\s.size<=9100/\we l/\lm (aV l) s)/\Below w.heap.size w w':=by
 go_enter func28,ntmps28;go_wp2_with fail;refine(kJ a len cap z _ h u v).mono ?_;rintro e w1 ⟨rfl,n,d,y⟩;go_wp2_with fail;refine(kI _ _ 0 _ n (by omega)).mono ?_;rintro e w2 ⟨⟨l,p,rfl⟩,g,c⟩;have r:=ct l;have i:=af (d.trans c.1);have q:=af p;obtain⟨S,hSe⟩:∃x,aV l=x:=⟨_,rfl⟩;have m:=af hSe;rw[hSe]at r;rw[hSe];clear c p hSe;go_wp2_with fail;refine(kH _ _ _ S _ g (by omega) (by omega)).mono ?_;rintro e w3 ⟨⟨t,rfl,A,f⟩,o,b⟩;have k:=af f;clear f;have j:=af ((ae i).trans b);clear b;go_wp2;go_ret;exact⟨⟨l,t,rfl,A,ae q,by rw[ae m];exact ae k⟩,ae j⟩
theorem pu(a:Option Addr)(len cap:Nat)(z:Nat->Int)(w:World)(h:Src w a len z)(c:len<=cap)(d:len<=maxLen) :
  Calls prog 9 #[.slice a len cap] w fun e w'=>(∃(l:List En) (s:ByteArray),e = .returned (.string s)/\s.size<=9100/\we l/\lm (aV l) s)/\Below w.heap.size w w':=by
 have C:=af (si a len cap z w h c d);clear h c d;go_enter func9,ntmps9;go_wp2_with fail;refine(ae C).mono ?_;rintro e w1 ⟨⟨l,s,rfl,f⟩,hb⟩;have b:=af (a0b f hb);clear f hb C;go_wp2;go_ret;exact⟨⟨l,s,rfl,(ae b).1⟩,(ae b).2⟩
theorem q9(a:Option Addr)(len cap:Nat)(z:Nat->Int)(w:World)(h:Src w a len z)(y:len<=cap)(A:len<=maxLen) :
  Calls prog 15 #[.slice a len cap] w fun e w'=>(∃s x:ByteArray,e = .returned (.tuple #[.string s,.string x])/\s.size<=9100/\x∈fD)/\Below w.heap.size w w':=by
 go_enter func15,ntmps15;go_wp2_with fail;refine(kJ a len cap z _ h y A).mono ?_;rintro e w1 ⟨rfl,p,f,B⟩;go_wp2_with fail;refine(kI _ _ 0 _ p (by omega)).mono ?_;rintro e w2 ⟨⟨l,q,rfl⟩,i,c⟩;have v:=ct l;have m:=af (f.trans c.1);have E:=af q;obtain⟨S,hSe⟩:∃x,aV l=x:=⟨_,rfl⟩;have u:=af hSe;rw[hSe]at v;rw[hSe];clear c q hSe;go_wp2_with fail;refine(kH _ _ _ S _ i (by omega) (by omega)).mono ?_;rintro e w3 ⟨⟨t,rfl,C,g⟩,j,b⟩;have r:=af g;clear g;have n:=af ((ae m).trans b);clear b;go_wp2_with fail;refine(qz _ _ _ _ j (by omega)).mono ?_;rintro e w4 ⟨x,D,rfl,k,d⟩;have o:=af ((ae n).trans d.1);clear d k;go_wp2
 go_ret2
 exact⟨⟨t,x,rfl,C,D⟩,ae o⟩
end Go.Proofs.YtlpmnnjlmjffpaaGreatDoor
