/- Texts. -/
import Derived.Test.YtckocaibjciplaaGreatDoorM43
import Derived.Test.YtckocaibjciplaaGreatDoorM44
set_option linter.all false
set_option maxRecDepth 100000
set_option maxHeartbeats 3200000
namespace Go.Proofs.YtckocaibjciplaaGreatDoor
open Go.Proofs.Tryz
open Go.RowKit Corb
def nK{α:Type}{T:TypeId}{c:Nat}{f:α->List Value}{w w':World}{base b:Nat}{v:Value}{l:List α}(h:cb T c f w base v l)(j:Kn b w w')(hb:b<base):cb T c f w' base v l:=by
 refine⟨h.1,?_⟩;rcases h.2 with k|⟨g,cap,d,rfl,e,a,rest⟩
 . exact .inl k
 . have i:=(Array.getElem?_eq_some_iff.1 a).1;refine .inr ⟨g,cap,d,rfl,e,?_,rest⟩;rw[j.2.1 g i (by omega)];exact a
def rq{b:Nat}{w w':World}(h:Below w.heap.size w w')(hb:b<w.heap.size):Kn b w w':=⟨h.mono (a0s hb),fun k a _=>h.block k a,h.size⟩
def Od{l:List En}(h:cB l=true)(i:Nat)(a:i<l.length):(l.getD i default).n.size<=43/\(l.getD i default).t.size<=300:=by
 have:=cR (n:=(l.getD i default).n) (t:=(l.getD i default).t) ((ep h).1 i a);exact⟨this.1,this.2.1⟩
def fN(j:Nat):ByteArray:=(⟨#[102]⟩:ByteArray)++⟨(Lib.decDigits j).toArray⟩
def fM(j:Nat):ByteArray:=⟨#[102,UInt8.ofNat (48+j)]⟩
def Rz{j:Nat}(h:j<6):fN j=fM j:=by
 unfold fN fM;rw[Lib.decDigits,dif_pos (by omega)];rfl
def QM:∀j,j<6->ln (fM j).data.toList=true/\(∀v∈iO,ct v.data.toList (fM j).data.toList=false)/\∀i,i<j->ct (fM i).data.toList (fM j).data.toList=false:=by decide +kernel
def Kl(l:List En):Prop:=cB l=true/\∀e∈l,e.n∈iO
def GY(l:List En):Prop:=cB l=true/\∀e∈l,e.n∈iO∨∃j,j<l.length/\e.n=fM j
def QZ:Kl []:=⟨rfl,fun e a=>by cases a⟩
def Pr{l:List En}{e:En}(h:Kl l)(c:aT l e=0)(b:e.n∈iO):Kl (l++[e]):=
 ⟨(gG h.1 e).2 c,fun f a=>by
  rcases a01.1 a with a|a
  . exact h.2 f a
  . rw[a06.1 a];exact b⟩
def Qn{l:List En}(h:Kl l):GY l:=⟨h.1,fun e a=>.inl (h.2 e a)⟩
def OU{l:List En}{n:Nat}(m:l.length=n)(h:GY l)(f:n<6){y mo d c mi s:Int}(o:cV y mo d c mi s=true):GY (l++[⟨fN n,y,mo,d,c,mi,s,⟨#[]⟩⟩]):=by
 subst m;obtain⟨f1,f2,f3⟩:=QM l.length f;rw[Rz f];refine⟨(gG h.1 _).2 ?_,fun e b=>?_⟩
 .
  have k:je ⟨fM l.length,y,mo,d,c,mi,s,⟨#[]⟩⟩=true:=by
   show(ln (fM l.length).data.toList&&(cV y mo d c mi s&&decide ((⟨#[]⟩:ByteArray).size<=300)))=true;rw[f1,o];rfl
  have i:lA l (fM l.length)=false:=(Qx _ _).2 fun e b=>by
   rcases h.2 e b with a|⟨j,g,a⟩
   . exact f2 _ a
   . rw[a];exact f3 j g
  unfold aT;rw[a0d k];show(if lA l (fM l.length)=true then(3:Int)else _)=0;rw[i,a0e (by decide),a0e (by omega)]
 .
  rw[a0i];rcases a01.1 b with b|b
  .
   rcases h.2 e b with a|⟨j,g,a⟩
   . exact .inl a
   . exact .inr ⟨j,by omega,a⟩
  . rw[a06.1 b];exact .inr ⟨l.length,by simp,rfl⟩
def Br(B b m:Nat)(w:World)(h:Rd w B b m)(hm:m<=60000) :
  Calls prog 39 #[.pointer b] w fun e w'=>(∃v l,e = .returned v/\fS w' w.heap.size v l/\GY l)/\Rd w' B b (m+300)/\Kn b w w':=by
 obtain⟨i0,hi,bk,bl,bs⟩:=a0r Tryz.infoEnt;have c:=h.lt;have R0:Hid (Rd (w.alloc (.cells #[] 34)) B b m):=h.alloc _;have O0:Hid (fS (w.alloc (.cells #[] 34)) w.heap.size (.slice w.heap.size 0 0) []):=a0U w #[] 0 (a0a _) (by unfold maxLen;omega) rfl;have K0:Hid (Kn b w (w.alloc (.cells #[] 34))):=iW w _ c;have ac:Hid (∀x,x<=40->x<=maxLen/\x*80<=140737488355328):=fun x hx=>by unfold maxLen;omega
 clear h;go_enter func39,ntmps39;go_wp2_with fail;refine(cz B b m _ _ R0 (by omega) (by omega) (by omega)).mono ?_;rintro e w1⟨r,rfl,r0,r1,T,D⟩;obtain⟨n0,rfl⟩:=a0p r0;have O1:=af (nK O0 D.kn c);have K1:=af (K0.trans D.kn);have R1:=af T;have a3:n0<=4:=by omega
 clear R0 O0 K0 T D r0 r1;go_wp2_with fail
 go_loopw [3,4] (fun v i wr=>∃(l:List En) (k:Nat),i = .int .i64 k/\k<=4/\l.length+k<=4/\fS wr w.heap.size v l/\Kl l/\Rd wr B b (m+1+(4-k)*60)/\Kn b w wr) (fun _ i _=>(intOf i).toNat)
 case atStart=>exact⟨[],n0,rfl,a3,by simpa using a3,O1,QZ,R1.mono (by omega),K1⟩
 case round=>
  obtain⟨l,k,rfl,hk,a1,ho,hT,q,z⟩:=hrel;clear O1 K1 R1;obtain⟨n,Z⟩:∃n,l.length=n:=⟨_,rfl⟩;obtain⟨g,cap,rfl,O,_⟩:=cb.formN Z ho;have bc:(k:Int)<=4:=by omega
  have a:=af (a0b ho (a0b hT (a0b q (a0b z (a0b Z a1)))));have C:=q.lt;clear ho hT q z Z a1;by_cases hp:0<k
  .
   have be:(0:Int)<(k:Int):=by omega
   go_wp2_with fail;refine(ww B b _ _ a.2.2.1 (by omega)).mono ?_;rintro e w2⟨nm,y,mo,d,h,mi,s,t,rfl,⟨aa,ht⟩,F,A⟩;have j:=af (a0b (nK a.1 A c) (a0b F (a.2.2.2.1.trans A)));have Q:=F.lt;have ao:=af aa;have HC:=af (xz _ l ⟨nm,y,mo,d,h,mi,s,t⟩ _ w2 j.1 (by have:=ae a;omega) (fun i hi=>by have:=Od a.2.1.1 i hi;omega) (by have:=Py (a01.2 (.inr aa));show nm.size<=_;omega) (by show(t.size:Int)<=_;omega));clear F A aa ht;generalize hE:(⟨nm,y,mo,d,h,mi,s,t⟩:En)=en at HC;go_wp2_with fail;have a0:Value.agg #[nm,y,mo,d,h,mi,s,t] = .agg en:=by rw[←hE]
   rw[a0];have V:Hid (en.n∈iO):=by show _∈_;rw[←hE];exact ao
   clear hE a0 ao;refine HC.mono ?_;rintro f w3⟨⟨v3,rfl,ab,H⟩,M⟩;have k3:=rq M Q;have L:=af (a0b (j.2.1.kept (M.mono Q)) (j.2.2.trans k3));by_cases S:aT l en=0
   .
    have W:=af (cb.mono (ab S) j.2.2.2.2);have a7:=af (Pr a.2.1 S V);have I:Hid ((l++[en]).length+(k-1)<=4):=by show _<=_;have:=ae a;simp;omega
    clear ab H M k3 HC j V S;go_wp2_with fail;go_roundw
    case rel=>exact⟨l++[en],k-1,by go_num,by omega,I,W,a7,L.1.mono (by omega),L.2⟩
    case measure=>simp[intOf];omega
   .
    have W:=af (nK j.1 k3 c);have hv:=H S;clear ab H M k3 HC j V S;rw[hv];clear hv;go_wp2_with fail;go_roundw
    case rel=>exact⟨l,k-1,by go_num,by omega,by have:=ae a;omega,W,a.2.1,L.1.mono (by omega),L.2⟩
    case measure=>simp[intOf];omega
  .
   have be:¬ (0:Int)<(k:Int):=by omega
   go_wp2_with fail;refine(cz B b _ 24 _ a.2.2.1 (by omega) (by omega) (by omega)).mono ?_;rintro e w4⟨r,rfl,r0,r1,U,E⟩;have o:=af (a0b (nK a.1 E.kn c) (a0b U (a.2.2.2.1.trans E.kn)));have bd:(n:Int)<=4:=by have:=ae a;omega
   have J:=af (a0b (ae a).2.1 (ae a).2.2.2.2.1);clear U E a;by_cases S:r=0
   .
    subst S;go_wp2_with fail
    go_loopw [3,5] (fun v i wr=>∃(l:List En) (n:Nat),l.length=n/\i = .int .i64 n/\n<=6/\fS wr w.heap.size v l/\GY l/\Rd wr B b (m+242+n*6)/\Kn b w wr) (fun _ i _=>6-(intOf i).toNat)
    case atStart=>exact⟨l,n,J.2,rfl,by omega,o.1,Qn J.1,o.2.1.mono (by omega),o.2.2⟩
    case round=>
     clear o J bd bc O;obtain⟨l,n,Z,rfl,h6,ho,hF,q,z⟩:=hrel;obtain⟨g,cap,rfl,O,_⟩:=cb.formN Z ho;have a:=af (a0b ho (a0b hF (a0b q (a0b z Z))));have C:=q.lt;clear ho hF q z Z;by_cases h5:n<6
     .
      have ba:(n:Int)<6:=by omega
      have HD:=af (IJ n (by omega) wr);go_wp2_with fail;refine HD.mono ?_;rintro e w5⟨rfl,Y⟩;have k5:=rq Y C;have u:=af (a0b (nK a.1 k5 c) (a0b (a.2.2.1.kept (Y.mono C)) (a.2.2.2.1.trans k5)));have N:¬ (9223372036854775807:Nat)<(⟨#[102]⟩:ByteArray).size+(⟨(Lib.decDigits n).toArray⟩:ByteArray).size:=by
       rw[Lib.decDigits,dif_pos (by omega)];show ¬ (9223372036854775807:Nat)<1+1;decide
      have bb:(⟨#[102]⟩:ByteArray)++⟨(Lib.decDigits n).toArray⟩=fN n:=rfl;have ad:=af N;clear Y k5 HD N;generalize (⟨(Lib.decDigits n).toArray⟩:ByteArray)=dg at *
      have N:=ae ad;clear ad;go_wp2_with fail;refine(ov B b _ _ u.2.1 (by omega)).mono ?_;rintro e w6⟨y,mo,d,h,mi,s,rfl,⟨_,a5⟩,G,P⟩;have k6:=uJ P;have O6:=nK u.1 k6 c;have a2:=G.lt;have a6:=af (OU a.2.2.2.2 a.2.1 h5 a5);generalize fN n=nm at *
      have K:=af (a0n (cb.own a.2.2.2.2 O6) (.cells #[nm,y,mo,d,h,mi,s,.string ⟨#[]⟩] 34));have al:=af (pB (aJ w6 #[nm,y,mo,d,h,mi,s,.string ⟨#[]⟩] 34));have X:=af (a0b (G.alloc (.cells #[nm,y,mo,d,h,mi,s,.string ⟨#[]⟩] 34)) ((u.2.2.trans k6).trans (iW w6 (.cells #[nm,y,mo,d,h,mi,s,.string ⟨#[]⟩] 34) a2)));have I:Hid (l.length=n):=a.2.2.2.2;have a9:Hid (w.heap.size<=w6.heap.size):=(u.2.2.trans k6).2.2;clear O6 k6 P G a5 u a bb N;go_wp2_with (at_builtin;refine a0v _ rfl _ _ 27 rfl w.heap.size 34 i0 (.agg ()) 8 80 a1S hi bk bl bs rfl (by decide) _ n (l.flatMap jw) rfl K ⟨w6.heap.size,0,none⟩ 1 1 (jw ⟨nm,y,mo,d,h,mi,s,⟨#[]⟩⟩) rfl rfl al (iS _) (ac _ (by omega)).1 (ac _ (by omega)).2 (au a9 _) ?_;intro v7 w7 R p a4);have O7:Hid (fS w7 w.heap.size v7 (l++[⟨nm,y,mo,d,h,mi,s,⟨#[]⟩⟩])):=cb.snoc I R;have R7:=af (X.1.grown p (fun k e=>a0l c (a0z K k e).1));have K7:Hid (Kn b w w7):=Bp X.2 p (fun k e=>(a0z K k e).1) c;have a8:Hid ((l++[(⟨nm,y,mo,d,h,mi,s,⟨#[]⟩⟩:En)]).length=n+1):=by show _=_;rw[a0i,ae I];rfl
      clear R p a4 K al X;go_wp2_with fail;go_roundw
      case rel=>exact⟨_,n+1,a8,by go_num,by omega,O7,a6,R7.mono (by omega),K7⟩
      case measure=>simp[intOf];omega
     .
      have ba:¬ (n:Int)<6:=by omega
      go_wp2;go_ret;exact⟨⟨_,rfl,_,a.1,a.2.1⟩,a.2.2.1.mono (by omega),a.2.2.2.1⟩
   .
    have b0:(r == 0)=false:=by simpa using S
    go_wp2;go_ret;exact⟨⟨_,_,rfl,o.1,Qn J.1⟩,o.2.1.mono (by omega),o.2.2⟩
def uL(B b m:Nat)(w:World)(h:Rd w B b m)(z:m<=50000) :
  Calls prog 21 #[.pointer b] w fun e w'=>(∃l,GY l/\e = .returned (.string (fe l)))/\Rd w' B b (m+300)/\Kn b w w':=by
 have r:=af (Br B b m w h (by omega));clear h;go_enter func21,ntmps21;go_wp2_with fail;refine r.mono ?_;rintro e w1⟨⟨v,l,rfl,q,p⟩,a,c⟩;obtain⟨n,hn⟩:∃n,l.length=n:=⟨_,rfl⟩;obtain⟨g,cap,rfl,s,_⟩:=cb.formN hn q;have o:=p.1;have u:=(ep o).2;have k:=af (xy g cap n l w1 hn (gQ hn q) (by omega) (fun i y=>Es o (by omega)));rw[←GV o hn]at k;have f:=af (a0b a (a0b c (a0b p a.lt)));clear q p o u hn a c r;obtain⟨S,hS⟩:∃x,fe l=x:=⟨_,rfl⟩;rw[hS]at k;have t:=af hS;clear hS;go_wp2_with fail;refine k.mono ?_;rintro e w2⟨rfl,j⟩;have d:=af j;clear j k;go_wp2;go_ret;exact⟨⟨l,f.2.2.1,by rw[ae t];rfl⟩,f.1.kept (d.mono f.2.2.2),f.2.1.trans (rq d f.2.2.2)⟩
def s9(a:Option Addr)(len cap:Nat)(z:Nat->Int)(w:World)(h:Src w a len z)(u:len<=cap)(v:len<=maxLen) :
  Calls prog 7 #[.slice a len cap] w fun e w'=>(∃(l:List En) (t:ByteArray),e = .returned (.tuple #[.string (fe l),t])/\cB l=true/\t.size<=9100)/\Below w.heap.size w w':=by
 go_enter func7,ntmps7;go_wp2_with fail;refine(EK a len cap z _ h u v).mono ?_;rintro e w1⟨rfl,j,i,y⟩;go_wp2_with fail;refine(uL _ _ 0 _ j (by omega)).mono ?_;rintro e w2⟨⟨l1,m,rfl⟩,f,c⟩;have n:=af (i.trans c.1);have s:=af m.1;obtain⟨S1,hS1⟩:∃x,fe l1=x:=⟨_,rfl⟩;have q:=af hS1;rw[hS1];clear c m hS1 j;go_wp2_with fail;refine(uL _ _ _ _ f (by omega)).mono ?_;rintro e w3⟨⟨l2,r,rfl⟩,g,d⟩;have o:=af (n.trans d.1);have B:=pr l2;generalize fe l2=S at *
 clear d r f;go_wp2_with fail;refine(Bq _ _ _ S _ g (by omega) (by omega)).mono ?_;rintro e w4⟨⟨t,rfl,A⟩,k,b⟩;have p:=af (o.trans b);clear b g k;go_wp2
 go_ret2
 exact⟨⟨l1,t,by rw[ae q];rfl,s,A⟩,p⟩
