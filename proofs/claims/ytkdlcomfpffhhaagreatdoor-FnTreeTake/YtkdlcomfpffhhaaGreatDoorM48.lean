/- Of what the proof is made: 3 texts, one behind the other. -/
import Derived.Test.YtkdlcomfpffhhaaGreatDoorM34
import Derived.Test.YtkdlcomfpffhhaaGreatDoorM47
import Derived.Test.YtkdlcomfpffhhaaGreatDoorM45
import Derived.Test.YtkdlcomfpffhhaaGreatDoorM43
import Derived.Test.YtkdlcomfpffhhaaGreatDoorM2
set_option maxRecDepth 100000
set_option linter.unusedSimpArgs false
set_option linter.unusedVariables false
set_option maxHeartbeats 12800000
namespace Go.Proofs.YtkdlcomfpffhhaaGreatDoor
open Go.Proofs.Tryz
open Go.RowKit Corb
theorem oD(a:Option Addr)(len cap:Nat)(z:Nat->Int)(w:World)(h:Src w a len z)(F:len<=cap)(G:len<=maxLen) :
  Calls prog 18 #[.slice a len cap] w fun e w'=>(∃v l s,e = .returned (.tuple #[v,.string s])/\l.length<=5/\eQ w' w.heap.size v l/\v ≠ .slice none 0 0/\fh l/\s.size<=9100)/\Below w.heap.size w w':=by
 go_enter func18,ntmps18;go_wp2_with fail;refine(A9 a len cap z _ h F G).mono ?_;rintro e w1 ⟨rfl,y,i,H⟩;go_wp2_with fail;refine(rQ _ _ 0 _ y (by omega)).mono ?_;rintro e w2 ⟨⟨v,l,rfl,C,x,E,D,_⟩,b,M,K,p⟩;obtain⟨n,hn⟩:∃n,l.length=n:=⟨_,rfl⟩;obtain⟨g,c,rfl,_⟩:=jm hn x E;have A:=af x;have B:=af (a0b D (a0b C hn));have k:=af (i.trans b);clear x E D C hn i b;go_wp2_with fail;refine(AZ _ _ M _ p (by omega)).mono ?_;rintro e w3 ⟨⟨fs,J,rfl⟩,j,d⟩;have L:=Cm fs;have m:=af ((ae k).trans d.1);have o:=af (eV (ae A) d (a0l _));generalize wH fs=S at *
 clear d J A k;go_wp2_with fail;refine(wb _ _ _ S _ j (by omega) (by omega)).mono ?_;rintro e w4 ⟨⟨t,rfl,I,_⟩,q,f⟩;have r:=af ((ae m).trans f.1);have u:=af (eV (ae o) f (a0l _));clear q f m o j;go_wp2
 go_ret2
 exact⟨⟨_,l,t,rfl,(ae B).2.1,aN.mono (ae u) (by omega),nofun,(ae B).1,I⟩,ae r⟩
theorem KZ{ns:List ByteArray}{x:ByteArray}(h:qu ns x=false):∀y∈ns,x≠y:=by
 intro y a e;unfold qu at h;rw[a3V]at h;exact h y a (by simp[e])
theorem EO{l:List Fl}{fs:List En}{f:Fl}(h:∃g∈l,g.p=f.p):∃g∈bG l fs,g.p=f.p:=by
 induction fs generalizing l with
 | nil=>exact h
 | cons e fs ih=>
  obtain⟨g,c,a⟩:=h;refine ih ?_;by_cases b:g.p=(enF e).p
  . exact⟨enF e,Du _ _,b▸a⟩
  . exact⟨g,uR c b,a⟩
theorem vA{T:List Fl}(c:eR T){f:Fl}(b:f∈T):∃k,k<T.length/\atI T f.p=(k:Int)/\T.getD k default=f:=by
 unfold atI;cases e:atF T f.p with
 | none=>exact absurd rfl (GE e f b)
 | some k=>
  obtain⟨a,h2⟩:=wL e;have e2:T.getD k default=T[k]:=by simp[List.getD,a]
  refine⟨k,a,rfl,?_⟩;rw[e2]at h2 ⊢;exact JI c (a1A _) b h2
theorem vq{s:ByteArray}{fs:List En}(h:bR s=some fs):fs.Pairwise fun a b=>a.n≠b.n:=by
 refine((Nz fs).1 (Mx h)).2.1.imp fun{a b} c e=>?_;unfold goes aZ at c;simp[e]at c
theorem BX{l:List Fl}{s:ByteArray}(h:(aY l s).2=0):∃fs,bR s=some fs/\fs.length<=6/\cH (aY l s).1=true/\(aY l s).1.length<=l.length+fs.length/\aY (aY l s).1 s=((aY l s).1,0) /\
  (∀e∈fs,∃k,k<(aY l s).1.length/\atI (aY l s).1 e.n=(k:Int)/\(aY l s).1.getD k default=enF e) /\
  (∀f∈l,∃k,k<(aY l s).1.length/\atI (aY l s).1 f.p=(k:Int)/\(qu (kP fs) f.p=false->(aY l s).1.getD k default=f))/\∀f∈(aY l s).1,jE f:=by
 obtain⟨fs,b,v,e,a,t⟩:=FZ h;rw[e];have j:=lQ a;refine⟨fs,b,(pF b).1,a,nK l fs,BW b a t (vq b),fun x m=>vA j (Dc (vq b) x m),fun f q=>?_,ni a⟩;by_cases r:qu (kP fs) f.p=false
 . have i:f∈bG l fs:=uC q fun x m=>KZ r x.n (a2S.2 ⟨x,m,rfl⟩);obtain⟨k,c,h2,o⟩:=vA j i;exact⟨k,c,h2,fun _=>o⟩
 . obtain⟨g,u,d⟩:=EO (fs:=fs) ⟨f,q,rfl⟩;obtain⟨k,c,h2,o⟩:=vA j u;exact⟨k,c,by rw[←d];exact h2,fun e=>absurd e r⟩
theorem FY{l:List Fl}{s:ByteArray}(h:(aY l s).2≠0):(aY l s).1=l∨(aY l s).1=[]:=by
 unfold aY at h ⊢
 split
 .
  split
  . exact .inl rfl
  .
   split
   . rename_i h1 h2 h3;rw[a0e h1,a0d h2,a0e h3]at h;exact absurd rfl h
   . exact .inl rfl
 . exact .inr rfl
theorem qt(a:Option Addr)(len cap:Nat)(zs:List Int)(m:Int)(w:World)(w0:Gr .u8 w a len cap zs)(hm:w.cell? ⟨2,0,none⟩=some (.int .i64 m))(hg:tr w)(hO:fP w) :
  CD 5 #[.slice a len cap] w (.bool true):=by
 obtain⟨⟨z,a1⟩,hc,V⟩:=Np w0;have b6:=af (oD a len cap z w a1 hc V);have CW:=af (fun W (hb:Below w.heap.size w W)=>a0b ((hb.cell (p:=⟨2,0,none⟩) (World.block_lt_of_cell? _ _ hm)).trans hm) (a0b (hg.later hb) (hO.later hb)));unfold maxLen at V;clear w0 a1 hm hg hO;by_cases hl:(len:Int)<=1048576
 .
  go_enter func5,ntmps5;go_wp2_with fail;refine(ae b6).mono ?_;rintro e w1 ⟨⟨v,l,S,rfl,h5,ho,hv,hT,dl⟩,f⟩;obtain⟨n,hn⟩:∃n,l.length=n:=⟨_,rfl⟩;obtain⟨g,tc,rfl,ed⟩:=jm hn ho hv;rw[hn]at h5;have D:=af f;have HN:=af hn;have a7:=af dl;have eh:=af hT;have a6:=af (fun W (b:Below w1.heap.size w1 W)=>aN.later ho b (a0a _));have F:=af (fun W (b:Below w1.heap.size w1 W)=>(fz hn ho).later b);have el:(n:Int)<=5:=by omega
  have ek:(n:Int)<=(tc:Int):=by omega
  have CI:=af (fun W (b:Below w1.heap.size w1 W)=>jo (some ⟨g,0,none⟩) tc n l S hn m W (ae F W b) (by omega) (by omega) (gg hT hn) (by omega) (ae CW W (am (ae D) b)).1 (ae CW W (am (ae D) b)).2.1 (ae CW W (am (ae D) b)).2.2);have CS:=af (fun W (b:Below w1.heap.size w1 W)=>pr (some ⟨g,0,none⟩) tc n _ l S hn W (ae a6 W b) (by omega) (gg hT hn) (by omega));have CO:=af (fun W (b:Below w1.heap.size w1 W)=>fC (some ⟨g,0,none⟩) tc l n hn m W (ae F W b) (by omega) (by omega) (gg hT hn) (ae CW W (am (ae D) b)).1);have CP:=af (fun W (b:Below w1.heap.size w1 W)=>fK (some ⟨g,0,none⟩) tc l n hn W (ae F W b) (by omega) (gg hT hn));have aa:=af (@BX l S);have Z:=af (@FY l S);have h8:=FX l S;obtain⟨T,hTe⟩:∃T,(aY l S).1=T:=⟨_,rfl⟩;obtain⟨c,hce⟩:∃c,(aY l S).2=c:=⟨_,rfl⟩;rw[hTe]at h8;rw[hTe,hce]at aa Z;have ab:=af (a0b hTe hce);obtain⟨t,ht⟩:∃t,T.length=t:=⟨_,rfl⟩;rw[ht]at h8;have r:=af ht;generalize cH l=tb at CO CP;clear f b6 V hc dl ho hv hT h5 hn hTe hce ht;go_wp2_with fail;have C2:=ae CI w1 (a0c _ _);rw[(ae ab).1,(ae ab).2]at C2;refine C2.mono ?_;rintro e w2 ⟨⟨v,rfl,b2⟩,G⟩;clear C2;obtain⟨xa,xc,rfl,eu,_⟩:=aN.formN (ae r) b2;have b4:=af G;have cm:=af b2;clear G b2;go_wp2_with fail;have C3:=ae CS w2 (ae b4);rw[(ae ab).1,(ae ab).2]at C3;refine C3.mono ?_;rintro e w3 ⟨⟨v,rfl,b3⟩,ba⟩;clear C3;obtain⟨ya,yc,rfl,_,_⟩:=aN.formN (ae r) b3;have o:=af (am (ae b4) ba);have co:=af (aN.later (ae cm) ba (a0a _));have a9:=af (fun W (b:Below w3.heap.size w3 W)=>(fz (ae r) b3).later b);have N:=af (fun W (b:Below w3.heap.size w3 W)=>(fz (ae r) (ae co)).later b);clear ba b3 cm co;go_wp2_with fail;refine(iL _ _ _ _ t T _ (ae r) (ae N _ (a0c _ _)) (ae a9 _ (a0c _ _)) (by omega)).mono ?_;rintro e w4 ⟨rfl,cs⟩;have a2:=af cs;clear cs;go_wp2_with fail;refine(ae CO _ (am (ae o) (ae a2))).mono ?_;rintro e w5 ⟨rfl,ct⟩;have a3:=af (am (ae a2) ct);clear ct;go_wp2_with fail;refine(ae CP _ (am (ae o) (ae a3))).mono ?_;rintro e w6 ⟨rfl,cu⟩;have u:=af (am (ae a3) cu);clear cu a2 a3;by_cases bb:c=0
  .
   subst bb;obtain⟨fs,hz,d6,dd,c5,cr,bc,bd,c8⟩:=ae aa rfl;obtain⟨q,hq⟩:∃q,fs.length=q:=⟨_,rfl⟩;rw[hq]at d6 c5;rw[ae HN,ae r]at c5;rw[ae r]at bc bd;have Hq:=af hq;have b7:Hid (∀k,k<q->∃I:Nat,I<t/\atI T (fs.getD k default).n=(I:Int)/\T.getD I default=enF (fs.getD k default)):=fun k hk=>bc _ (by simp[List.getD,show k<fs.length by omega]);have b8:Hid (∀k,k<n->∃I:Nat,I<t/\atI T (l.getD k default).p=(I:Int)/\(qu (kP fs) (l.getD k default).p=false->T.getD I default=l.getD k default)):=fun k hk=>bd _ (by have:=ae HN;simp[List.getD,show k<l.length by omega]);have d4:=af dd;have ds:=af cr;have ck:Hid (mq T t):=gg (fun e he=>by have:=c8 e he;unfold jE at this;omega) (ae r);have HG:Hid ((bR S).isSome=true/\(bR S).getD []=fs):=by rw[Hid,hz];exact⟨rfl,rfl⟩
   have cp:Hid ((kP fs).length=q):=by show _=_;unfold kP;rw[a1l];exact hq
   have em:(q:Int)<=6:=by omega
   have ep:(t:Int)<=8:=by omega
   have eg:(t:Int)<=(n:Int)+(q:Int):=by omega
   clear bc bd dd cr c8 hq hz CI CS CO CP a9 Z aa;have C:=af (fun W (b:Below w3.heap.size w3 W)=>ae CW W (am (ae D) (am (ae o) b)));go_wp2_with fail;refine(ir S m w6 (by have:=ae a7;omega) (ae C w6 (ae u)).1 (ae C w6 (ae u)).2.1 (ae C w6 (ae u)).2.2).mono ?_;rintro e w7 ⟨⟨v,rfl,al⟩,P⟩;rw[(ae HG).2]at al;rw[(ae HG).1];obtain⟨la,lc,rfl,_,_⟩:=aN.formN (ae Hq) al;have x:=af (am (ae u) P);have cc:=af (fun W (b:Below w7.heap.size w7 W)=>al.later b (a0a _));clear al P;go_wp2_with fail;refine(oN S m w7 (by have:=ae a7;omega) (ae C w7 (ae x)).1 (ae C w7 (ae x)).2.1 (ae C w7 (ae x)).2.2).mono ?_;rintro e w8 ⟨⟨v,rfl,an⟩,M⟩;rw[(ae HG).2]at an;obtain⟨na,nc,rfl,_,_⟩:=aN.formN (ae cp) an;have y:=af (am (ae x) M);have a5:=af (fun W (b:Below w8.heap.size w8 W)=>ae cc W (am M b));have d3:=af (fun W (b:Below w8.heap.size w8 W)=>an.later b (a0a _));have B:=af (fun W (b:Below w8.heap.size w8 W)=>ae N W (am (ae y) b));have ch:=af (fun W (b:Below w8.heap.size w8 W)=>ae a6 W (am (ae o) (am (ae y) b)));have Y:=af (fun W (b:Below w8.heap.size w8 W)=>ae C W (am (ae y) b));have dv:=af (fun W (b:Below w8.heap.size w8 W)=>am (ae D) (am (ae o) (am (ae y) b)));clear an M cc x u N a6 F C CW HG o y;go_wp2_with fail
   go_loopw [12,13] (fun i _ wr=>∃k:Nat,k<=q/\i = .int .i64 k/\Below w8.heap.size w8 wr) (fun i _ _=>q-(intOf i).toNat)
   case atStart=>exact⟨0,a0h _,rfl,a0c _ _⟩
   case round=>
    obtain⟨k,hk,rfl,cv⟩:=hrel;have J:=af cv;clear cv;by_cases ad:k<q
    .
     have c6:(k:Int)<(q:Int):=by omega
     have HK:=af ad;obtain⟨g1,rfl⟩:=aN.somes (ae a5 _ (a0c _ _)) (by rw[ae Hq];omega);obtain⟨c0,-⟩:=vL (ae Hq) (ae a5 _ (ae J)) k ad;obtain⟨I,U,O,R⟩:=ae b7 k ad;obtain⟨g2,o2,rfl,-,-⟩:=ae B _ (a0c _ _) (by rw[ae r];omega);have CA:=af (xd _ xc t T (fs.getD k default).n wr (ae r) (ae B wr (ae J)) (by omega));rw[O]at CA;have d7:(I:Int)<(t:Int):=by omega
     have a4:=af U;have L:=af R;clear ad hk O R U;go_wp2_with fail;refine(ae CA).mono ?_;rintro e x1 ⟨rfl,f⟩;have A:=af (am (ae J) f);obtain⟨_,_,_,_,_,_,_,c7⟩:=vL (ae Hq) (ae a5 _ (ae A)) k (ae HK);obtain⟨_,d1⟩:=lU.at (ae B _ (ae A)) I (by rw[ae r];exact ae a4);rw[ae L]at d1;have d2:x1.cell? ⟨g2,o2+I*2+1,none⟩=some (.string (fs.getD k default).t):=d1;clear d1 f c0 CA J L;generalize fs.getD k default=en at *
     go_wp2_with fail
     go_quiet (fail)
     go_wp2_with fail;go_roundw
     case rel=>exact⟨k+1,by have:=ae HK;omega,by go_num,below_drewN (ae A) _⟩
     case measure=>have:=ae HK;simp[intOf];omega
    .
     have c6:¬ (k:Int)<(q:Int):=by omega
     clear b7;go_wp2_with fail
     go_loopw [14,15] (fun i _ wr=>∃j:Nat,j<=n/\i = .int .i64 j/\Below w8.heap.size w8 wr) (fun i _ _=>n-(intOf i).toNat)
     case atStart=>exact⟨0,a0h _,rfl,ae J⟩
     case round=>
      obtain⟨j,hj,rfl,cy⟩:=hrel;have s:=af cy;clear cy J;by_cases H:j<n
      .
       have be:(j:Int)<(n:Int):=by omega
       have HK:=af H;obtain⟨b0,-⟩:=vR (ae HN) (ae ch _ (ae s)) j H;obtain⟨I,U,O,R⟩:=ae b8 j H;obtain⟨g2,o2,rfl,-,-⟩:=ae B _ (a0c _ _) (by rw[ae r];omega);have CA:=af (xd _ xc t T (l.getD j default).p _ (ae r) (ae B _ (ae s)) (by omega));rw[O]at CA;have d7:(I:Int)<(t:Int):=by omega
       have a4:=af U;have L:=af R;clear H hj O R U;go_wp2_with fail;refine(ae CA).mono ?_;rintro e x1 ⟨rfl,f⟩;have A:=af (am (ae s) f);clear f CA b0 s;obtain⟨b0,b1⟩:=vR (ae HN) (ae ch _ (ae A)) j (ae HK);obtain⟨d0,d1⟩:=lU.at (ae B _ (ae A)) I (by rw[ae r];exact ae a4);have q0:=cell_regrown b0;have q1:=cell_regrown b1;have qC:=fun d os=>Calls.regrown_of (w:=x1) (d:=d) (os:=os) ((D6 na nc q _ (kP fs) (l.getD j default).p _ (ae cp) (ae d3 _ (am (ae A) (below_regrown x1 d os))) (by omega)).mono fun _ _ h=>⟨h.1,by rw[h.2];exact a0c _ _⟩);have a0:prog.follows .mixedOrders=true:=by kernel_rfl
       cases hh:qu (kP fs) (l.getD j default).p
       .
        rw[ae L hh]at d0 d1;have q2:=cell_regrown d0;have q3:=cell_regrown d1;rw[hh]at qC;clear b0 b1 d0 d1 L hh;generalize l.getD j default=en at *
        go_wp2_with fail;refine wp_region_quiet_below a0 (by kernel_rfl) ?_
        iterate 9 (quiet_step (fail))
        quiet_step (exact qC _ _)
        iterate 13 (quiet_step (fail))
        refine a1p ?_;intro zw bs;obtain⟨⟨dq,osq⟩,X⟩:=bs;have HZ:=below_regrown x1 dq osq;rw[←X]at HZ;have T9:=af (am (ae A) HZ);clear X HZ q0 q1 q2 q3 qC;go_wp2_with fail;go_roundw
        case rel=>exact⟨j+1,by have:=ae HK;omega,by go_num,ae T9⟩
        case measure=>have:=ae HK;simp[intOf];omega
       .
        clear q0 d0 d1 L;have q0:=cell_regrown b0;obtain⟨hb,hhb⟩:∃hb:Bool,hb=true:=⟨_,rfl⟩;rw[hh,←hhb]at qC;have HH:=af hhb;clear b0 b1 hh hhb q1;generalize l.getD j default=en at *
        go_wp2_with fail;refine wp_region_quiet_below a0 (by kernel_rfl) ?_
        iterate 9 (quiet_step (fail))
        quiet_step (exact qC _ _)
        iterate 2 (quiet_step (fail))
        iterate 9 (refine wpQuiet_step (fun K hK=>?_);go_simp;rw[a0e (ae HH)];refine hK _ ?_;clear hK K)
        obtain rfl:hb=true:=ae HH
        iterate 2 (quiet_step (fail))
        refine a1p ?_;intro zw bs;obtain⟨⟨dq,osq⟩,X⟩:=bs;have HZ:=below_regrown x1 dq osq;rw[←X]at HZ;have T9:=af (am (ae A) HZ);clear X HZ q0 qC;go_wp2_with fail;go_roundw
        case rel=>exact⟨j+1,by have:=ae HK;omega,by go_num,ae T9⟩
        case measure=>have:=ae HK;simp[intOf];omega
      .
       have be:¬ (j:Int)<(n:Int):=by omega
       have C9:=jo xa xc t T S (ae r) m _ (ae B _ (ae s)) (by omega) (by omega) (ae ck) (by have:=ae a7;omega) (ae Y _ (ae s)).1 (ae Y _ (ae s)).2.1 (ae Y _ (ae s)).2.2;rw[ae ds]at C9;have b5:=af C9;clear C9 b8 hj hk;go_wp2_with fail;refine(ae b5).mono ?_;rintro e x9 ⟨⟨v,rfl,bk⟩,Q⟩;obtain⟨ya2,yc2,rfl,_,_⟩:=aN.formN (ae r) bk;have E:=af (am (ae s) Q);have d5:=af (fun W (b:Below x9.heap.size x9 W)=>(fz (ae r) bk).later b);clear bk Q b5 s;go_wp2_with fail;refine(fC xa xc T t (ae r) m x9 (ae B _ (ae E)) (by omega) (by omega) (ae ck) (ae Y _ (ae E)).1).mono ?_;rintro e y1 ⟨rfl,f⟩;rw[ae d4];have dz:=af f;have ao:=af (am (ae E) f);clear f;go_wp2_with fail;refine(iL _ _ _ _ t T _ (ae r) (ae d5 _ (ae dz)) (ae B _ (ae ao)) (by omega)).mono ?_;rintro e y2 ⟨rfl,G⟩;have HF:=af (ae dv _ (am (ae ao) G));clear G;go_wp2;go_ret;exact⟨rfl,ae HF⟩
  .
   have ei:(c == 0)=false:=by simpa using bb
   have HE:=af (ae Z bb);clear aa Z CI CS;go_wp2_with fail;refine(iL _ _ _ _ t T _ (ae r) (ae N _ (ae u)) (ae a9 _ (ae u)) (by omega)).mono ?_;rintro e w7 ⟨rfl,P⟩;have x:=af (am (ae u) P);clear P u;go_wp2_with fail;refine(ae CO _ (am (ae o) (ae x))).mono ?_;rintro e w8 ⟨rfl,M⟩;have y:=af (am (ae x) M);clear M x;go_wp2_with fail;refine(ae CP _ (am (ae o) (ae y))).mono ?_;rintro e w9 ⟨rfl,Q⟩;have E:=af (am (ae y) Q);clear Q y;by_cases ac:T=l
   .
    obtain rfl:t=n:=by rw[←ae r,ac,ae HN]
    have cg:=af (ae F _ (am (ae o) (ae E)));rw[←ac]at cg;go_wp2_with fail;refine(iL _ _ _ _ t T _ (ae r) (ae N _ (ae E)) (ae cg) (by omega)).mono ?_;rintro e y2 ⟨rfl,G⟩;have HF:=af (am (ae D) (am (ae o) (am (ae E) G)));clear G;go_wp2;go_ret;exact⟨rfl,ae HF⟩
   .
    have cq:T=[]:=(ae HE).resolve_left ac;obtain rfl:t=0:=by rw[←ae r,cq];rfl
    have d8:0≠n:=fun e=>ac (by rw[cq];exact(a1P ((ae HN).trans e.symm)).symm);have HF:=af (am (ae D) (am (ae o) (ae E)));go_wp2_with fail;refine(Au _ _ _ _ 0 n _ d8).mono ?_;rintro e y2 ⟨rfl,rfl⟩;go_wp2;go_ret;exact⟨rfl,ae HF⟩
 . go_enter func5,ntmps5;go_wp2;go_ret;exact⟨rfl,a0c _ _⟩
end Go.Proofs.YtkdlcomfpffhhaaGreatDoor
