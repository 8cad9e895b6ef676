/- Of what the proof is made: 5 texts, one behind the other. -/
import Derived.Test.YtlpmnnjlmjffpaaGreatDoorM35
import Derived.Test.YtlpmnnjlmjffpaaGreatDoorM26
import Derived.Test.YtlpmnnjlmjffpaaGreatDoorM20
import Derived.Test.YtlpmnnjlmjffpaaGreatDoorM31
import Derived.Test.YtlpmnnjlmjffpaaGreatDoorM33
set_option linter.unusedSimpArgs false
set_option linter.unusedVariables false
namespace Go.Proofs.YtlpmnnjlmjffpaaGreatDoor
open Go.RowKit Corb
variable {V p sz:Nat}{a:List Int}{l:List (Int×Int)}
theorem lq(l:List UInt8):(⟨l.toArray⟩:ByteArray).size=l.length:=by simp[ByteArray.size]
theorem Fb: ∀(L:List UInt8) (p:Nat) (R:List UInt8),Std V p (cW L++l)->p+8*L.length<=sz->R.length+L.length<=300->di V sz L.length p R=some (R++L,p+8*L.length):=by
 intro L;induction L with
 | nil=>intro p R _ _ _;simp[di]
 | cons b L ih=>
  intro p R h f d;rw[a0B]at f d ⊢;have e:cW (b :: L)++l=(((b.toNat:Nat):Int),(8:Int)) :: (cW L++l):=rfl;rw[e]at h;have c:=pS (sz:=sz) h (by show p+8<=sz;omega);simp only[a0l]at c;have a:rdN V sz p 8=some (b.toNat,p+8):=c;have hb:=b.toNat_lt;simp only[di];rw[a];simp only[a0f];rw[jT R b.toNat hb,a0e (by omega)];simp only[a0f];rw[xJ,ih (p+8) (R++[b]) h.2 (by omega) (by rw[a0m,a1z];omega)];simp only[a0H,List.singleton_append,a0k,a0O,a1T];omega
theorem GL{c:Nat}{L R:List UInt8}(g:(8-p%8)%8=c)(h:Std V p (((0:Int),(c:Int)) :: ((L.length:Int),(16:Int)) :: (((65535-L.length:Nat):Int),(16:Int)) :: (cW L++l)))(k:p+c+32+8*L.length<=sz)(f:R.length+L.length<=300) :
  dk V sz p R=some (R++L,p+c+32+8*L.length):=by
 have d:=h.1;have a:=h.2;have h2:=a.2;have e:=h2.2;simp only[a0l,Int.toNat_zero]at d a h2 e;unfold dk fk;rw[g,a0e d];simp only[a0f];have i:rdN V sz (p+c) 16=some (L.length,p+c+16):=pS (sz:=sz) a (by show p+c+16<=sz;omega);have j:rdN V sz (p+c+16) 16=some (65535-L.length,p+c+16+16):=pS (sz:=sz) h2 (by show p+c+16+16<=sz;omega);rw[i];simp only[a0f];rw[j];simp only[a0f,a0R];have b:Std V (p+c+16+16) (cW L++l):=e;rw[Fb L _ R b (by omega) f]
theorem nC{k:Nat}{T:List UInt8}{r:List UInt8×Nat}(h:Std V p (((1:Int),(1:Int)) :: ((k:Int),(2:Int)) :: l))(d:p+1+2<=sz)(a:fi V sz k (p+1+2) T=some r):fq V sz p T=some r:=by
 have b:rdN V sz p 1=some (1,p+1):=pS (sz:=sz) h (by show p+1<=sz;omega);have h2:=h.2;have c:rdN V sz (p+1) 2=some (k,p+1+2):=by
  have:=pS (sz:=sz) h2 (by show p+1+2<=sz;omega);simpa using this
 rw[lM,b];simp only[a0f];rw[c];simp only[a0f];rw[a];rfl
theorem KF{M:Nat}(h:V<2 ^ M):fk V M=some (M+(8-M%8)%8):=by
 unfold fk;rw[a11 h,Nat.zero_mod,a0e rfl]
theorem sr{P:List (Int×Int)}{T:List UInt8}(a:lOk P=true)(f:(cm P).length<=700)(e:fq (aX P).1 (8*(cm P).length) 0 []=some (T,(aX P).2)):bZ ⟨(cm P).toArray⟩=some (T,8*(cm P).length):=by
 have d:(cm P).length=((aX P).2+7)/8:=by unfold cm;exact ax _ _
 have c:=Lm a;rw[fy a]at c;have b:(aX P).1<2 ^ (aX P).2:=xq P (by unfold lOk at a;simp only[a0h]at a;exact a.1);unfold bZ eE;rw[a0e (by rw[lq];exact f)];have e1:ai ⟨(cm P).toArray⟩=(aX P).1:=by unfold ai;simpa using c
 have e2:(⟨(cm P).toArray⟩:ByteArray).size=(cm P).length:=lq _;rw[e1,e2,e];simp only[a0f];rw[KF b];simp only[a0f,a0k,a0O,a1T];rw[d];omega
theorem om{P:List (Int×Int)}(a:lOk P=true):bN P=(aX P).2/\bN P<=8*(cm P).length/\Std (aX P).1 0 P:=by
 have h:aY P=true:=by unfold lOk at a;simp only[a0h]at a;exact a.1
 have b:=GM h;have c:(cm P).length=((aX P).2+7)/8:=by unfold cm;exact ax _ _
 have h2:=Nh 0 h;rw[Nat.zero_mul,a1l]at h2;refine⟨b,?_,h2⟩;unfold bN;rw[b,c];omega
theorem Io(L:List UInt8):bN (cW L)=8*L.length:=by
 induction L with
 | nil=>rfl
 | cons b L ih=>
  have e:cW (b :: L)=(((b.toNat:Nat):Int),(8:Int)) :: cW L:=rfl;rw[e,eG,ih,a0B];simp only[Int.reduceToNat];omega
theorem vF(L:List UInt8)(h:L.length<=300):lOk (js L.length++cW L)=true:=by
 have a:=sw L.length (by omega);have h2:=nf L (by omega);unfold lOk at a h2 ⊢;simp only[a0h,a0o]at a h2 ⊢;rw[og,a.1,h2.1,a0m,ng];refine⟨rfl,?_⟩;have:(js L.length).length=5:=rfl;omega
theorem Ah(L:List UInt8)(h:L.length<=300):cm (js L.length++cW L)=jH L:=by
 rw[←fy (vF L h),GK L h];unfold jH;rw[a0e h]
theorem tL(L:List UInt8)(h:L.length<=300):(jH L).length=L.length+5:=by
 unfold jH;rw[a0e h,a0m,ax];omega
theorem ys(L:List UInt8)(h:L.length<=300):bZ ⟨(jH L).toArray⟩=some (L,8*(L.length+5)):=by
 have d:=vF L h;obtain⟨e,f,b⟩:=om d;have a:=tL L h;rw[←Ah L h]at a ⊢;rw[a]at f;have hb:bN (js L.length++cW L)=40+8*L.length:=by
  rw[dm,Io];rfl
 have:=sr (T:=L) d (by omega) (by
  rw[a,←e,hb];refine nC (k:=0) b (by omega) ?_;unfold fi;rw[a0e rfl];have g:=GL (R:=[]) (V:=(aX (js L.length++cW L)).1) (sz:=8*(L.length+5)) (p:=0+1+2) (c:=5) (L:=L) (l:=[]) (by decide) (by rw[a1k];exact b.2.2) (by omega) (by simpa using h);rw[g];simp only[a1i])
 rw[this,a]
theorem Mh:(List.range 288).all (fun i=>decide (0<(bT 288).getD i 0)&&decide ((bT 288).getD i 0<=9))=true:=by decide +kernel
theorem I5:(List.range 32).all (fun i=>decide (iQ.getD i 0=5))=true:=by decide +kernel
theorem BI{i:Nat}(h:i<288):0<(bT 288).getD i 0/\(bT 288).getD i 0<=9:=by
 have:=a05.1 Mh i (List.mem_range.2 h);simpa using this
theorem DW{i:Nat}(h:i<32):iQ.getD i 0=5:=by
 have:=a05.1 I5 i (List.mem_range.2 h);simpa using this
theorem Ju{t:Tk}(a:okT t=true):BP (bT 288) iQ t:=by
 have:=mw a;unfold jp at this;unfold BP
 split
 .
  rename_i hB;rw[a0e hB]at this;have l1:(bT 288).length=288:=by decide +kernel
  exact(BI (by omega)).1
 .
  rename_i hB;rw[a0d hB]at this;have l1:(bT 288).length=288:=by decide +kernel
  have l2:iQ.length=32:=by decide +kernel
  refine⟨(BI (by omega)).1,?_⟩;rw[DW (by omega)];omega
theorem I9:(List.range 61).all (fun y=>decide (y<3) || decide (((bT 288).getD (257+fnd 3 4 y 27) 0).toNat+(stF 3 4 (fnd 3 4 y 27)).2+11<=9*y))=true:=by decide +kernel
theorem I7:(List.range 251).all (fun y=>decide (y<1) || decide ((stF 1 2 (fnd 1 2 y 29)).2<=6))=true:=by decide +kernel
theorem I8{t:Tk}(d:okT t=true):bN (ci (bT 288) iQ t)<=9*(if isB t then 1 else t.2.1.toNat):=by
 obtain⟨y,lo,b⟩:=t;unfold ci;by_cases a:isB (y,lo,b)=true
 .
  rw[a0e a,a0e a,eG,jA,lr];have hb:0<=y/\y<=255:=by unfold isB inB at a;simp only[a0h,a0o]at a;omega
  have:=BI (i:=y.toNat) (by omega);show((bT 288).getD y.toNat 0).toNat+0<=9*1;omega
 .
  rw[a0d a,a0d a];have c:isK (y,lo,b)=true:=by unfold okT at d;simpa[a]using d
  have hb:y=0/\3<=lo/\lo<=60/\1<=b/\b<=250:=by unfold isK inB at c;simp only[a0h,a0o]at c;omega
  obtain⟨rfl,e,f,h,j⟩:=hb;obtain⟨x,rfl⟩:=a0r (show 0<=lo by omega);obtain⟨z,rfl⟩:=a0r (show 0<=b by omega);have f1:=a05.1 I9 x (List.mem_range.2 (by omega));have f2:=a05.1 I7 z (List.mem_range.2 (by omega));simp only[a1B,a0o]at f1 f2;have g:=DW (i:=fnd 1 2 z 29) (by have:=iM 1 2 z 29;omega);simp only[eG,jA,lr,a0l];rw[g];omega
theorem Mi{L:List UInt8} : ∀(n p:Nat),L.length-p<=n->bN ((cG L p).flatMap (ci (bT 288) iQ))<=9*(L.length-p):=by
 intro n;induction n with
 | zero=>
  intro p h;rw[fe (by omega)];exact a0g _
 | succ n ih=>
  intro p h;by_cases d:p<L.length
  .
   have a:=vQ L L.length p (by omega);rw[jb d]at a ⊢;have e:=I8 (a (mT L p) (by simp));have g:=gW L p;have i:=rJ d;have j:=ih (p+jl L p) (by omega);have f:(if isB (mT L p)then 1 else(mT L p).2.1.toNat)=jl L p:=by
    unfold mT jl;by_cases b:(br L p (min p 250)).1<3
    .
     have c:isB ((((L.getD p 0).toNat:Nat):Int),0,0)=true:=by
      have:=(L.getD p 0).toNat_lt;generalize (L.getD p 0).toNat=y at *
      unfold isB inB;simp;omega
     rw[a0e b,a0e b,c];rfl
    .
     have c:isB (0,((br L p (min p 250)).1:Int),((br L p (min p 250)).2:Int))=false:=by
      unfold isB;simp;omega
     rw[a0d b,a0d b,c];simp
   rw[f]at e;rw[a07,dm];omega
  . rw[fe d];exact a0g _
theorem uO(s:ByteArray):bN (kz s)=1+2+bN ((cG s.data.toList 0).flatMap (ci (bT 288) iQ))+7:=by
 unfold kz;rw[dm,dm];have e1:bN [((1:Int),(1:Int)),((1:Int),(2:Int))]=3:=rfl;have e2:bN [pcM (bT 288) 256]=7:=by
  rw[eG,jA,lr];decide +kernel
 rw[e1,e2];omega
theorem sM(s:ByteArray)(h:s.size<=300):(fp s).length<=340/\2<=(fp s).length:=by
 have b:=wF s h;obtain⟨a,d,f⟩:=om b;have e:=uO s;have e2:=Mi (L:=s.data.toList) s.data.toList.length 0 (by omega);have e3:s.data.toList.length=s.size:=by simp
 have c:(fp s).length=((aX (kz s)).2+7)/8:=by unfold fp cm;exact ax _ _
 rw[c,←a,e];omega
theorem yr(s:ByteArray)(h:s.size<=300):bZ ⟨(fp s).toArray⟩=some (s.data.toList,8*(fp s).length):=by
 have f:=wF s h;obtain⟨g,i,d⟩:=om f;have m:=(sM s h).1;have e:=uO s;have e3:s.data.toList.length=s.size:=by simp
 have b:(bT 288).getD 256 0=7:=by decide +kernel
 refine sr f (show(fp s).length<=700 by omega) ?_;have j:bN (kz s)<=8*(fp s).length:=i;show fq (aX (kz s)).1 (8*(fp s).length) 0 []=some (s.data.toList,(aX (kz s)).2);refine nC (k:=1) d (by omega) ?_;unfold fi BH;rw[a0d (by decide),a0e rfl];have a:=EE (L:=bT 288) (D:=iQ) j6 oA (V:=(aX (kz s)).1) (sz:=8*(fp s).length) (by rw[b];omega) (l:=[]) (cG s.data.toList 0) (0+1+2) [] s.data.toList (fun t a=>⟨gh s t a,Ju (gh s t a)⟩) d.2.2 (by rw[b];simp only[Int.reduceToNat];omega) (tX (by omega));rw[b]at a;simp only[Int.reduceToNat]at a;have c:gp (aX (kz s)).1 (8*(fp s).length) (bT 288) (List.replicate 32 5) (0+1+2) []=_:=a;rw[c,←g,e]
theorem Oa(s:ByteArray)(h:s.size<=300):bZ (byS s)=some (s.data.toList,8*(byS s).size)/\(byS s).size=s.size+5:=by
 have b:s.data.toList.length=s.size:=jy s;have a:=ys s.data.toList (by omega);have h2:=tL s.data.toList (by omega);unfold byS;rw[lq,a,h2,b];exact⟨rfl,rfl⟩
theorem N8(s:ByteArray)(h:s.size<=300):bZ (byF s)=some (s.data.toList,8*(byF s).size)/\2<=(byF s).size/\(byF s).size<=340:=by
 have a:=yr s h;have h2:=sM s h;unfold byF sq;rw[a0e h,lq,a];exact⟨rfl,h2.2,h2.1⟩
theorem wW{r:List Int}(c:r.length=a.length)(h:∀j,j<a.length->r.getD j 0=a.getD j 0):r=a:=by
 apply a2H c;intro j b h2;have:=h j h2;simpa[List.getD,b,h2]using this
theorem Ox: ∀(is:List Nat) (p:Nat) (r:List Int),Std V p (is.map (fun i=>(a.getD i 0,(3:Int)))++l)->(∀i∈is,0<=a.getD i 0/\i<r.length)->∀j,(lbV V is p r).getD j 0=if j∈is then a.getD j 0 else r.getD j 0:=by
 intro is;induction is with
 | nil=>intro p r _ _ j;simp[lbV]
 | cons i is ih=>
  intro p r h c j;rw[a0E,a12]at h;have d:V/2 ^ p%2 ^ 3=(a.getD i 0).toNat:=h.1;have h2:=h.2;obtain⟨i1,i2⟩:=c i (by simp);simp only[lbV];rw[d,a3d i1,ih (p+3) _ h2 (fun k f=>by rw[a1I];exact c k (by simp[f])) j];by_cases b:j∈is
  . rw[a0e b,a0e (by simp[b])]
  .
   rw[a0d b];by_cases e:j=i
   . subst e;rw[a0e (by simp)];simp[List.getD,i2]
   . rw[a0d (by simp[b,e])];simp[List.getD,Ne.symm e]
theorem Oy(f:a.length=19)(e:∀i,i<19->0<=a.getD i 0)(h:Std V p (bp.map (fun i=>(a.getD i 0,(3:Int)))++l)):lbV V bp p (List.replicate 19 0)=a:=by
 have b:∀i∈bp,i<19:=by decide
 have c:∀i,i<19->i∈bp:=by decide
 have g:=Ox (a:=a) bp p (List.replicate 19 0) h (fun i d=>⟨e i (b i d),by rw[a0z];exact b i d⟩);have k:(lbV V bp p (List.replicate 19 0)).length=19:=by rw[Mv,a0z]
 exact wW (by rw[k,f]) (fun j m=>by rw[g j,a0e (c j (by omega))])
theorem OA{B:List Int}(b:av B=true) : ∀(A R:List Int) (p:Nat),(∀x∈A,0<=x/\x<=15/\0<B.getD x.toNat 0)->Std V p (A.map (fun x=>pcM B x.toNat)++l)->p+bN (A.map (fun x=>pcM B x.toNat))<=sz->lnG V sz B (R.length+A.length) p R=some (R++A,p+bN (A.map (fun x=>pcM B x.toNat))):=by
 intro A;induction A with
 | nil=>
  intro R p _ _ a;rw[a2i,jA,a1l]at a;rw[tf a (by simp),a0e (by simp),a1k,a2i,jA,a1l]
 | cons x A ih=>
  intro R p c h a;rw[a0E,eG,lr]at a ⊢;rw[a0E,a12]at h;obtain⟨a1,a2,a3⟩:=c x (by simp);rw[a0B,te (by omega) (by omega),ow b a3 h (by omega)];simp only[a0f];have e:dt V sz R ((x.toNat:Nat):Int) (p+(B.getD x.toNat 0).toNat)=some (R++[x],p+(B.getD x.toNat 0).toNat):=by
   rw[a3d a1];unfold dt;rw[a0d (by omega),a0d (by omega),a0d (by omega)]
  rw[e];simp only[a0f];have:=ih (R++[x]) (p+(B.getD x.toNat 0).toNat) (fun y d=>c y (by simp[d])) h.2 (by omega);rw[a0m,a1z]at this;rw[show R.length+(A.length+1)=R.length+1+A.length by omega,this];simp only[a0H,List.singleton_append,a0k,a0O,a1T];omega
theorem pm(a:List Int)(is:List Nat):bN (is.map (fun i=>(a.getD i 0,(3:Int))))=3*is.length:=by
 induction is with
 | nil=>rfl
 | cons i is ih=>
  rw[a0E,eG,ih,a0B];simp only[Int.reduceToNat];omega
theorem JC{L D:List Int}(r:av L=true)(q:av D=true)(l0:257<=L.length)(l1:L.length<=286)(y:1<=D.length)(z:D.length<=30)(h:Std V p (dT L D++l))(u:p+bN (dT L D)<=sz) :
  gq V sz p=some (L.length,L++D,p+bN (dT L D)):=by
 have g:∀x∈L++D,0<=x/\x<=15:=by
  intro x f;rcases a1b.1 f with h|h
  . exact mB r x h
  . exact mB q x h
 have j:(L++D).length=L.length+D.length:=a0m;obtain⟨v,s,w⟩:=wV (L++D) (by omega) (by omega) g;have b:=FW (L++D) (by omega) (by omega) g;have e:dT L D++l=((L.length:Int)-257,(5:Int)) :: ((D.length:Int)-1,(5:Int)) :: ((15:Int),(4:Int)) :: (bp.map (fun i=>((bl (L++D)).getD i 0,(3:Int)))++((L++D).map (fun x=>pcM (bl (L++D)) x.toNat)++l)):=by
  unfold dT;simp only[a12,a1i,a0H]
 have eb:bN (dT L D)=5+5+4+3*19+bN ((L++D).map (fun x=>pcM (bl (L++D)) x.toNat)):=by
  unfold dT;rw[dm,dm,pm];have e1:bN [((L.length:Int)-257,(5:Int)),((D.length:Int)-1,(5:Int)),((15:Int),(4:Int))]=14:=rfl;have e2:bp.length=19:=rfl;rw[e1,e2];omega
 rw[e]at h;rw[eb]at u ⊢;generalize A:bl (L++D)=B at *
 have x1:V/2 ^ p%2 ^ 5=L.length-257:=by have:=h.1;simp only[Int.reduceToNat]at this;omega
 have h2:Std V (p+5) _:=h.2;have x2:V/2 ^ (p+5)%2 ^ 5=D.length-1:=by have:=h2.1;simp only[Int.reduceToNat]at this;omega
 have m:Std V (p+5+5) _:=h2.2;have x3:V/2 ^ (p+5+5)%2 ^ 4=15:=by have:=m.1;simp only[Int.reduceToNat]at this;exact this
 have n:Std V (p+5+5+4) _:=m.2;have k:=Oy (a:=B) v (fun i t=>(w i t).1) n;have o:=(nN.1 n).2;rw[pm,show bp.length=19 from rfl]at o;have c:lbV V (bp.take (15+4)) (p+5+5+4) (List.replicate 19 0)=B:=by
  rw[show bp.take (15+4)=bp from rfl];exact k
 rw[y7 (by omega) x1 x2 x3 c,a0e ⟨by omega,s,by omega,by omega⟩];have d:=OA s (sz:=sz) (L++D) [] (p+5+5+4+3*(15+4)) (fun x f=>⟨(g x f).1,(g x f).2,b x f⟩) o (by omega);rw[a0Q,a0J,j,a1i]at d;rw[show L.length-257+257+(D.length-1+1)=L.length+D.length by omega,show L.length-257+257=L.length by omega,d];simp only[a0f];rw[a3q,a3j,a0e ⟨r,q⟩]
 . simp only[a0k,a0O,a1T];omega
 . rfl
 . rfl
theorem Km(T:List Tk)(c:T.length<=300)(b:∀t∈T,okT t=true)(t:Tk)(d:t∈T):BP (de T) (dS T) t:=by
 obtain⟨a,h2⟩:=Es T c b t d;unfold kM at a;unfold fV at h2;unfold BP
 split
 . rename_i h;rw[a0e h]at a;exact a
 . rename_i h;rw[a0d h]at a h2;exact⟨a,h2 _ (by simp)⟩
theorem vv(T:List Tk):bN (kO T)=1+2+bN (dT (de T) (dS T))+bN (T.flatMap (ci (de T) (dS T)))+((de T).getD 256 0).toNat:=by
 unfold kO;rw[dm,dm,dm,eG (pcM (de T) 256),jA,lr];have e1:bN [((1:Int),(1:Int)),((2:Int),(2:Int))]=3:=rfl;rw[e1];omega
theorem Kj(s:ByteArray)(h:s.size<=300):9<=(pN s).length:=by
 have c:=jc s h;have b:=xe (cG s.data.toList 0) c (gh s);obtain⟨a,f,g⟩:=om b;have e:=vv (cG s.data.toList 0);have d:(pN s).length=((aX (kO (cG s.data.toList 0))).2+7)/8:=by unfold pN cm;exact ax _ _
 have eb:71<=bN (dT (de (cG s.data.toList 0)) (dS (cG s.data.toList 0))):=by
  unfold dT;rw[dm,dm,pm];have e2:bp.length=19:=rfl;rw[e2,eG,eG,eG];simp only[Int.reduceToNat];omega
 rw[d,←a,e];omega
theorem Fu(s:ByteArray)(h:s.size<=300)(g:(pN s).length<=700):bZ ⟨(pN s).toArray⟩=some (s.data.toList,8*(pN s).length):=by
 have a:=jc s h;have b:=gh s;have e3:s.data.toList.length=s.size:=by simp
 have o:=tX (L:=s.data.toList) (by omega);unfold pN at g ⊢;generalize cG s.data.toList 0=T at *
 have d:=xe T a b;obtain⟨i,p,c⟩:=om d;have e:=vv T;refine sr d g ?_;generalize 8*(cm (kO T)).length=sz at *
 generalize (aX (kO T)).1=V at *
 obtain⟨l0,l1⟩:=oN T a;obtain⟨j,m⟩:=oM T a;have n:=zL T a 256 (.inl rfl) (by omega);refine nC (k:=2) c (by omega) ?_;have s3:Std V (0+1+2) (dT (de T) (dS T)++(T.flatMap (ci (de T) (dS T))++[pcM (de T) 256])):=c.2.2;unfold fi;rw[a0d (by decide),a0d (by decide),a0e rfl,vu,JC (iz T a) (jv T a) l0 l1 j m s3 (by omega)];simp only[a0f];rw[a3q,a3j]
 . have s4:=(nN.1 s3).2;rw[EE (iz T a) (jv T a) n (l:=[]) T _ [] s.data.toList (fun t f=>⟨b t f,Km T a b t f⟩) s4 (by omega) o,←i,e]
 . rfl
 . rfl
theorem N9(s:ByteArray)(h:s.size<=300):((byO s).size<=700->bZ (byO s)=some (s.data.toList,8*(byO s).size))/\2<=(byO s).size:=by
 have h2:=Kj s h;unfold byO tw;rw[a0e h,lq];exact⟨fun a=>Fu s h a,by omega⟩
theorem BJ(s:ByteArray)(h:s.size<=300):bZ (c9 s)=some (s.data.toList,8*(c9 s).size)/\(c9 s).size<=s.size+5/\2<=(c9 s).size/\(c9 s).size<=(byS s).size/\(c9 s).size<=(byF s).size/\(c9 s).size<=(byO s).size/\(c9 s=byS s∨c9 s=byF s∨c9 s=byO s):=by
 obtain⟨a1,a2⟩:=Oa s h;obtain⟨a,b,c⟩:=N8 s h;obtain⟨c1,c2⟩:=N9 s h;unfold c9;by_cases e1:(byF s).size<(byS s).size
 .
  rw[gE e1];by_cases e2:(byO s).size<(byF s).size
  . rw[gE e2];exact⟨c1 (by omega),by omega,c2,by omega,by omega,a0a _,.inr (.inr rfl)⟩
  . rw[iF e2];exact⟨a,by omega,b,by omega,a0a _,by omega,.inr (.inl rfl)⟩
 .
  rw[iF e1];by_cases e2:(byO s).size<(byS s).size
  . rw[gE e2];exact⟨c1 (by omega),by omega,c2,by omega,by omega,a0a _,.inr (.inr rfl)⟩
  . rw[iF e2];exact⟨a1,by omega,by omega,a0a _,by omega,by omega,.inl rfl⟩
end Go.Proofs.YtlpmnnjlmjffpaaGreatDoor
