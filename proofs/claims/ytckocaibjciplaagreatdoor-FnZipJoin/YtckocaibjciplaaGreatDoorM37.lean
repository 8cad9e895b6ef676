/- Texts. -/
import Derived.Deep.Strs
import Derived.ShutString
import Derived.Test.YtckocaibjciplaaGreatDoorM36
import Derived.Test.YtckocaibjciplaaGreatDoorM33
set_option linter.all false
namespace Go.Proofs.YtckocaibjciplaaGreatDoor
open Go.RowKit Go.Deep Go.ChangeShapes Go.WideShapes
def Tryz.et:Tryz.prog.globalNamed "errors.errorType" = some 0:=by kernel_rfl
def Tryz.rtt:(Tryz.prog.cutTypes.find? (·.1 == "internal/reflectlite.rtype")).map (·.2)=some 170:=by kernel_rfl
def Tryz.tsize:∃n,Tryz.prog.types.size=n/\((List.range n).filter fun t=>Tryz.prog.rowNamed t [101,114,114,111,114])=[54]:=⟨_,rfl,by kernel_rfl⟩
def OM{laid:List (String×DataW Unit)}{W:World}(h:laidMetH Tryz.prog laid W)
  (hm:("errors.errorType",(DataW.iface "internal/reflectlite.rtype" (.agg [.ptr (.lit (.string [101,114,114,111,114]))]):DataW Unit))∈laid.filter fun x=>x.2.handleName?.isSome):oC W:=by
 have h':handlesMet Tryz.prog (laid.filter fun x=>x.2.handleName?.isSome) W:=by
  unfold laidMetH at h;generalize (laid.filter fun x=>x.2.handleName?.isSome)=fl at *
  cases fl with
  | nil=>cases hm
  | cons a r=>exact h.2
 obtain⟨name,u,ty,e1,e2,e3,e4,e5⟩:=h' _ hm;have en:name=[101,114,114,111,114]:=(a1s e1).symm;subst en;obtain rfl:=a1s (Tryz.rtt.symm.trans e2);obtain⟨n,hn,hone⟩:=Tryz.tsize;have hmm:ty∈(List.range n).filter fun t=>Tryz.prog.rowNamed t [101,114,114,111,114]:=List.mem_filter.2 ⟨List.mem_range.2 (by rw[←hn];exact e3),e4⟩;rw[hone]at hmm;obtain rfl:=a06.1 hmm;have hh:typeHandle Tryz.prog 54 = .pointer (some ⟨5,54,none⟩):=by kernel_rfl
 rw[hh]at e5;unfold oC;simpa using World.var?_cell Tryz.et e5 0
def zd{P:Program}{w0:World}{laid:List (String×DataW Unit)}(args:Array Value)(b:w0.layFits P laid []=true)(c:w0.layIfaces P laid (w0.layVars P laid)=true) :
  laidMet P laid ((w0.layVars P laid).forCall (fun _ _=>0) ⟨#[],args,[]⟩).memory:=by
 have e1:(laid.filter fun x=>(laid.map (·.1)).contains x.1)=laid:=List.filter_eq_self.2 fun x a=>List.contains_iff_mem.2 (a2K.2 ⟨x,a,rfl⟩);have e2:(laid.filter fun x=>!(laid.map (·.1)).contains x.1)=[]:=List.filter_eq_nil_iff.2 fun x a=>by rw[List.contains_iff_mem.2 (a2K.2 ⟨x,a,rfl⟩)];simp
 have h:laidMet P laid (w0.layVars P laid):=laidMet_layVars (w0:=w0) (laid.map (·.1)) [] (by rw[e1]) (by rw[e1];exact b) (by rw[e1];exact c) (by rw[e2];exact LaidIn.none);exact h.of_heap (by simp[World.memory,World.forCall,Input.heap])
end Go.Proofs.YtckocaibjciplaaGreatDoor
namespace Go.Proofs.YtckocaibjciplaaGreatDoor
open Go.RowKit Corb
variable {V p sz:Nat}{a:List Int}{l:List (Int×Int)}
def mu(l:List UInt8):(⟨l.toArray⟩:ByteArray).size=l.length:=by simp[ByteArray.size]
def H5: ∀(L:List UInt8) (p:Nat) (R:List UInt8),Std V p (bQ L++l)->p+8*L.length<=sz->R.length+L.length<=300->dA V sz L.length p R=some (R++L,p+8*L.length):=by
 intro L;induction L with
 | nil=>intro p R _ _ _;simp[dA]
 | cons b L ih=>
  intro p R h f d;rw[a0B]at f d ⊢;have e:bQ (b :: L)++l=(((b.toNat:Nat):Int),(8:Int)) :: (bQ L++l):=rfl;rw[e]at h;have c:=rE (sz:=sz) h (by show p+8<=sz;omega);simp only[a0o]at c;have a:rdN V sz p 8=some (b.toNat,p+8):=c;have hb:=b.toNat_lt;simp only[dA];rw[a];simp only[a0f];rw[li R b.toNat hb,a0d (by omega)];simp only[a0f];rw[Ad,ih (p+8) (R++[b]) h.2 (by omega) (by rw[a0i,a1j];omega)];simp only[a0K,List.singleton_append,a0j,a0R,a1t];omega
def JJ{c:Nat}{L R:List UInt8}(g:(8-p%8)%8=c)(h:Std V p (((0:Int),(c:Int)) :: ((L.length:Int),(16:Int)) :: (((65535-L.length:Nat):Int),(16:Int)) :: (bQ L++l)))(k:p+c+32+8*L.length<=sz)(f:R.length+L.length<=300) :
  dC V sz p R=some (R++L,p+c+32+8*L.length):=by
 have d:=h.1;have a:=h.2;have h2:=a.2;have e:=h2.2;simp only[a0o,Int.toNat_zero]at d a h2 e;unfold dC fR;rw[g,a0d d];simp only[a0f];have i:rdN V sz (p+c) 16=some (L.length,p+c+16):=rE (sz:=sz) a (by show p+c+16<=sz;omega);have j:rdN V sz (p+c+16) 16=some (65535-L.length,p+c+16+16):=rE (sz:=sz) h2 (by show p+c+16+16<=sz;omega);rw[i];simp only[a0f];rw[j];simp only[a0f,a0V];have b:Std V (p+c+16+16) (bQ L++l):=e;rw[H5 L _ R b (by omega) f]
def oV{k:Nat}{T:List UInt8}{r:List UInt8×Nat}(h:Std V p (((1:Int),(1:Int)) :: ((k:Int),(2:Int)) :: l))(d:p+1+2<=sz)(a:fO V sz k (p+1+2) T=some r):fU V sz p T=some r:=by
 have b:rdN V sz p 1=some (1,p+1):=rE (sz:=sz) h (by show p+1<=sz;omega);have h2:=h.2;have c:rdN V sz (p+1) 2=some (k,p+1+2):=by
  have:=rE (sz:=sz) h2 (by show p+1+2<=sz;omega);simpa using this
 rw[mX,b];simp only[a0f];rw[c];simp only[a0f];rw[a];rfl
def Nj{M:Nat}(h:V<2 ^ M):fR V M=some (M+(8-M%8)%8):=by
 unfold fR;rw[a1U h,Nat.zero_mod,a0d rfl]
def uj{P:List (Int×Int)}{T:List UInt8}(a:lOk P=true)(f:(cq P).length<=700)(e:fU (aU P).1 (8*(cq P).length) 0 []=some (T,(aU P).2)):cF ⟨(cq P).toArray⟩=some (T,8*(cq P).length):=by
 have d:(cq P).length=((aU P).2+7)/8:=by unfold cq;exact az _ _
 have c:=NW a;rw[dJ a]at c;have b:(aU P).1<2 ^ (aU P).2:=zL P (by unfold lOk at a;simp only[a0k]at a;exact a.1);unfold cF fu;rw[a0d (by rw[mu];exact f)];have e1:ak ⟨(cq P).toArray⟩=(aU P).1:=by unfold ak;simpa using c
 have e2:(⟨(cq P).toArray⟩:ByteArray).size=(cq P).length:=mu _;rw[e1,e2,e];simp only[a0f];rw[Nj b];simp only[a0f,a0j,a0R,a1t];rw[d];omega
def pz{P:List (Int×Int)}(a:lOk P=true):bN P=(aU P).2/\bN P<=8*(cq P).length/\Std (aU P).1 0 P:=by
 have h:aY P=true:=by unfold lOk at a;simp only[a0k]at a;exact a.1
 have b:=JK h;have c:(cq P).length=((aU P).2+7)/8:=by unfold cq;exact az _ _
 have h2:=P4 0 h;rw[Nat.zero_mul,a1c]at h2;refine⟨b,?_,h2⟩;unfold bN;rw[b,c];omega
def KD(L:List UInt8):bN (bQ L)=8*L.length:=by
 induction L with
 | nil=>rfl
 | cons b L ih=>
  have e:bQ (b :: L)=(((b.toNat:Nat):Int),(8:Int)) :: bQ L:=rfl;rw[e,fx,ih,a0B];simp only[Int.reduceToNat];omega
def xQ(L:List UInt8)(h:L.length<=300):lOk (eT L.length++bQ L)=true:=by
 have a:=un L.length (by omega);have h2:=oJ L (by omega);unfold lOk at a h2 ⊢;simp only[a0k,a0t]at a h2 ⊢;rw[px,a.1,h2.1,a0i,lE];refine⟨rfl,?_⟩;have:(eT L.length).length=5:=rfl;omega
def De(L:List UInt8)(h:L.length<=300):cq (eT L.length++bQ L)=fW L:=by
 rw[←dJ (xQ L h),xR L h];unfold fW;rw[a0d h]
def vS(L:List UInt8)(h:L.length<=300):(fW L).length=L.length+5:=by
 unfold fW;rw[a0d h,a0i,az];omega
def AP(L:List UInt8)(h:L.length<=300):cF ⟨(fW L).toArray⟩=some (L,8*(L.length+5)):=by
 have d:=xQ L h;obtain⟨e,f,b⟩:=pz d;have a:=vS L h;rw[←De L h]at a ⊢;rw[a]at f;have hb:bN (eT L.length++bQ L)=40+8*L.length:=by
  rw[dE,KD];rfl
 have:=uj (T:=L) d (by omega) (by
  rw[a,←e,hb];refine oV (k:=0) b (by omega) ?_;unfold fO;rw[a0d rfl];have g:=JJ (R:=[]) (V:=(aU (eT L.length++bQ L)).1) (sz:=8*(L.length+5)) (p:=0+1+2) (c:=5) (L:=L) (l:=[]) (by decide) (by rw[a05];exact b.2.2) (by omega) (by simpa using h);rw[g];simp only[a08])
 rw[this,a]
def OR:(List.range 288).all (fun i=>decide (0<(bV 288).getD i 0)&&decide ((bV 288).getD i 0<=9))=true:=by decide +kernel
def Lv:(List.range 32).all (fun i=>decide (ii.getD i 0=5))=true:=by decide +kernel
def Ev{i:Nat}(h:i<288):0<(bV 288).getD i 0/\(bV 288).getD i 0<=9:=by
 have:=a1b.1 OR i (List.mem_range.2 h);simpa using this
def Gj{i:Nat}(h:i<32):ii.getD i 0=5:=by
 have:=a1b.1 Lv i (List.mem_range.2 h);simpa using this
def Ma{t:Tk}(a:okT t=true):ED (bV 288) ii t:=by
 have:=jG a;unfold ge at this;unfold ED
 split
 .
  rename_i hB;rw[a0d hB]at this;have l1:(bV 288).length=288:=by decide +kernel
  exact(Ev (by omega)).1
 .
  rename_i hB;rw[a0e hB]at this;have l1:(bV 288).length=288:=by decide +kernel
  have l2:ii.length=32:=by decide +kernel
  refine⟨(Ev (by omega)).1,?_⟩;rw[Gj (by omega)];omega
def Lz:(List.range 61).all (fun y=>decide (y<3) || decide (((bV 288).getD (257+fnd 3 4 y 27) 0).toNat+(stF 3 4 (fnd 3 4 y 27)).2+11<=9*y))=true:=by decide +kernel
def Lx:(List.range 251).all (fun y=>decide (y<1) || decide ((stF 1 2 (fnd 1 2 y 29)).2<=6))=true:=by decide +kernel
def Ly{t:Tk}(d:okT t=true):bN (cH (bV 288) ii t)<=9*(if isB t then 1 else t.2.1.toNat):=by
 obtain⟨y,lo,b⟩:=t;unfold cH;by_cases a:isB (y,lo,b)=true
 .
  rw[a0d a,a0d a,fx,kI,mw];have hb:0<=y/\y<=255:=by unfold isB inB at a;simp only[a0k,a0t]at a;omega
  have:=Ev (i:=y.toNat) (by omega);show((bV 288).getD y.toNat 0).toNat+0<=9*1;omega
 .
  rw[a0e a,a0e a];have c:isK (y,lo,b)=true:=by unfold okT at d;simpa[a]using d
  have hb:y=0/\3<=lo/\lo<=60/\1<=b/\b<=250:=by unfold isK inB at c;simp only[a0k,a0t]at c;omega
  obtain⟨rfl,e,f,h,j⟩:=hb;obtain⟨x,rfl⟩:=a0p (show 0<=lo by omega);obtain⟨z,rfl⟩:=a0p (show 0<=b by omega);have f1:=a1b.1 Lz x (List.mem_range.2 (by omega));have f2:=a1b.1 Lx z (List.mem_range.2 (by omega));simp only[a1k,a0t]at f1 f2;have g:=Gj (i:=fnd 1 2 z 29) (by have:=gU 1 2 z 29;omega);simp only[fx,kI,mw,a0o];rw[g];omega
def OS{L:List UInt8} : ∀(n p:Nat),L.length-p<=n->bN ((bj L p).flatMap (cH (bV 288) ii))<=9*(L.length-p):=by
 intro n;induction n with
 | zero=>
  intro p h;rw[eO (by omega)];exact a0g _
 | succ n ih=>
  intro p h;by_cases d:p<L.length
  .
   have a:=yd L L.length p (by omega);rw[iI d]at a ⊢;have e:=Ly (a (fJ L p) (by simp));have g:=g9 L p;have i:=qo d;have j:=ih (p+i6 L p) (by omega);have f:(if isB (fJ L p)then 1 else(fJ L p).2.1.toNat)=i6 L p:=by
    unfold fJ i6;by_cases b:(bg L p (min p 250)).1<3
    .
     have c:isB ((((L.getD p 0).toNat:Nat):Int),0,0)=true:=by
      have:=(L.getD p 0).toNat_lt;generalize (L.getD p 0).toNat=y at *
      unfold isB inB;simp;omega
     rw[a0d b,a0d b,c];rfl
    .
     have c:isB (0,((bg L p (min p 250)).1:Int),((bg L p (min p 250)).2:Int))=false:=by
      unfold isB;simp;omega
     rw[a0e b,a0e b,c];simp
   rw[f]at e;rw[a00,dE];omega
  . rw[eO d];exact a0g _
def wY(s:ByteArray):bN (iq s)=1+2+bN ((bj s.data.toList 0).flatMap (cH (bV 288) ii))+7:=by
 unfold iq;rw[dE,dE];have e1:bN [((1:Int),(1:Int)),((1:Int),(2:Int))]=3:=rfl;have e2:bN [pcM (bV 288) 256]=7:=by
  rw[fx,kI,mw];decide +kernel
 rw[e1,e2];omega
def uK(s:ByteArray)(h:s.size<=300):(dU s).length<=340/\2<=(dU s).length:=by
 have b:=pL s h;obtain⟨a,d,f⟩:=pz b;have e:=wY s;have e2:=OS (L:=s.data.toList) s.data.toList.length 0 (by omega);have e3:s.data.toList.length=s.size:=by simp
 have c:(dU s).length=((aU (iq s)).2+7)/8:=by unfold dU cq;exact az _ _
 rw[c,←a,e];omega
def AO(s:ByteArray)(h:s.size<=300):cF ⟨(dU s).toArray⟩=some (s.data.toList,8*(dU s).length):=by
 have f:=pL s h;obtain⟨g,i,d⟩:=pz f;have m:=(uK s h).1;have e:=wY s;have e3:s.data.toList.length=s.size:=by simp
 have b:(bV 288).getD 256 0=7:=by decide +kernel
 refine uj f (show(dU s).length<=700 by omega) ?_;have j:bN (iq s)<=8*(dU s).length:=i;show fU (aU (iq s)).1 (8*(dU s).length) 0 []=some (s.data.toList,(aU (iq s)).2);refine oV (k:=1) d (by omega) ?_;unfold fO Eu;rw[a0e (by decide),a0d rfl];have a:=GQ (L:=bV 288) (D:=ii) iX mQ (V:=(aU (iq s)).1) (sz:=8*(dU s).length) (by rw[b];omega) (l:=[]) (bj s.data.toList 0) (0+1+2) [] s.data.toList (fun t a=>⟨eV s t a,Ma (eV s t a)⟩) d.2.2 (by rw[b];simp only[Int.reduceToNat];omega) (wa (by omega));rw[b]at a;simp only[Int.reduceToNat]at a;have c:ie (aU (iq s)).1 (8*(dU s).length) (bV 288) (List.replicate 32 5) (0+1+2) []=_:=a;rw[c,←g,e]
def QG(s:ByteArray)(h:s.size<=300):cF (byS s)=some (s.data.toList,8*(byS s).size)/\(byS s).size=s.size+5:=by
 have b:s.data.toList.length=s.size:=jB s;have a:=AP s.data.toList (by omega);have h2:=vS s.data.toList (by omega);unfold byS;rw[mu,a,h2,b];exact⟨rfl,rfl⟩
def QE(s:ByteArray)(h:s.size<=300):cF (byF s)=some (s.data.toList,8*(byF s).size)/\2<=(byF s).size/\(byF s).size<=340:=by
 have a:=AO s h;have h2:=uK s h;unfold byF lH;rw[a0d h,mu,a];exact⟨rfl,h2.2,h2.1⟩
def zf{r:List Int}(c:r.length=a.length)(h:∀j,j<a.length->r.getD j 0=a.getD j 0):r=a:=by
 apply a2s c;intro j b h2;have:=h j h2;simpa[List.getD,b,h2]using this
def QV: ∀(is:List Nat) (p:Nat) (r:List Int),Std V p (is.map (fun i=>(a.getD i 0,(3:Int)))++l)->(∀i∈is,0<=a.getD i 0/\i<r.length)->∀j,(lbV V is p r).getD j 0=if j∈is then a.getD j 0 else r.getD j 0:=by
 intro is;induction is with
 | nil=>intro p r _ _ j;simp[lbV]
 | cons i is ih=>
  intro p r h c j;rw[a0C,a1m]at h;have d:V/2 ^ p%2 ^ 3=(a.getD i 0).toNat:=h.1;have h2:=h.2;obtain⟨i1,i2⟩:=c i (by simp);simp only[lbV];rw[d,a3e i1,ih (p+3) _ h2 (fun k f=>by rw[a13];exact c k (by simp[f])) j];by_cases b:j∈is
  . rw[a0d b,a0d (by simp[b])]
  .
   rw[a0e b];by_cases e:j=i
   . subst e;rw[a0d (by simp)];simp[List.getD,i2]
   . rw[a0e (by simp[b,e])];simp[List.getD,Ne.symm e]
def QW(f:a.length=19)(e:∀i,i<19->0<=a.getD i 0)(h:Std V p (bC.map (fun i=>(a.getD i 0,(3:Int)))++l)):lbV V bC p (List.replicate 19 0)=a:=by
 have b:∀i∈bC,i<19:=by decide
 have c:∀i,i<19->i∈bC:=by decide
 have g:=QV (a:=a) bC p (List.replicate 19 0) h (fun i d=>⟨e i (b i d),by rw[a0w];exact b i d⟩);have k:(lbV V bC p (List.replicate 19 0)).length=19:=by rw[Pk,a0w]
 exact zf (by rw[k,f]) (fun j m=>by rw[g j,a0d (c j (by omega))])
def QY{B:List Int}(b:ap B=true) : ∀(A R:List Int) (p:Nat),(∀x∈A,0<=x/\x<=15/\0<B.getD x.toNat 0)->Std V p (A.map (fun x=>pcM B x.toNat)++l)->p+bN (A.map (fun x=>pcM B x.toNat))<=sz->lnG V sz B (R.length+A.length) p R=some (R++A,p+bN (A.map (fun x=>pcM B x.toNat))):=by
 intro A;induction A with
 | nil=>
  intro R p _ _ a;rw[a1L,kI,a1c]at a;rw[vh a (by simp),a0d (by simp),a05,a1L,kI,a1c]
 | cons x A ih=>
  intro R p c h a;rw[a0C,fx,mw]at a ⊢;rw[a0C,a1m]at h;obtain⟨a1,a2,a3⟩:=c x (by simp);rw[a0B,vg (by omega) (by omega),pG b a3 h (by omega)];simp only[a0f];have e:dP V sz R ((x.toNat:Nat):Int) (p+(B.getD x.toNat 0).toNat)=some (R++[x],p+(B.getD x.toNat 0).toNat):=by
   rw[a3e a1];unfold dP;rw[a0e (by omega),a0e (by omega),a0e (by omega)]
  rw[e];simp only[a0f];have:=ih (R++[x]) (p+(B.getD x.toNat 0).toNat) (fun y d=>c y (by simp[d])) h.2 (by omega);rw[a0i,a1j]at this;rw[show R.length+(A.length+1)=R.length+1+A.length by omega,this];simp only[a0K,List.singleton_append,a0j,a0R,a1t];omega
def qH(a:List Int)(is:List Nat):bN (is.map (fun i=>(a.getD i 0,(3:Int))))=3*is.length:=by
 induction is with
 | nil=>rfl
 | cons i is ih=>
  rw[a0C,fx,ih,a0B];simp only[Int.reduceToNat];omega
def Mi{L D:List Int}(r:ap L=true)(q:ap D=true)(l0:257<=L.length)(l1:L.length<=286)(y:1<=D.length)(z:D.length<=30)(h:Std V p (dh L D++l))(u:p+bN (dh L D)<=sz) :
  ij V sz p=some (L.length,L++D,p+bN (dh L D)):=by
 have g:∀x∈L++D,0<=x/\x<=15:=by
  intro x f;rcases a01.1 f with h|h
  . exact km r x h
  . exact km q x h
 have j:(L++D).length=L.length+D.length:=a0i;obtain⟨v,s,w⟩:=uV (L++D) (by omega) (by omega) g;have b:=IX (L++D) (by omega) (by omega) g;have e:dh L D++l=((L.length:Int)-257,(5:Int)) :: ((D.length:Int)-1,(5:Int)) :: ((15:Int),(4:Int)) :: (bC.map (fun i=>((aN (L++D)).getD i 0,(3:Int)))++((L++D).map (fun x=>pcM (aN (L++D)) x.toNat)++l)):=by
  unfold dh;simp only[a1m,a08,a0K]
 have eb:bN (dh L D)=5+5+4+3*19+bN ((L++D).map (fun x=>pcM (aN (L++D)) x.toNat)):=by
  unfold dh;rw[dE,dE,qH];have e1:bN [((L.length:Int)-257,(5:Int)),((D.length:Int)-1,(5:Int)),((15:Int),(4:Int))]=14:=rfl;have e2:bC.length=19:=rfl;rw[e1,e2];omega
 rw[e]at h;rw[eb]at u ⊢;generalize A:aN (L++D)=B at *
 have x1:V/2 ^ p%2 ^ 5=L.length-257:=by have:=h.1;simp only[Int.reduceToNat]at this;omega
 have h2:Std V (p+5) _:=h.2;have x2:V/2 ^ (p+5)%2 ^ 5=D.length-1:=by have:=h2.1;simp only[Int.reduceToNat]at this;omega
 have m:Std V (p+5+5) _:=h2.2;have x3:V/2 ^ (p+5+5)%2 ^ 4=15:=by have:=m.1;simp only[Int.reduceToNat]at this;exact this
 have n:Std V (p+5+5+4) _:=m.2;have k:=QW (a:=B) v (fun i t=>(w i t).1) n;have o:=(pg.1 n).2;rw[qH,show bC.length=19 from rfl]at o;have c:lbV V (bC.take (15+4)) (p+5+5+4) (List.replicate 19 0)=B:=by
  rw[show bC.take (15+4)=bC from rfl];exact k
 rw[BI (by omega) x1 x2 x3 c,a0d ⟨by omega,s,by omega,by omega⟩];have d:=QY s (sz:=sz) (L++D) [] (p+5+5+4+3*(15+4)) (fun x f=>⟨(g x f).1,(g x f).2,b x f⟩) o (by omega);rw[a0T,a0H,j,a08]at d;rw[show L.length-257+257+(D.length-1+1)=L.length+D.length by omega,show L.length-257+257=L.length by omega,d];simp only[a0f];rw[List.take_left',List.drop_left',a0d ⟨r,q⟩]
 . simp only[a0j,a0R,a1t];omega
 . rfl
 . rfl
def MQ(T:List Tk)(c:T.length<=300)(b:∀t∈T,okT t=true)(t:Tk)(d:t∈T):ED (bE T) (cm T) t:=by
 obtain⟨a,h2⟩:=GC T c b t d;unfold iZ at a;unfold er at h2;unfold ED
 split
 . rename_i h;rw[a0d h]at a;exact a
 . rename_i h;rw[a0e h]at a h2;exact⟨a,h2 _ (by simp)⟩
def xH(T:List Tk):bN (jh T)=1+2+bN (dh (bE T) (cm T))+bN (T.flatMap (cH (bE T) (cm T)))+((bE T).getD 256 0).toNat:=by
 unfold jh;rw[dE,dE,dE,fx (pcM (bE T) 256),kI,mw];have e1:bN [((1:Int),(1:Int)),((2:Int),(2:Int))]=3:=rfl;rw[e1];omega
def MN(s:ByteArray)(h:s.size<=300):9<=(mq s).length:=by
 have c:=ja s h;have b:=tF (bj s.data.toList 0) c (eV s);obtain⟨a,f,g⟩:=pz b;have e:=xH (bj s.data.toList 0);have d:(mq s).length=((aU (jh (bj s.data.toList 0))).2+7)/8:=by unfold mq cq;exact az _ _
 have eb:71<=bN (dh (bE (bj s.data.toList 0)) (cm (bj s.data.toList 0))):=by
  unfold dh;rw[dE,dE,qH];have e2:bC.length=19:=rfl;rw[e2,fx,fx,fx];simp only[Int.reduceToNat];omega
 rw[d,←a,e];omega
def Ix(s:ByteArray)(h:s.size<=300)(g:(mq s).length<=700):cF ⟨(mq s).toArray⟩=some (s.data.toList,8*(mq s).length):=by
 have a:=ja s h;have b:=eV s;have e3:s.data.toList.length=s.size:=by simp
 have o:=wa (L:=s.data.toList) (by omega);unfold mq at g ⊢;generalize bj s.data.toList 0=T at *
 have d:=tF T a b;obtain⟨i,p,c⟩:=pz d;have e:=xH T;refine uj d g ?_;generalize 8*(cq (jh T)).length=sz at *
 generalize (aU (jh T)).1=V at *
 obtain⟨l0,l1⟩:=jT T a;obtain⟨j,m⟩:=lr T a;have n:=Cn T a 256 (.inl rfl) (by omega);refine oV (k:=2) c (by omega) ?_;have s3:Std V (0+1+2) (dh (bE T) (cm T)++(T.flatMap (cH (bE T) (cm T))++[pcM (bE T) 256])):=c.2.2;unfold fO;rw[a0e (by decide),a0e (by decide),a0d rfl,xG,Mi (gr T a) (iP T a) l0 l1 j m s3 (by omega)];simp only[a0f];rw[List.take_left',List.drop_left']
 . have s4:=(pg.1 s3).2;rw[GQ (gr T a) (iP T a) n (l:=[]) T _ [] s.data.toList (fun t f=>⟨b t f,MQ T a b t f⟩) s4 (by omega) o,←i,e]
 . rfl
 . rfl
def QF(s:ByteArray)(h:s.size<=300):((byO s).size<=700->cF (byO s)=some (s.data.toList,8*(byO s).size))/\2<=(byO s).size:=by
 have h2:=MN s h;unfold byO lS;rw[a0d h,mu];exact⟨fun a=>Ix s h a,by omega⟩
def Ex(s:ByteArray)(h:s.size<=300):cF (bY s)=some (s.data.toList,8*(bY s).size)/\(bY s).size<=s.size+5/\2<=(bY s).size/\(bY s).size<=(byS s).size/\(bY s).size<=(byF s).size/\(bY s).size<=(byO s).size/\(bY s=byS s∨bY s=byF s∨bY s=byO s):=by
 obtain⟨a1,a2⟩:=QG s h;obtain⟨a,b,c⟩:=QE s h;obtain⟨c1,c2⟩:=QF s h;unfold bY;by_cases e1:(byF s).size<(byS s).size
 .
  rw[fs e1];by_cases e2:(byO s).size<(byF s).size
  . rw[fs e2];exact⟨c1 (by omega),by omega,c2,by omega,by omega,a0a _,.inr (.inr rfl)⟩
  . rw[gE e2];exact⟨a,by omega,b,by omega,a0a _,by omega,.inr (.inl rfl)⟩
 .
  rw[gE e1];by_cases e2:(byO s).size<(byS s).size
  . rw[fs e2];exact⟨c1 (by omega),by omega,c2,by omega,by omega,a0a _,.inr (.inr rfl)⟩
  . rw[gE e2];exact⟨a1,by omega,by omega,a0a _,by omega,by omega,.inl rfl⟩
