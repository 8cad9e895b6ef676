/- Texts. -/
import Derived.Deep.Strs
import Derived.ShutString
import Derived.Test.YtckocaibjciplaaGreatDoorM36
import Derived.Test.YtckocaibjciplaaGreatDoorM33
set_option linter.all false
namespace Go.Proofs.YtckocaibjciplaaGreatDoor
open Go.Proofs.Tryz
open Go.RowKit Go.Deep Go.ChangeShapes Go.WideShapes
def Tryz.et:prog.globalNamed "errors.errorType" = some 0:=by kernel_rfl
def Tryz.rtt:(prog.cutTypes.find? (·.1 == "internal/reflectlite.rtype")).map (·.2)=some 170:=by kernel_rfl
def Tryz.tsize:∃n,prog.types.size=n/\((List.range n).filter fun t=>prog.rowNamed t [101,114,114,111,114])=[54]:=⟨_,rfl,by kernel_rfl⟩
def Qk{laid:List (String×DataW Unit)}{W:World}(h:laidMetH prog laid W)
  (hm:("errors.errorType",(DataW.iface "internal/reflectlite.rtype" (.agg [.ptr (.lit (.string [101,114,114,111,114]))]):DataW Unit))∈laid.filter fun x=>x.2.handleName?.isSome):mO W:=by
 have h':handlesMet prog (laid.filter fun x=>x.2.handleName?.isSome) W:=by
  unfold laidMetH at h;generalize (laid.filter fun x=>x.2.handleName?.isSome)=fl at *
  cases fl with
  | nil=>cases hm
  | cons a r=>exact h.2
 obtain⟨name,u,ty,e1,e2,e3,e4,e5⟩:=h' _ hm;have en:name=[101,114,114,111,114]:=(a1v e1).symm;subst en;obtain rfl:=a1v (Tryz.rtt.symm.trans e2);obtain⟨n,hn,hone⟩:=Tryz.tsize;have hmm:ty∈(List.range n).filter fun t=>prog.rowNamed t [101,114,114,111,114]:=List.mem_filter.2 ⟨List.mem_range.2 (by rw[←hn];exact e3),e4⟩;rw[hone]at hmm;obtain rfl:=a09.1 hmm;have hh:typeHandle prog 54 = .pointer (some ⟨5,54,none⟩):=by kernel_rfl
 rw[hh]at e5;unfold mO;simpa using World.var?_cell Tryz.et e5 0
noncomputable def handW (os:Os):World:=
 let w0:=World.holding prog os ⟨#[],#[],[]⟩
 { w0 with heap:=w0.heap.modify 0 fun
   | .cells _ t frozen=>.cells #[.iface 170 (.agg #[.pointer (some ⟨5,54,none⟩)])] t frozen
   | o=>o }
def Am{P:Program}{w0:World}{laid:List (String×DataW Unit)}(args:Array Value)(b:w0.layFits P laid []=true)(c:w0.layIfaces P laid (w0.layVars P laid)=true) :
  laidMet P laid ((w0.layVars P laid).forCall (fun _ _=>0) ⟨#[],args,[]⟩).memory:=by
 have e1:(laid.filter fun x=>(laid.map (·.1)).contains x.1)=laid:=List.filter_eq_self.2 fun x a=>List.contains_iff_mem.2 (a2P.2 ⟨x,a,rfl⟩);have e2:(laid.filter fun x=>!(laid.map (·.1)).contains x.1)=[]:=List.filter_eq_nil_iff.2 fun x a=>by rw[List.contains_iff_mem.2 (a2P.2 ⟨x,a,rfl⟩)];simp
 have h:laidMet P laid (w0.layVars P laid):=laidMet_layVars (w0:=w0) (laid.map (·.1)) [] (by rw[e1]) (by rw[e1];exact b) (by rw[e1];exact c) (by rw[e2];exact LaidIn.none);exact h.of_heap (by simp[World.memory,World.forCall,Input.heap])
end Go.Proofs.YtckocaibjciplaaGreatDoor
namespace Go.Proofs.YtckocaibjciplaaGreatDoor
open Go.Proofs.Tryz
open Go.RowKit Corb
variable {V p sz:Nat}{a:List Int}{l:List (Int×Int)}
def mU(l:List UInt8):(⟨l.toArray⟩:ByteArray).size=l.length:=by simp[ByteArray.size]
def Ji: ∀(L:List UInt8) (p:Nat) (R:List UInt8),Std V p (bS L++l)->p+8*L.length<=sz->R.length+L.length<=300->dH V sz L.length p R=some (R++L,p+8*L.length):=by
 intro L;induction L with
 | nil=>intro p R _ _ _;simp[dH]
 | cons b L ih=>
  intro p R h f d;rw[a0C]at f d ⊢;have e:bS (b :: L)++l=(((b.toNat:Nat):Int),(8:Int)) :: (bS L++l):=rfl;rw[e]at h;have c:=sG (sz:=sz) h (by show p+8<=sz;omega);simp only[a0o]at c;have a:rdN V sz p 8=some (b.toNat,p+8):=c;have hb:=b.toNat_lt;simp only[dH];rw[a];simp only[a0f];rw[lA R b.toNat hb,a0d (by omega)];simp only[a0f];rw[BA,ih (p+8) (R++[b]) h.2 (by omega) (by rw[a0j,a1j];omega)];simp only[a0K,List.singleton_append,a0k,a0R,a1S];omega
def Le{c:Nat}{L R:List UInt8}(g:(8-p%8)%8=c)(h:Std V p (((0:Int),(c:Int)) :: ((L.length:Int),(16:Int)) :: (((65535-L.length:Nat):Int),(16:Int)) :: (bS L++l)))(k:p+c+32+8*L.length<=sz)(f:R.length+L.length<=300) :
  dK V sz p R=some (R++L,p+c+32+8*L.length):=by
 have d:=h.1;have a:=h.2;have h2:=a.2;have e:=h2.2;simp only[a0o,Int.toNat_zero]at d a h2 e;unfold dK ge;rw[g,a0d d];simp only[a0f];have i:rdN V sz (p+c) 16=some (L.length,p+c+16):=sG (sz:=sz) a (by show p+c+16<=sz;omega);have j:rdN V sz (p+c+16) 16=some (65535-L.length,p+c+16+16):=sG (sz:=sz) h2 (by show p+c+16+16<=sz;omega);rw[i];simp only[a0f];rw[j];simp only[a0f,a0V];have b:Std V (p+c+16+16) (bS L++l):=e;rw[Ji L _ R b (by omega) f]
def pH{k:Nat}{T:List UInt8}{r:List UInt8×Nat}(h:Std V p (((1:Int),(1:Int)) :: ((k:Int),(2:Int)) :: l))(d:p+1+2<=sz)(a:fZ V sz k (p+1+2) T=some r):gi V sz p T=some r:=by
 have b:rdN V sz p 1=some (1,p+1):=sG (sz:=sz) h (by show p+1<=sz;omega);have h2:=h.2;have c:rdN V sz (p+1) 2=some (k,p+1+2):=by
  have:=sG (sz:=sz) h2 (by show p+1+2<=sz;omega);simpa using this
 rw[nJ,b];simp only[a0f];rw[c];simp only[a0f];rw[a];rfl
def ON{M:Nat}(h:V<2 ^ M):ge V M=some (M+(8-M%8)%8):=by
 unfold ge;rw[a1Z h,Nat.zero_mod,a0d rfl]
def vg{P:List (Int×Int)}{T:List UInt8}(a:lOk P=true)(f:(cB P).length<=700)(e:gi (aU P).1 (8*(cB P).length) 0 []=some (T,(aU P).2)):cH ⟨(cB P).toArray⟩=some (T,8*(cB P).length):=by
 have d:(cB P).length=((aU P).2+7)/8:=by unfold cB;exact az _ _
 have c:=Pw a;rw[dQ a]at c;have b:(aU P).1<2 ^ (aU P).2:=A9 P (by unfold lOk at a;simp only[a0l]at a;exact a.1);unfold cH fF;rw[a0d (by rw[mU];exact f)];have e1:ak ⟨(cB P).toArray⟩=(aU P).1:=by unfold ak;simpa using c
 have e2:(⟨(cB P).toArray⟩:ByteArray).size=(cB P).length:=mU _;rw[e1,e2,e];simp only[a0f];rw[ON b];simp only[a0f,a0k,a0R,a1S];rw[d];omega
def qg{P:List (Int×Int)}(a:lOk P=true):bN P=(aU P).2/\bN P<=8*(cB P).length/\Std (aU P).1 0 P:=by
 have h:aY P=true:=by unfold lOk at a;simp only[a0l]at a;exact a.1
 have b:=Lf h;have c:(cB P).length=((aU P).2+7)/8:=by unfold cB;exact az _ _
 have h2:=Ro 0 h;rw[Nat.zero_mul,a1b]at h2;refine⟨b,?_,h2⟩;unfold bN;rw[b,c];omega
def L9(L:List UInt8):bN (bS L)=8*L.length:=by
 induction L with
 | nil=>rfl
 | cons b L ih=>
  have e:bS (b :: L)=(((b.toNat:Nat):Int),(8:Int)) :: bS L:=rfl;rw[e,fI,ih,a0C];simp only[Int.reduceToNat];omega
def yU(L:List UInt8)(h:L.length<=300):lOk (fi L.length++bS L)=true:=by
 have a:=vj L.length (by omega);have h2:=pp L (by omega);unfold lOk at a h2 ⊢;simp only[a0l,a0t]at a h2 ⊢;rw[qd,a.1,h2.1,a0j,lV];refine⟨rfl,?_⟩;have:(fi L.length).length=5:=rfl;omega
def Er(L:List UInt8)(h:L.length<=300):cB (fi L.length++bS L)=gm L:=by
 rw[←dQ (yU L h),yV L h];unfold gm;rw[a0d h]
def wT(L:List UInt8)(h:L.length<=300):(gm L).length=L.length+5:=by
 unfold gm;rw[a0d h,a0j,az];omega
def Ck(L:List UInt8)(h:L.length<=300):cH ⟨(gm L).toArray⟩=some (L,8*(L.length+5)):=by
 have d:=yU L h;obtain⟨e,f,b⟩:=qg d;have a:=wT L h;rw[←Er L h]at a ⊢;rw[a]at f;have hb:bN (fi L.length++bS L)=40+8*L.length:=by
  rw[dL,L9];rfl
 have:=vg (T:=L) d (by omega) (by
  rw[a,←e,hb];refine pH (k:=0) b (by omega) ?_;unfold fZ;rw[a0d rfl];have g:=Le (R:=[]) (V:=(aU (fi L.length++bS L)).1) (sz:=8*(L.length+5)) (p:=0+1+2) (c:=5) (L:=L) (l:=[]) (by decide) (by rw[a03];exact b.2.2) (by omega) (by simpa using h);rw[g];simp only[a1a])
 rw[this,a]
def Qp:(List.range 288).all (fun i=>decide (0<(cb 288).getD i 0)&&decide ((cb 288).getD i 0<=9))=true:=by decide +kernel
def MV:(List.range 32).all (fun i=>decide (iA.getD i 0=5))=true:=by decide +kernel
def FO{i:Nat}(h:i<288):0<(cb 288).getD i 0/\(cb 288).getD i 0<=9:=by
 have:=a08.1 Qp i (List.mem_range.2 h);simpa using this
def Im{i:Nat}(h:i<32):iA.getD i 0=5:=by
 have:=a08.1 MV i (List.mem_range.2 h);simpa using this
def Nu{t:Tk}(a:okT t=true):FX (cb 288) iA t:=by
 have:=jY a;unfold gr at this;unfold FX
 split
 .
  rename_i hB;rw[a0d hB]at this;have l1:(cb 288).length=288:=by decide +kernel
  exact(FO (by omega)).1
 .
  rename_i hB;rw[a0e hB]at this;have l1:(cb 288).length=288:=by decide +kernel
  have l2:iA.length=32:=by decide +kernel
  refine⟨(FO (by omega)).1,?_⟩;rw[Im (by omega)];omega
def MZ:(List.range 61).all (fun y=>decide (y<3) || decide (((cb 288).getD (257+fnd 3 4 y 27) 0).toNat+(stF 3 4 (fnd 3 4 y 27)).2+11<=9*y))=true:=by decide +kernel
def MX:(List.range 251).all (fun y=>decide (y<1) || decide ((stF 1 2 (fnd 1 2 y 29)).2<=6))=true:=by decide +kernel
def MY{t:Tk}(d:okT t=true):bN (cK (cb 288) iA t)<=9*(if isB t then 1 else t.2.1.toNat):=by
 obtain⟨y,lo,b⟩:=t;unfold cK;by_cases a:isB (y,lo,b)=true
 .
  rw[a0d a,a0d a,fI,kW,mV];have hb:0<=y/\y<=255:=by unfold isB inB at a;simp only[a0l,a0t]at a;omega
  have:=FO (i:=y.toNat) (by omega);show((cb 288).getD y.toNat 0).toNat+0<=9*1;omega
 .
  rw[a0e a,a0e a];have c:isK (y,lo,b)=true:=by unfold okT at d;simpa[a]using d
  have hb:y=0/\3<=lo/\lo<=60/\1<=b/\b<=250:=by unfold isK inB at c;simp only[a0l,a0t]at c;omega
  obtain⟨rfl,e,f,h,j⟩:=hb;obtain⟨x,rfl⟩:=a0p (show 0<=lo by omega);obtain⟨z,rfl⟩:=a0p (show 0<=b by omega);have f1:=a08.1 MZ x (List.mem_range.2 (by omega));have f2:=a08.1 MX z (List.mem_range.2 (by omega));simp only[a1k,a0t]at f1 f2;have g:=Im (i:=fnd 1 2 z 29) (by have:=ij 1 2 z 29;omega);simp only[fI,kW,mV,a0o];rw[g];omega
def Qq{L:List UInt8} : ∀(n p:Nat),L.length-p<=n->bN ((bj L p).flatMap (cK (cb 288) iA))<=9*(L.length-p):=by
 intro n;induction n with
 | zero=>
  intro p h;rw[fe (by omega)];exact a0g _
 | succ n ih=>
  intro p h;by_cases d:p<L.length
  .
   have a:=zd L L.length p (by omega);rw[iW d]at a ⊢;have e:=MY (a (fV L p) (by simp));have g:=iq L p;have i:=rf d;have j:=ih (p+jm L p) (by omega);have f:(if isB (fV L p)then 1 else(fV L p).2.1.toNat)=jm L p:=by
    unfold fV jm;by_cases b:(bg L p (min p 250)).1<3
    .
     have c:isB ((((L.getD p 0).toNat:Nat):Int),0,0)=true:=by
      have:=(L.getD p 0).toNat_lt;generalize (L.getD p 0).toNat=y at *
      unfold isB inB;simp;omega
     rw[a0d b,a0d b,c];rfl
    .
     have c:isB (0,((bg L p (min p 250)).1:Int),((bg L p (min p 250)).2:Int))=false:=by
      unfold isB;simp;omega
     rw[a0e b,a0e b,c];simp
   rw[f]at e;rw[a0Y,dL];omega
  . rw[fe d];exact a0g _
def yk(s:ByteArray):bN (iI s)=1+2+bN ((bj s.data.toList 0).flatMap (cK (cb 288) iA))+7:=by
 unfold iI;rw[dL,dL];have e1:bN [((1:Int),(1:Int)),((1:Int),(2:Int))]=3:=rfl;have e2:bN [pcM (cb 288) 256]=7:=by
  rw[fI,kW,mV];decide +kernel
 rw[e1,e2];omega
def vE(s:ByteArray)(h:s.size<=300):(ec s).length<=340/\2<=(ec s).length:=by
 have b:=qu s h;obtain⟨a,d,f⟩:=qg b;have e:=yk s;have e2:=Qq (L:=s.data.toList) s.data.toList.length 0 (by omega);have e3:s.data.toList.length=s.size:=by simp
 have c:(ec s).length=((aU (iI s)).2+7)/8:=by unfold ec cB;exact az _ _
 rw[c,←a,e];omega
def Cj(s:ByteArray)(h:s.size<=300):cH ⟨(ec s).toArray⟩=some (s.data.toList,8*(ec s).length):=by
 have f:=qu s h;obtain⟨g,i,d⟩:=qg f;have m:=(vE s h).1;have e:=yk s;have e3:s.data.toList.length=s.size:=by simp
 have b:(cb 288).getD 256 0=7:=by decide +kernel
 refine vg f (show(ec s).length<=700 by omega) ?_;have j:bN (iI s)<=8*(ec s).length:=i;show gi (aU (iI s)).1 (8*(ec s).length) 0 []=some (s.data.toList,(aU (iI s)).2);refine pH (k:=1) d (by omega) ?_;unfold fZ FN;rw[a0e (by decide),a0d rfl];have a:=IW (L:=cb 288) (D:=iA) jj ny (V:=(aU (iI s)).1) (sz:=8*(ec s).length) (by rw[b];omega) (l:=[]) (bj s.data.toList 0) (0+1+2) [] s.data.toList (fun t a=>⟨fm s t a,Nu (fm s t a)⟩) d.2.2 (by rw[b];simp only[Int.reduceToNat];omega) (xe (by omega));rw[b]at a;simp only[Int.reduceToNat]at a;have c:iy (aU (iI s)).1 (8*(ec s).length) (cb 288) (List.replicate 32 5) (0+1+2) []=_:=a;rw[c,←g,e]
def Sm(s:ByteArray)(h:s.size<=300):cH (byS s)=some (s.data.toList,8*(byS s).size)/\(byS s).size=s.size+5:=by
 have b:s.data.toList.length=s.size:=jQ s;have a:=Ck s.data.toList (by omega);have h2:=wT s.data.toList (by omega);unfold byS;rw[mU,a,h2,b];exact⟨rfl,rfl⟩
def Sk(s:ByteArray)(h:s.size<=300):cH (byF s)=some (s.data.toList,8*(byF s).size)/\2<=(byF s).size/\(byF s).size<=340:=by
 have a:=Cj s h;have h2:=vE s h;unfold byF lZ;rw[a0d h,mU,a];exact⟨rfl,h2.2,h2.1⟩
def Ap{r:List Int}(c:r.length=a.length)(h:∀j,j<a.length->r.getD j 0=a.getD j 0):r=a:=by
 apply a2i c;intro j b h2;have:=h j h2;simpa[List.getD,b,h2]using this
def SC: ∀(is:List Nat) (p:Nat) (r:List Int),Std V p (is.map (fun i=>(a.getD i 0,(3:Int)))++l)->(∀i∈is,0<=a.getD i 0/\i<r.length)->∀j,(lbV V is p r).getD j 0=if j∈is then a.getD j 0 else r.getD j 0:=by
 intro is;induction is with
 | nil=>intro p r _ _ j;simp[lbV]
 | cons i is ih=>
  intro p r h c j;rw[a0D,a1o]at h;have d:V/2 ^ p%2 ^ 3=(a.getD i 0).toNat:=h.1;have h2:=h.2;obtain⟨i1,i2⟩:=c i (by simp);simp only[lbV];rw[d,a3j i1,ih (p+3) _ h2 (fun k f=>by rw[a1T];exact c k (by simp[f])) j];by_cases b:j∈is
  . rw[a0d b,a0d (by simp[b])]
  .
   rw[a0e b];by_cases e:j=i
   . subst e;rw[a0d (by simp)];simp[List.getD,i2]
   . rw[a0e (by simp[b,e])];simp[List.getD,Ne.symm e]
def SD(f:a.length=19)(e:∀i,i<19->0<=a.getD i 0)(h:Std V p (bC.map (fun i=>(a.getD i 0,(3:Int)))++l)):lbV V bC p (List.replicate 19 0)=a:=by
 have b:∀i∈bC,i<19:=by decide
 have c:∀i,i<19->i∈bC:=by decide
 have g:=SC (a:=a) bC p (List.replicate 19 0) h (fun i d=>⟨e i (b i d),by rw[a0y];exact b i d⟩);have k:(lbV V bC p (List.replicate 19 0)).length=19:=by rw[QI,a0y]
 exact Ap (by rw[k,f]) (fun j m=>by rw[g j,a0d (c j (by omega))])
def SF{B:List Int}(b:ap B=true) : ∀(A R:List Int) (p:Nat),(∀x∈A,0<=x/\x<=15/\0<B.getD x.toNat 0)->Std V p (A.map (fun x=>pcM B x.toNat)++l)->p+bN (A.map (fun x=>pcM B x.toNat))<=sz->lnG V sz B (R.length+A.length) p R=some (R++A,p+bN (A.map (fun x=>pcM B x.toNat))):=by
 intro A;induction A with
 | nil=>
  intro R p _ _ a;rw[a1E,kW,a1b]at a;rw[vZ a (by simp),a0d (by simp),a03,a1E,kW,a1b]
 | cons x A ih=>
  intro R p c h a;rw[a0D,fI,mV]at a ⊢;rw[a0D,a1o]at h;obtain⟨a1,a2,a3⟩:=c x (by simp);rw[a0C,vY (by omega) (by omega),qm b a3 h (by omega)];simp only[a0f];have e:dW V sz R ((x.toNat:Nat):Int) (p+(B.getD x.toNat 0).toNat)=some (R++[x],p+(B.getD x.toNat 0).toNat):=by
   rw[a3j a1];unfold dW;rw[a0e (by omega),a0e (by omega),a0e (by omega)]
  rw[e];simp only[a0f];have:=ih (R++[x]) (p+(B.getD x.toNat 0).toNat) (fun y d=>c y (by simp[d])) h.2 (by omega);rw[a0j,a1j]at this;rw[show R.length+(A.length+1)=R.length+1+A.length by omega,this];simp only[a0K,List.singleton_append,a0k,a0R,a1S];omega
def rD(a:List Int)(is:List Nat):bN (is.map (fun i=>(a.getD i 0,(3:Int))))=3*is.length:=by
 induction is with
 | nil=>rfl
 | cons i is ih=>
  rw[a0D,fI,ih,a0C];simp only[Int.reduceToNat];omega
def NC{L D:List Int}(r:ap L=true)(q:ap D=true)(l0:257<=L.length)(l1:L.length<=286)(y:1<=D.length)(z:D.length<=30)(h:Std V p (dj L D++l))(u:p+bN (dj L D)<=sz) :
  iB V sz p=some (L.length,L++D,p+bN (dj L D)):=by
 have g:∀x∈L++D,0<=x/\x<=15:=by
  intro x f;rcases a02.1 f with h|h
  . exact kJ r x h
  . exact kJ q x h
 have j:(L++D).length=L.length+D.length:=a0j;obtain⟨v,s,w⟩:=vQ (L++D) (by omega) (by omega) g;have b:=Ke (L++D) (by omega) (by omega) g;have e:dj L D++l=((L.length:Int)-257,(5:Int)) :: ((D.length:Int)-1,(5:Int)) :: ((15:Int),(4:Int)) :: (bC.map (fun i=>((aP (L++D)).getD i 0,(3:Int)))++((L++D).map (fun x=>pcM (aP (L++D)) x.toNat)++l)):=by
  unfold dj;simp only[a1o,a1a,a0K]
 have eb:bN (dj L D)=5+5+4+3*19+bN ((L++D).map (fun x=>pcM (aP (L++D)) x.toNat)):=by
  unfold dj;rw[dL,dL,rD];have e1:bN [((L.length:Int)-257,(5:Int)),((D.length:Int)-1,(5:Int)),((15:Int),(4:Int))]=14:=rfl;have e2:bC.length=19:=rfl;rw[e1,e2];omega
 rw[e]at h;rw[eb]at u ⊢;generalize A:aP (L++D)=B at *
 have x1:V/2 ^ p%2 ^ 5=L.length-257:=by have:=h.1;simp only[Int.reduceToNat]at this;omega
 have h2:Std V (p+5) _:=h.2;have x2:V/2 ^ (p+5)%2 ^ 5=D.length-1:=by have:=h2.1;simp only[Int.reduceToNat]at this;omega
 have m:Std V (p+5+5) _:=h2.2;have x3:V/2 ^ (p+5+5)%2 ^ 4=15:=by have:=m.1;simp only[Int.reduceToNat]at this;exact this
 have n:Std V (p+5+5+4) _:=m.2;have k:=SD (a:=B) v (fun i t=>(w i t).1) n;have o:=(pP.1 n).2;rw[rD,show bC.length=19 from rfl]at o;have c:lbV V (bC.take (15+4)) (p+5+5+4) (List.replicate 19 0)=B:=by
  rw[show bC.take (15+4)=bC from rfl];exact k
 rw[Dq (by omega) x1 x2 x3 c,a0d ⟨by omega,s,by omega,by omega⟩];have d:=SF s (sz:=sz) (L++D) [] (p+5+5+4+3*(15+4)) (fun x f=>⟨(g x f).1,(g x f).2,b x f⟩) o (by omega);rw[a0U,a0H,j,a1a]at d;rw[show L.length-257+257+(D.length-1+1)=L.length+D.length by omega,show L.length-257+257=L.length by omega,d];simp only[a0f];rw[List.take_left',List.drop_left',a0d ⟨r,q⟩]
 . simp only[a0k,a0R,a1S];omega
 . rfl
 . rfl
def Ol(T:List Tk)(c:T.length<=300)(b:∀t∈T,okT t=true)(t:Tk)(d:t∈T):FX (bE T) (cx T) t:=by
 obtain⟨a,h2⟩:=IE T c b t d;unfold jl at a;unfold eK at h2;unfold FX
 split
 . rename_i h;rw[a0d h]at a;exact a
 . rename_i h;rw[a0e h]at a h2;exact⟨a,h2 _ (by simp)⟩
def yL(T:List Tk):bN (jw T)=1+2+bN (dj (bE T) (cx T))+bN (T.flatMap (cK (bE T) (cx T)))+((bE T).getD 256 0).toNat:=by
 unfold jw;rw[dL,dL,dL,fI (pcM (bE T) 256),kW,mV];have e1:bN [((1:Int),(1:Int)),((2:Int),(2:Int))]=3:=rfl;rw[e1];omega
def Oh(s:ByteArray)(h:s.size<=300):9<=(mP s).length:=by
 have c:=jp s h;have b:=uB (bj s.data.toList 0) c (fm s);obtain⟨a,f,g⟩:=qg b;have e:=yL (bj s.data.toList 0);have d:(mP s).length=((aU (jw (bj s.data.toList 0))).2+7)/8:=by unfold mP cB;exact az _ _
 have eb:71<=bN (dj (bE (bj s.data.toList 0)) (cx (bj s.data.toList 0))):=by
  unfold dj;rw[dL,dL,rD];have e2:bC.length=19:=rfl;rw[e2,fI,fI,fI];simp only[Int.reduceToNat];omega
 rw[d,←a,e];omega
def JJ(s:ByteArray)(h:s.size<=300)(g:(mP s).length<=700):cH ⟨(mP s).toArray⟩=some (s.data.toList,8*(mP s).length):=by
 have a:=jp s h;have b:=fm s;have e3:s.data.toList.length=s.size:=by simp
 have o:=xe (L:=s.data.toList) (by omega);unfold mP at g ⊢;generalize bj s.data.toList 0=T at *
 have d:=uB T a b;obtain⟨i,p,c⟩:=qg d;have e:=yL T;refine vg d g ?_;generalize 8*(cB (jw T)).length=sz at *
 generalize (aU (jw T)).1=V at *
 obtain⟨l0,l1⟩:=kj T a;obtain⟨j,m⟩:=lK T a;have n:=D3 T a 256 (.inl rfl) (by omega);refine pH (k:=2) c (by omega) ?_;have s3:Std V (0+1+2) (dj (bE T) (cx T)++(T.flatMap (cK (bE T) (cx T))++[pcM (bE T) 256])):=c.2.2;unfold fZ;rw[a0e (by decide),a0e (by decide),a0d rfl,yK,NC (gJ T a) (ja T a) l0 l1 j m s3 (by omega)];simp only[a0f];rw[List.take_left',List.drop_left']
 . have s4:=(pP.1 s3).2;rw[IW (gJ T a) (ja T a) n (l:=[]) T _ [] s.data.toList (fun t f=>⟨b t f,Ol T a b t f⟩) s4 (by omega) o,←i,e]
 . rfl
 . rfl
def Sl(s:ByteArray)(h:s.size<=300):((byO s).size<=700->cH (byO s)=some (s.data.toList,8*(byO s).size))/\2<=(byO s).size:=by
 have h2:=Oh s h;unfold byO mq;rw[a0d h,mU];exact⟨fun a=>JJ s h a,by omega⟩
def FQ(s:ByteArray)(h:s.size<=300):cH (ci s)=some (s.data.toList,8*(ci s).size)/\(ci s).size<=s.size+5/\2<=(ci s).size/\(ci s).size<=(byS s).size/\(ci s).size<=(byF s).size/\(ci s).size<=(byO s).size/\(ci s=byS s∨ci s=byF s∨ci s=byO s):=by
 obtain⟨a1,a2⟩:=Sm s h;obtain⟨a,b,c⟩:=Sk s h;obtain⟨c1,c2⟩:=Sl s h;unfold ci;by_cases e1:(byF s).size<(byS s).size
 .
  rw[fD e1];by_cases e2:(byO s).size<(byF s).size
  . rw[fD e2];exact⟨c1 (by omega),by omega,c2,by omega,by omega,a0a _,.inr (.inr rfl)⟩
  . rw[gU e2];exact⟨a,by omega,b,by omega,a0a _,by omega,.inr (.inl rfl)⟩
 .
  rw[gU e1];by_cases e2:(byO s).size<(byS s).size
  . rw[fD e2];exact⟨c1 (by omega),by omega,c2,by omega,by omega,a0a _,.inr (.inr rfl)⟩
  . rw[gU e2];exact⟨a1,by omega,by omega,a0a _,by omega,by omega,.inl rfl⟩
