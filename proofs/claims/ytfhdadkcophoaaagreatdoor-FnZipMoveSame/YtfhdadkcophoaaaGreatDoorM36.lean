/- Of what the proof is made: 5 texts, one behind the other. -/
import Derived.Test.YtfhdadkcophoaaaGreatDoorM35
import Derived.Test.YtfhdadkcophoaaaGreatDoorM26
import Derived.Test.YtfhdadkcophoaaaGreatDoorM20
import Derived.Test.YtfhdadkcophoaaaGreatDoorM32
import Derived.Test.YtfhdadkcophoaaaGreatDoorM34
set_option linter.unusedSimpArgs false
set_option linter.unusedVariables false
namespace Go.Proofs.YtfhdadkcophoaaaGreatDoor
open Go.RowKit Corb
theorem jV(l:List UInt8):(⟨l.toArray⟩:ByteArray).size=l.length:=by simp[ByteArray.size]
theorem Cf{V sz:Nat}{l:List (Int×Int)} : ∀(L:List UInt8) (p:Nat) (R:List UInt8),Std V p (bj L++l)->p+8*L.length<=sz->R.length+L.length<=300->gW V sz L.length p R=some (R++L,p+8*L.length):=by
 intro L;induction L with
 | nil=>intro p R _ _ _;simp[gW]
 | cons b L ih=>
  intro p R h hs hR;rw[a0y]at hs hR ⊢;have e:bj (b :: L)++l=(((b.toNat:Nat):Int),(8:Int)) :: (bj L++l):=rfl;rw[e]at h;have h1:=oz (sz:=sz) h (by show p+8<=sz;omega);simp only[a0q]at h1;have h1':rdN V sz p 8=some (b.toNat,p+8):=h1;have hb:=b.toNat_lt;simp only[gW];rw[h1'];simp only[a0f];rw[Cc R b.toNat hb,a0d (by omega)];simp only[a0f];rw[vE,ih (p+8) (R++[b]) h.2 (by omega) (by rw[a0i,a1v];omega)];simp only[a0O,List.singleton_append,a0k,a0P,a1D];omega
theorem Ec{V sz p c:Nat}{L R:List UInt8}{l:List (Int×Int)}(hc:(8-p%8)%8=c)(h:Std V p (((0:Int),(c:Int)) :: ((L.length:Int),(16:Int)) :: (((65535-L.length:Nat):Int),(16:Int)) :: (bj L++l)))(hs:p+c+32+8*L.length<=sz)(hR:R.length+L.length<=300) :
  ig V sz p R=some (R++L,p+c+32+8*L.length):=by
 have h0:=h.1;have h1:=h.2;have h2:=h1.2;have h3:=h2.2;simp only[a0q,Int.toNat_zero]at h0 h1 h2 h3;unfold ig je;rw[hc,a0d h0];simp only[a0f];have r1:rdN V sz (p+c) 16=some (L.length,p+c+16):=oz (sz:=sz) h1 (by show p+c+16<=sz;omega);have r2:rdN V sz (p+c+16) 16=some (65535-L.length,p+c+16+16):=oz (sz:=sz) h2 (by show p+c+16+16<=sz;omega);rw[r1];simp only[a0f];rw[r2];simp only[a0f,a0U];have h3':Std V (p+c+16+16) (bj L++l):=h3;rw[Cf L _ R h3' (by omega) hR]
theorem mn{V sz p k:Nat}{T:List UInt8}{r:List UInt8×Nat}{l:List (Int×Int)}(h:Std V p (((1:Int),(1:Int)) :: ((k:Int),(2:Int)) :: l))(hs:p+1+2<=sz)(hk:fu V sz k (p+1+2) T=some r):gq V sz p T=some r:=by
 have r1:rdN V sz p 1=some (1,p+1):=oz (sz:=sz) h (by show p+1<=sz;omega);have h2:=h.2;have r2:rdN V sz (p+1) 2=some (k,p+1+2):=by
  have:=oz (sz:=sz) h2 (by show p+1+2<=sz;omega);simpa using this
 rw[oY,r1];simp only[a0f];rw[r2];simp only[a0f];rw[hk];rfl
theorem Ic{V M:Nat}(h:V<2 ^ M):je V M=some (M+(8-M%8)%8):=by
 unfold je;rw[a1M h,Nat.zero_mod,a0d rfl]
theorem qo{P:List (Int×Int)}{T:List UInt8}(hP:lOk P=true)(hs:(bV P).length<=700)(hp:gq (aT P).1 (8*(bV P).length) 0 []=some (T,(aT P).2)):cJ ⟨(bV P).toArray⟩=some (T,8*(bV P).length):=by
 have hl:(bV P).length=((aT P).2+7)/8:=by unfold bV;exact aC _ _
 have hv:=I0 hP;rw[dn hP]at hv;have hlt:(aT P).1<2 ^ (aT P).2:=vk P (by unfold lOk at hP;simp only[a0j]at hP;exact hP.1);unfold cJ jI;rw[a0d (by rw[jV];exact hs)];have e1:ar ⟨(bV P).toArray⟩=(aT P).1:=by unfold ar;simpa using hv
 have e2:(⟨(bV P).toArray⟩:ByteArray).size=(bV P).length:=jV _;rw[e1,e2,hp];simp only[a0f];rw[Ic hlt];simp only[a0f,a0k,a0P,a1D];rw[hl];omega
theorem mG{P:List (Int×Int)}(hP:lOk P=true):bN P=(aT P).2/\bN P<=8*(bV P).length/\Std (aT P).1 0 P:=by
 have h:aN P=true:=by unfold lOk at hP;simp only[a0j]at hP;exact hP.1
 have h1:=Ed h;have hl:(bV P).length=((aT P).2+7)/8:=by unfold bV;exact aC _ _
 have h2:=KM 0 h;rw[Nat.zero_mul,a0X]at h2;refine⟨h1,?_,h2⟩;unfold bN;rw[h1,hl];omega
theorem E6(L:List UInt8):bN (bj L)=8*L.length:=by
 induction L with
 | nil=>rfl
 | cons b L ih=>
  have e:bj (b :: L)=(((b.toNat:Nat):Int),(8:Int)) :: bj L:=rfl;rw[e,dL,ih,a0y];simp only[Int.reduceToNat];omega
theorem tB(L:List UInt8)(h:L.length<=300):lOk (dx L.length++bj L)=true:=by
 have h1:=qv L.length (by omega);have h2:=l7 L (by omega);unfold lOk at h1 h2 ⊢;simp only[a0j,a0o]at h1 h2 ⊢;rw[mF,h1.1,h2.1,a0i,jo];refine⟨rfl,?_⟩;have:(dx L.length).length=5:=rfl;omega
theorem xU(L:List UInt8)(h:L.length<=300):bV (dx L.length++bj L)=er L:=by
 rw[←dn (tB L h),tC L h];unfold er;rw[a0d h]
theorem rJ(L:List UInt8)(h:L.length<=300):(er L).length=L.length+5:=by
 unfold er;rw[a0d h,a0i,aC];omega
theorem wl(L:List UInt8)(h:L.length<=300):cJ ⟨(er L).toArray⟩=some (L,8*(L.length+5)):=by
 have hP:=tB L h;obtain⟨b1,b2,b3⟩:=mG hP;have hl:=rJ L h;rw[←xU L h]at hl ⊢;rw[hl]at b2;have hb:bN (dx L.length++bj L)=40+8*L.length:=by
  rw[cM,E6];rfl
 have:=qo (T:=L) hP (by omega) (by
  rw[hl,←b1,hb];refine mn (k:=0) b3 (by omega) ?_;unfold fu;rw[a0d rfl];have h3:=Ec (R:=[]) (V:=(aT (dx L.length++bj L)).1) (sz:=8*(L.length+5)) (p:=0+1+2) (c:=5) (L:=L) (l:=[]) (by decide) (by rw[a1l];exact b3.2.2) (by omega) (by simpa using h);rw[h3];simp only[a0R])
 rw[this,hl]
theorem JG:(List.range 288).all (fun i=>decide (0<(di 288).getD i 0)&&decide ((di 288).getD i 0<=9))=true:=by decide +kernel
theorem FN:(List.range 32).all (fun i=>decide (iz.getD i 0=5))=true:=by decide +kernel
theorem zf{i:Nat}(h:i<288):0<(di 288).getD i 0/\(di 288).getD i 0<=9:=by
 have:=a0Y.1 JG i (List.mem_range.2 h);simpa using this
theorem AR{i:Nat}(h:i<32):iz.getD i 0=5:=by
 have:=a0Y.1 FN i (List.mem_range.2 h);simpa using this
theorem Gi{t:Tk}(ht:okT t=true):zo (di 288) iz t:=by
 have:=lq ht;unfold f9 at this;unfold zo
 split
 ·
  rename_i hB;rw[a0d hB]at this;have l1:(di 288).length=288:=by decide +kernel
  exact(zf (by omega)).1
 ·
  rename_i hB;rw[a0e hB]at this;have l1:(di 288).length=288:=by decide +kernel
  have l2:iz.length=32:=by decide +kernel
  refine⟨(zf (by omega)).1,?_⟩;rw[AR (by omega)];omega
theorem FT:(List.range 61).all (fun y=>decide (y<3) || decide (((di 288).getD (257+fnd 3 4 y 27) 0).toNat+(stF 3 4 (fnd 3 4 y 27)).2+11<=9*y))=true:=by decide +kernel
theorem FQ:(List.range 251).all (fun y=>decide (y<1) || decide ((stF 1 2 (fnd 1 2 y 29)).2<=6))=true:=by decide +kernel
theorem FR{t:Tk}(ht:okT t=true):bN (gh (di 288) iz t)<=9*(if isB t then 1 else t.2.1.toNat):=by
 obtain⟨y,lo,ba⟩:=t;unfold gh;by_cases hB:isB (y,lo,ba)=true
 ·
  rw[a0d hB,a0d hB,dL,iI,jW];have hb:0<=y/\y<=255:=by unfold isB inB at hB;simp only[a0j,a0o]at hB;omega
  have:=zf (i:=y.toNat) (by omega);show((di 288).getD y.toNat 0).toNat+0<=9*1;omega
 ·
  rw[a0e hB,a0e hB];have hK:isK (y,lo,ba)=true:=by unfold okT at ht;simpa[hB]using ht
  have hb:y=0/\3<=lo/\lo<=60/\1<=ba/\ba<=250:=by unfold isK inB at hK;simp only[a0j,a0o]at hK;omega
  obtain⟨rfl,b1,b2,b3,b4⟩:=hb;obtain⟨x,rfl⟩:=a0s (show 0<=lo by omega);obtain⟨z,rfl⟩:=a0s (show 0<=ba by omega);have f1:=a0Y.1 FT x (List.mem_range.2 (by omega));have f2:=a0Y.1 FQ z (List.mem_range.2 (by omega));simp only[a1c,a0o]at f1 f2;have g:=AR (i:=fnd 1 2 z 29) (by have:=iO 1 2 z 29;omega);simp only[dL,iI,jW,a0q];rw[g];omega
theorem JH{L:List UInt8} : ∀(n p:Nat),L.length-p<=n->bN ((bi L p).flatMap (gh (di 288) iz))<=9*(L.length-p):=by
 intro n;induction n with
 | zero=>
  intro p h;rw[dP (by omega)];exact a0h _
 | succ n ih=>
  intro p h;by_cases hp:p<L.length
  ·
   have hok:=tM L L.length p (by omega);rw[ik hp]at hok ⊢;have h1:=FR (hok (ft L p) (by simp));have h3:=fq L p;have h4:=pL hp;have h5:=ih (p+iu L p) (by omega);have h6:(if isB (ft L p)then 1 else(ft L p).2.1.toNat)=iu L p:=by
    unfold ft iu;by_cases hc:(bg L p (min p 250)).1<3
    ·
     have hB:isB ((((L.getD p 0).toNat:Nat):Int),0,0)=true:=by
      have:=(L.getD p 0).toNat_lt;generalize (L.getD p 0).toNat=y at *
      unfold isB inB;simp;omega
     rw[a0d hc,a0d hc,hB];rfl
    ·
     have hB:isB (0,((bg L p (min p 250)).1:Int),((bg L p (min p 250)).2:Int))=false:=by
      unfold isB;simp;omega
     rw[a0e hc,a0e hc,hB];simp
   rw[h6]at h1;rw[a0V,cM];omega
  · rw[dP hp];exact a0h _
theorem sR(s:ByteArray):bN (gX s)=1+2+bN ((bi s.data.toList 0).flatMap (gh (di 288) iz))+7:=by
 unfold gX;rw[cM,cM];have e1:bN [((1:Int),(1:Int)),((1:Int),(2:Int))]=3:=rfl;have e2:bN [pcM (di 288) 256]=7:=by
  rw[dL,iI,jW];decide +kernel
 rw[e1,e2];omega
theorem qL(s:ByteArray)(h:s.size<=300):(dV s).length<=340/\2<=(dV s).length:=by
 have hP:=mR s h;obtain⟨b1,b2,b3⟩:=mG hP;have e:=sR s;have e2:=JH (L:=s.data.toList) s.data.toList.length 0 (by omega);have e3:s.data.toList.length=s.size:=by simp
 have hl:(dV s).length=((aT (gX s)).2+7)/8:=by unfold dV bV;exact aC _ _
 rw[hl,←b1,e];omega
theorem wk(s:ByteArray)(h:s.size<=300):cJ ⟨(dV s).toArray⟩=some (s.data.toList,8*(dV s).length):=by
 have hP:=mR s h;obtain⟨b1,b2,b3⟩:=mG hP;have hl:=(qL s h).1;have e:=sR s;have e3:s.data.toList.length=s.size:=by simp
 have hE:(di 288).getD 256 0=7:=by decide +kernel
 refine qo hP (show(dV s).length<=700 by omega) ?_;have b2':bN (gX s)<=8*(dV s).length:=b2;show gq (aT (gX s)).1 (8*(dV s).length) 0 []=some (s.data.toList,(aT (gX s)).2);refine mn (k:=1) b3 (by omega) ?_;unfold fu ze;rw[a0e (by decide),a0d rfl];have ht:=BJ (L:=di 288) (D:=iz) kw qK (V:=(aT (gX s)).1) (sz:=8*(dV s).length) (by rw[hE];omega) (l:=[]) (bi s.data.toList 0) (0+1+2) [] s.data.toList (fun t ht=>⟨fW s t ht,Gi (fW s t ht)⟩) b3.2.2 (by rw[hE];simp only[Int.reduceToNat];omega) (rO (by omega));rw[hE]at ht;simp only[Int.reduceToNat]at ht;have ht':jE (aT (gX s)).1 (8*(dV s).length) (di 288) (List.replicate 32 5) (0+1+2) []=_:=ht;rw[ht',←b1,e]
theorem Lr(s:ByteArray)(h:s.size<=300):cJ (byS s)=some (s.data.toList,8*(byS s).size)/\(byS s).size=s.size+5:=by
 have hl:s.data.toList.length=s.size:=lC s;have h1:=wl s.data.toList (by omega);have h2:=rJ s.data.toList (by omega);unfold byS;rw[jV,h1,h2,hl];exact⟨rfl,rfl⟩
theorem Lp(s:ByteArray)(h:s.size<=300):cJ (byF s)=some (s.data.toList,8*(byF s).size)/\2<=(byF s).size/\(byF s).size<=340:=by
 have h1:=wk s h;have h2:=qL s h;unfold byF kh;rw[a0d h,jV,h1];exact⟨rfl,h2.2,h2.1⟩
theorem uN{a r:List Int}(hl:r.length=a.length)(h:∀j,j<a.length->r.getD j 0=a.getD j 0):r=a:=by
 apply a2t hl;intro j h1 h2;have:=h j h2;simpa[List.getD,h1,h2]using this
theorem LF{V:Nat}{a:List Int}{l:List (Int×Int)} : ∀(is:List Nat) (p:Nat) (r:List Int),Std V p (is.map (fun i=>(a.getD i 0,(3:Int)))++l)->(∀i∈is,0<=a.getD i 0/\i<r.length)->∀j,(lbV V is p r).getD j 0=if j∈is then a.getD j 0 else r.getD j 0:=by
 intro is;induction is with
 | nil=>intro p r _ _ j;simp[lbV]
 | cons i is ih=>
  intro p r h hi j;rw[a0p,a08]at h;have h1:V/2 ^ p%2 ^ 3=(a.getD i 0).toNat:=h.1;have h2:=h.2;obtain⟨i1,i2⟩:=hi i (by simp);simp only[lbV];rw[h1,a3s i1,ih (p+3) _ h2 (fun k hk=>by rw[a1w];exact hi k (by simp[hk])) j];by_cases hj:j∈is
  · rw[a0d hj,a0d (by simp[hj])]
  ·
   rw[a0e hj];by_cases e:j=i
   · subst e;rw[a0d (by simp)];simp[List.getD,i2]
   · rw[a0e (by simp[hj,e])];simp[List.getD,Ne.symm e]
theorem LG{V p:Nat}{a:List Int}{l:List (Int×Int)}(ha:a.length=19)(h0:∀i,i<19->0<=a.getD i 0)(h:Std V p (bD.map (fun i=>(a.getD i 0,(3:Int)))++l)):lbV V bD p (List.replicate 19 0)=a:=by
 have h19:∀i∈bD,i<19:=by decide
 have hall:∀i,i<19->i∈bD:=by decide
 have hg:=LF (a:=a) bD p (List.replicate 19 0) h (fun i hi=>⟨h0 i (h19 i hi),by rw[a0A];exact h19 i hi⟩);have hl:(lbV V bD p (List.replicate 19 0)).length=19:=by rw[J2,a0A]
 exact uN (by rw[hl,ha]) (fun j hj=>by rw[hg j,a0d (hall j (by omega))])
theorem LJ{B:List Int}(hok:am B=true){V sz:Nat}{l:List (Int×Int)} : ∀(A R:List Int) (p:Nat),(∀x∈A,0<=x/\x<=15/\0<B.getD x.toNat 0)->Std V p (A.map (fun x=>pcM B x.toNat)++l)->p+bN (A.map (fun x=>pcM B x.toNat))<=sz->lnG V sz B (R.length+A.length) p R=some (R++A,p+bN (A.map (fun x=>pcM B x.toNat))):=by
 intro A;induction A with
 | nil=>
  intro R p _ _ hs;rw[a1F,iI,a0X]at hs;rw[wW hs (by simp),a0d (by simp),a1l,a1F,iI,a0X]
 | cons x A ih=>
  intro R p hA h hs;rw[a0p,dL,jW]at hs ⊢;rw[a0p,a08]at h;obtain⟨a1,a2,a3⟩:=hA x (by simp);rw[a0y,wV (by omega) (by omega),mM hok a3 h (by omega)];simp only[a0f];have e:fY V sz R ((x.toNat:Nat):Int) (p+(B.getD x.toNat 0).toNat)=some (R++[x],p+(B.getD x.toNat 0).toNat):=by
   rw[a3s a1];unfold fY;rw[a0e (by omega),a0e (by omega),a0e (by omega)]
  rw[e];simp only[a0f];have:=ih (R++[x]) (p+(B.getD x.toNat 0).toNat) (fun y hy=>hA y (by simp[hy])) h.2 (by omega);rw[a0i,a1v]at this;rw[show R.length+(A.length+1)=R.length+1+A.length by omega,this];simp only[a0O,List.singleton_append,a0k,a0P,a1D];omega
theorem nM(a:List Int)(is:List Nat):bN (is.map (fun i=>(a.getD i 0,(3:Int))))=3*is.length:=by
 induction is with
 | nil=>rfl
 | cons i is ih=>
  rw[a0p,dL,ih,a0y];simp only[Int.reduceToNat];omega
theorem Gr{V sz p:Nat}{L D:List Int}{l:List (Int×Int)}(hL:am L=true)(hD:am D=true)(l0:257<=L.length)(l1:L.length<=286)(d0:1<=D.length)(d1:D.length<=30)(h:Std V p (dJ L D++l))(hs:p+bN (dJ L D)<=sz) :
  wR V sz p=some (L.length,L++D,p+bN (dJ L D)):=by
 have hA:∀x∈L++D,0<=x/\x<=15:=by
  intro x hx;rcases a0S.1 hx with h|h
  · exact lr hL x h
  · exact lr hD x h
 have hAl:(L++D).length=L.length+D.length:=a0i;obtain⟨k1,k2,k3⟩:=uL (L++D) (by omega) (by omega) hA;have hhas:=Dm (L++D) (by omega) (by omega) hA;have e:dJ L D++l=((L.length:Int)-257,(5:Int)) :: ((D.length:Int)-1,(5:Int)) :: ((15:Int),(4:Int)) :: (bD.map (fun i=>((bI (L++D)).getD i 0,(3:Int)))++((L++D).map (fun x=>pcM (bI (L++D)) x.toNat)++l)):=by
  unfold dJ;simp only[a08,a0R,a0O]
 have eb:bN (dJ L D)=5+5+4+3*19+bN ((L++D).map (fun x=>pcM (bI (L++D)) x.toNat)):=by
  unfold dJ;rw[cM,cM,nM];have e1:bN [((L.length:Int)-257,(5:Int)),((D.length:Int)-1,(5:Int)),((15:Int),(4:Int))]=14:=rfl;have e2:bD.length=19:=rfl;rw[e1,e2];omega
 rw[e]at h;rw[eb]at hs ⊢;generalize hB:bI (L++D)=B at *
 have x1:V/2 ^ p%2 ^ 5=L.length-257:=by have:=h.1;simp only[Int.reduceToNat]at this;omega
 have h2:Std V (p+5) _:=h.2;have x2:V/2 ^ (p+5)%2 ^ 5=D.length-1:=by have:=h2.1;simp only[Int.reduceToNat]at this;omega
 have h3:Std V (p+5+5) _:=h2.2;have x3:V/2 ^ (p+5+5)%2 ^ 4=15:=by have:=h3.1;simp only[Int.reduceToNat]at this;exact this
 have h4:Std V (p+5+5+4) _:=h3.2;have hlb:=LG (a:=B) k1 (fun i hi=>(k3 i hi).1) h4;have h5:=(mu.1 h4).2;rw[nM,show bD.length=19 from rfl]at h5;have hlb':lbV V (bD.take (15+4)) (p+5+5+4) (List.replicate 19 0)=B:=by
  rw[show bD.take (15+4)=bD from rfl];exact hlb
 rw[Gq (by omega) x1 x2 x3 hlb',a0d ⟨by omega,k2,by omega,by omega⟩];have hln:=LJ k2 (sz:=sz) (L++D) [] (p+5+5+4+3*(15+4)) (fun x hx=>⟨(hA x hx).1,(hA x hx).2,hhas x hx⟩) h5 (by omega);rw[a02,a0G,hAl,a0R]at hln;rw[show L.length-257+257+(D.length-1+1)=L.length+D.length by omega,show L.length-257+257=L.length by omega,hln];simp only[a0f];rw[List.take_left',List.drop_left',a0d ⟨hL,hD⟩]
 · simp only[a0k,a0P,a1D];omega
 · rfl
 · rfl
theorem G8(T:List Tk)(hT:T.length<=300)(hok:∀t∈T,okT t=true)(t:Tk)(ht:t∈T):zo (cw T) (dw T) t:=by
 obtain⟨h1,h2⟩:=Bz T hT hok t ht;unfold kA at h1;unfold eU at h2;unfold zo
 split
 · rename_i h;rw[a0d h]at h1;exact h1
 · rename_i h;rw[a0e h]at h1 h2;exact⟨h1,h2 _ (by simp)⟩
theorem tr(T:List Tk):bN (jR T)=1+2+bN (dJ (cw T) (dw T))+bN (T.flatMap (gh (cw T) (dw T)))+((cw T).getD 256 0).toNat:=by
 unfold jR;rw[cM,cM,cM,dL (pcM (cw T) 256),iI,jW];have e1:bN [((1:Int),(1:Int)),((2:Int),(2:Int))]=3:=rfl;rw[e1];omega
theorem G3(s:ByteArray)(h:s.size<=300):9<=(oq s).length:=by
 have hT:=kQ s h;have hP:=pI (bi s.data.toList 0) hT (fW s);obtain⟨b1,b2,b3⟩:=mG hP;have e:=tr (bi s.data.toList 0);have hl:(oq s).length=((aT (jR (bi s.data.toList 0))).2+7)/8:=by unfold oq bV;exact aC _ _
 have eb:71<=bN (dJ (cw (bi s.data.toList 0)) (dw (bi s.data.toList 0))):=by
  unfold dJ;rw[cM,cM,nM];have e2:bD.length=19:=rfl;rw[e2,dL,dL,dL];simp only[Int.reduceToNat];omega
 rw[hl,←b1,e];omega
theorem CV(s:ByteArray)(h:s.size<=300)(hx:(oq s).length<=700):cJ ⟨(oq s).toArray⟩=some (s.data.toList,8*(oq s).length):=by
 have hT:=kQ s h;have hok:=fW s;have e3:s.data.toList.length=s.size:=by simp
 have hF:=rO (L:=s.data.toList) (by omega);unfold oq at hx ⊢;generalize bi s.data.toList 0=T at *
 have hP:=pI T hT hok;obtain⟨b1,b2,b3⟩:=mG hP;have e:=tr T;refine qo hP hx ?_;generalize 8*(bV (jR T)).length=sz at *
 generalize (aT (jR T)).1=V at *
 obtain⟨l0,l1⟩:=kC T hT;obtain⟨d0,d1⟩:=nl T hT;have hE:=xC T hT 256 (.inl rfl) (by omega);refine mn (k:=2) b3 (by omega) ?_;have s3:Std V (0+1+2) (dJ (cw T) (dw T)++(T.flatMap (gh (cw T) (dw T))++[pcM (cw T) 256])):=b3.2.2;unfold fu;rw[a0e (by decide),a0e (by decide),a0d rfl,DN,Gr (jy T hT) (lw T hT) l0 l1 d0 d1 s3 (by omega)];simp only[a0f];rw[List.take_left',List.drop_left']
 · have s4:=(mu.1 s3).2;rw[BJ (jy T hT) (lw T hT) hE (l:=[]) T _ [] s.data.toList (fun t ht=>⟨hok t ht,G8 T hT hok t ht⟩) s4 (by omega) hF,←b1,e]
 · rfl
 · rfl
theorem Lq(s:ByteArray)(h:s.size<=300):((byO s).size<=700->cJ (byO s)=some (s.data.toList,8*(byO s).size))/\2<=(byO s).size:=by
 have h2:=G3 s h;unfold byO kF;rw[a0d h,jV];exact⟨fun hx=>CV s h hx,by omega⟩
theorem zh(s:ByteArray)(h:s.size<=300):cJ (bZ s)=some (s.data.toList,8*(bZ s).size)/\(bZ s).size<=s.size+5/\2<=(bZ s).size/\(bZ s).size<=(byS s).size/\(bZ s).size<=(byF s).size/\(bZ s).size<=(byO s).size/\(bZ s=byS s∨bZ s=byF s∨bZ s=byO s):=by
 obtain⟨a1,a2⟩:=Lr s h;obtain⟨b1,b2,b3⟩:=Lp s h;obtain⟨c1,c2⟩:=Lq s h;unfold bZ;by_cases e1:(byF s).size<(byS s).size
 ·
  rw[fJ e1];by_cases e2:(byO s).size<(byF s).size
  · rw[fJ e2];exact⟨c1 (by omega),by omega,c2,by omega,by omega,a0a _,.inr (.inr rfl)⟩
  · rw[gQ e2];exact⟨b1,by omega,b2,by omega,a0a _,by omega,.inr (.inl rfl)⟩
 ·
  rw[gQ e1];by_cases e2:(byO s).size<(byS s).size
  · rw[fJ e2];exact⟨c1 (by omega),by omega,c2,by omega,by omega,a0a _,.inr (.inr rfl)⟩
  · rw[gQ e2];exact⟨a1,by omega,by omega,a0a _,by omega,by omega,.inl rfl⟩
end Go.Proofs.YtfhdadkcophoaaaGreatDoor
