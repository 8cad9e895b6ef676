/- Of what the proof is made: 5 texts, one behind the other. -/
import Derived.Test.YtkpfkgoiaicgbaaGreatDoorM37
import Derived.Test.YtkpfkgoiaicgbaaGreatDoorM25
import Derived.Test.YtkpfkgoiaicgbaaGreatDoorM20
import Derived.Test.YtkpfkgoiaicgbaaGreatDoorM28
import Derived.Test.YtkpfkgoiaicgbaaGreatDoorM34
set_option linter.unusedSimpArgs false
set_option linter.unusedVariables false
namespace Go.Proofs.YtkpfkgoiaicgbaaGreatDoor
open Go.RowKit Corb
theorem jS(l:List UInt8):(⟨l.toArray⟩:ByteArray).size=l.length:=by simp[ByteArray.size]
theorem Cw{V sz:Nat}{l:List (Int×Int)} : ∀(L:List UInt8) (p:Nat) (R:List UInt8),Std V p (bi L++l)->p+8*L.length<=sz->R.length+L.length<=300->gR V sz L.length p R=some (R++L,p+8*L.length):=by
 intro L;induction L with
 | nil=>intro p R _ _ _;simp[gR]
 | cons b L ih=>
  intro p R h hs hR;rw[List.length_cons]at hs hR ⊢;have e:bi (b :: L)++l=(((b.toNat:Nat):Int),(8:Int)) :: (bi L++l):=rfl;rw[e]at h;have h1:=oJ (sz:=sz) h (by show p+8<=sz;omega);simp only[Int.toNat_natCast]at h1;have h1':rdN V sz p 8=some (b.toNat,p+8):=h1;have hb:=b.toNat_lt;simp only[gR];rw[h1'];simp only[Option.bind_some];rw[Ct R b.toNat hb,if_pos (by omega)];simp only[Option.bind_some];rw[vN,ih (p+8) (R++[b]) h.2 (by omega) (by rw[List.length_append,List.length_singleton];omega)];simp only[List.append_assoc,List.singleton_append,Option.some.injEq,Prod.mk.injEq,true_and];omega
theorem Ey{V sz p c:Nat}{L R:List UInt8}{l:List (Int×Int)}(hc:(8-p%8)%8=c)(h:Std V p (((0:Int),(c:Int)) :: ((L.length:Int),(16:Int)) :: (((65535-L.length:Nat):Int),(16:Int)) :: (bi L++l)))(hs:p+c+32+8*L.length<=sz)(hR:R.length+L.length<=300) :
  ic V sz p R=some (R++L,p+c+32+8*L.length):=by
 have h0:=h.1;have h1:=h.2;have h2:=h1.2;have h3:=h2.2;simp only[Int.toNat_natCast,Int.toNat_zero]at h0 h1 h2 h3;unfold ic iZ;rw[hc,if_pos h0];simp only[Option.bind_some];have r1:rdN V sz (p+c) 16=some (L.length,p+c+16):=oJ (sz:=sz) h1 (by show p+c+16<=sz;omega);have r2:rdN V sz (p+c+16) 16=some (65535-L.length,p+c+16+16):=oJ (sz:=sz) h2 (by show p+c+16+16<=sz;omega);rw[r1];simp only[Option.bind_some];rw[r2];simp only[Option.bind_some,if_true];have h3':Std V (p+c+16+16) (bi L++l):=h3;rw[Cw L _ R h3' (by omega) hR]
theorem mw{V sz p k:Nat}{T:List UInt8}{r:List UInt8×Nat}{l:List (Int×Int)}(h:Std V p (((1:Int),(1:Int)) :: ((k:Int),(2:Int)) :: l))(hs:p+1+2<=sz)(hk:fu V sz k (p+1+2) T=some r):gk V sz p T=some r:=by
 have r1:rdN V sz p 1=some (1,p+1):=oJ (sz:=sz) h (by show p+1<=sz;omega);have h2:=h.2;have r2:rdN V sz (p+1) 2=some (k,p+1+2):=by
  have:=oJ (sz:=sz) h2 (by show p+1+2<=sz;omega);simpa using this
 rw[po,r1];simp only[Option.bind_some];rw[r2];simp only[Option.bind_some];rw[hk];rfl
theorem IA{V M:Nat}(h:V<2 ^ M):iZ V M=some (M+(8-M%8)%8):=by
 unfold iZ;rw[Nat.div_eq_of_lt h,Nat.zero_mod,if_pos rfl]
theorem qC{P:List (Int×Int)}{T:List UInt8}(hP:lOk P=true)(hs:(bS P).length<=700)(hp:gk (aU P).1 (8*(bS P).length) 0 []=some (T,(aU P).2)):cH ⟨(bS P).toArray⟩=some (T,8*(bS P).length):=by
 have hl:(bS P).length=((aU P).2+7)/8:=by unfold bS;exact az _ _
 have hv:=Jm hP;rw[dt hP]at hv;have hlt:(aU P).1<2 ^ (aU P).2:=vB P (by unfold lOk at hP;simp only[Bool.and_eq_true]at hP;exact hP.1);unfold cH jE;rw[if_pos (by rw[jS];exact hs)];have e1:au ⟨(bS P).toArray⟩=(aU P).1:=by unfold au;simpa using hv
 have e2:(⟨(bS P).toArray⟩:ByteArray).size=(bS P).length:=jS _;rw[e1,e2,hp];simp only[Option.bind_some];rw[IA hlt];simp only[Option.bind_some,Option.some.injEq,Prod.mk.injEq,true_and];rw[hl];omega
theorem mQ{P:List (Int×Int)}(hP:lOk P=true):bN P=(aU P).2/\bN P<=8*(bS P).length/\Std (aU P).1 0 P:=by
 have h:aN P=true:=by unfold lOk at hP;simp only[Bool.and_eq_true]at hP;exact hP.1
 have h1:=Ez h;have hl:(bS P).length=((aU P).2+7)/8:=by unfold bS;exact az _ _
 have h2:=K8 0 h;rw[Nat.zero_mul,Nat.add_zero]at h2;refine⟨h1,?_,h2⟩;unfold bN;rw[h1,hl];omega
theorem Fv(L:List UInt8):bN (bi L)=8*L.length:=by
 induction L with
 | nil=>rfl
 | cons b L ih=>
  have e:bi (b :: L)=(((b.toNat:Nat):Int),(8:Int)) :: bi L:=rfl;rw[e,dO,ih,List.length_cons];simp only[Int.reduceToNat];omega
theorem tW(L:List UInt8)(h:L.length<=300):lOk (dy L.length++bi L)=true:=by
 have h1:=qI L.length (by omega);have h2:=l9 L (by omega);unfold lOk at h1 h2 ⊢;simp only[Bool.and_eq_true,decide_eq_true_eq]at h1 h2 ⊢;rw[mP,h1.1,h2.1,List.length_append,jg];refine⟨rfl,?_⟩;have:(dy L.length).length=5:=rfl;omega
theorem ym(L:List UInt8)(h:L.length<=300):bS (dy L.length++bi L)=ew L:=by
 rw[←dt (tW L h),tX L h];unfold ew;rw[if_pos h]
theorem se(L:List UInt8)(h:L.length<=300):(ew L).length=L.length+5:=by
 unfold ew;rw[if_pos h,List.length_append,az];omega
theorem wy(L:List UInt8)(h:L.length<=300):cH ⟨(ew L).toArray⟩=some (L,8*(L.length+5)):=by
 have hP:=tW L h;obtain⟨b1,b2,b3⟩:=mQ hP;have hl:=se L h;rw[←ym L h]at hl ⊢;rw[hl]at b2;have hb:bN (dy L.length++bi L)=40+8*L.length:=by
  rw[cK,Fv];rfl
 have:=qC (T:=L) hP (by omega) (by
  rw[hl,←b1,hb];refine mw (k:=0) b3 (by omega) ?_;unfold fu;rw[if_pos rfl];have h3:=Ey (R:=[]) (V:=(aU (dy L.length++bi L)).1) (sz:=8*(L.length+5)) (p:=0+1+2) (c:=5) (L:=L) (l:=[]) (by decide) (by rw[List.append_nil];exact b3.2.2) (by omega) (by simpa using h);rw[h3];simp only[List.nil_append])
 rw[this,hl]
theorem J1:(List.range 288).all (fun i=>decide (0<(dj 288).getD i 0)&&decide ((dj 288).getD i 0<=9))=true:=by decide +kernel
theorem F7:(List.range 32).all (fun i=>decide (iu.getD i 0=5))=true:=by decide +kernel
theorem zC{i:Nat}(h:i<288):0<(dj 288).getD i 0/\(dj 288).getD i 0<=9:=by
 have:=List.all_eq_true.1 J1 i (List.mem_range.2 h);simpa using this
theorem Bl{i:Nat}(h:i<32):iu.getD i 0=5:=by
 have:=List.all_eq_true.1 F7 i (List.mem_range.2 h);simpa using this
theorem GA{t:Tk}(ht:okT t=true):zJ (dj 288) iu t:=by
 have:=ln ht;unfold fW at this;unfold zJ
 split
 ·
  rename_i hB;rw[if_pos hB]at this;have l1:(dj 288).length=288:=by decide +kernel
  exact(zC (by omega)).1
 ·
  rename_i hB;rw[if_neg hB]at this;have l1:(dj 288).length=288:=by decide +kernel
  have l2:iu.length=32:=by decide +kernel
  refine⟨(zC (by omega)).1,?_⟩;rw[Bl (by omega)];omega
theorem Gc:(List.range 61).all (fun y=>decide (y<3) || decide (((dj 288).getD (257+fnd 3 4 y 27) 0).toNat+(stF 3 4 (fnd 3 4 y 27)).2+11<=9*y))=true:=by decide +kernel
theorem Ga:(List.range 251).all (fun y=>decide (y<1) || decide ((stF 1 2 (fnd 1 2 y 29)).2<=6))=true:=by decide +kernel
theorem Gb{t:Tk}(ht:okT t=true):bN (f9 (dj 288) iu t)<=9*(if isB t then 1 else t.2.1.toNat):=by
 obtain⟨y,lo,ba⟩:=t;unfold f9;by_cases hB:isB (y,lo,ba)=true
 ·
  rw[if_pos hB,if_pos hB,dO,iF,jT];have hb:0<=y/\y<=255:=by unfold isB inB at hB;simp only[Bool.and_eq_true,decide_eq_true_eq]at hB;omega
  have:=zC (i:=y.toNat) (by omega);show((dj 288).getD y.toNat 0).toNat+0<=9*1;omega
 ·
  rw[if_neg hB,if_neg hB];have hK:isK (y,lo,ba)=true:=by unfold okT at ht;simpa[hB]using ht
  have hb:y=0/\3<=lo/\lo<=60/\1<=ba/\ba<=250:=by unfold isK inB at hK;simp only[Bool.and_eq_true,decide_eq_true_eq]at hK;omega
  obtain⟨rfl,b1,b2,b3,b4⟩:=hb;obtain⟨x,rfl⟩:=Int.eq_ofNat_of_zero_le (show 0<=lo by omega);obtain⟨z,rfl⟩:=Int.eq_ofNat_of_zero_le (show 0<=ba by omega);have f1:=List.all_eq_true.1 Gc x (List.mem_range.2 (by omega));have f2:=List.all_eq_true.1 Ga z (List.mem_range.2 (by omega));simp only[Bool.or_eq_true,decide_eq_true_eq]at f1 f2;have g:=Bl (i:=fnd 1 2 z 29) (by have:=iL 1 2 z 29;omega);simp only[dO,iF,jT,Int.toNat_natCast];rw[g];omega
theorem J2{L:List UInt8} : ∀(n p:Nat),L.length-p<=n->bN ((bh L p).flatMap (f9 (dj 288) iu))<=9*(L.length-p):=by
 intro n;induction n with
 | zero=>
  intro p h;rw[dR (by omega)];exact Nat.zero_le _
 | succ n ih=>
  intro p h;by_cases hp:p<L.length
  ·
   have hok:=ui L L.length p (by omega);rw[ij hp]at hok ⊢;have h1:=Gb (hok (ft L p) (by simp));have h3:=fo L p;have h4:=qg hp;have h5:=ih (p+iq L p) (by omega);have h6:(if isB (ft L p)then 1 else(ft L p).2.1.toNat)=iq L p:=by
    unfold ft iq;by_cases hc:(bf L p (min p 250)).1<3
    ·
     have hB:isB ((((L.getD p 0).toNat:Nat):Int),0,0)=true:=by
      have:=(L.getD p 0).toNat_lt;generalize (L.getD p 0).toNat=y at *
      unfold isB inB;simp;omega
     rw[if_pos hc,if_pos hc,hB];rfl
    ·
     have hB:isB (0,((bf L p (min p 250)).1:Int),((bf L p (min p 250)).2:Int))=false:=by
      unfold isB;simp;omega
     rw[if_neg hc,if_neg hc,hB];simp
   rw[h6]at h1;rw[List.flatMap_cons,cK];omega
  · rw[dR hp];exact Nat.zero_le _
theorem tk(s:ByteArray):bN (gT s)=1+2+bN ((bh s.data.toList 0).flatMap (f9 (dj 288) iu))+7:=by
 unfold gT;rw[cK,cK];have e1:bN [((1:Int),(1:Int)),((1:Int),(2:Int))]=3:=rfl;have e2:bN [pcM (dj 288) 256]=7:=by
  rw[dO,iF,jT];decide +kernel
 rw[e1,e2];omega
theorem qZ(s:ByteArray)(h:s.size<=300):(dW s).length<=340/\2<=(dW s).length:=by
 have hP:=mZ s h;obtain⟨b1,b2,b3⟩:=mQ hP;have e:=tk s;have e2:=J2 (L:=s.data.toList) s.data.toList.length 0 (by omega);have e3:s.data.toList.length=s.size:=by simp
 have hl:(dW s).length=((aU (gT s)).2+7)/8:=by unfold dW bS;exact az _ _
 rw[hl,←b1,e];omega
theorem ww(s:ByteArray)(h:s.size<=300):cH ⟨(dW s).toArray⟩=some (s.data.toList,8*(dW s).length):=by
 have hP:=mZ s h;obtain⟨b1,b2,b3⟩:=mQ hP;have hl:=(qZ s h).1;have e:=tk s;have e3:s.data.toList.length=s.size:=by simp
 have hE:(dj 288).getD 256 0=7:=by decide +kernel
 refine qC hP (show(dW s).length<=700 by omega) ?_;have b2':bN (gT s)<=8*(dW s).length:=b2;show gk (aU (gT s)).1 (8*(dW s).length) 0 []=some (s.data.toList,(aU (gT s)).2);refine mw (k:=1) b3 (by omega) ?_;unfold fu zB;rw[if_neg (by decide),if_pos rfl];have ht:=Cb (L:=dj 288) (D:=iu) km qY (V:=(aU (gT s)).1) (sz:=8*(dW s).length) (by rw[hE];omega) (l:=[]) (bh s.data.toList 0) (0+1+2) [] s.data.toList (fun t ht=>⟨fR s t ht,GA (fR s t ht)⟩) b3.2.2 (by rw[hE];simp only[Int.reduceToNat];omega) (sr (by omega));rw[hE]at ht;simp only[Int.reduceToNat]at ht;have ht':jA (aU (gT s)).1 (8*(dW s).length) (dj 288) (List.replicate 32 5) (0+1+2) []=_:=ht;rw[ht',←b1,e]
theorem LG(s:ByteArray)(h:s.size<=300):cH (byS s)=some (s.data.toList,8*(byS s).size)/\(byS s).size=s.size+5:=by
 have hl:s.data.toList.length=s.size:=lF s;have h1:=wy s.data.toList (by omega);have h2:=se s.data.toList (by omega);unfold byS;rw[jS,h1,h2,hl];exact⟨rfl,rfl⟩
theorem LE(s:ByteArray)(h:s.size<=300):cH (byF s)=some (s.data.toList,8*(byF s).size)/\2<=(byF s).size/\(byF s).size<=340:=by
 have h1:=ww s h;have h2:=qZ s h;unfold byF ka;rw[if_pos h,jS,h1];exact⟨rfl,h2.2,h2.1⟩
theorem ve{a r:List Int}(hl:r.length=a.length)(h:∀j,j<a.length->r.getD j 0=a.getD j 0):r=a:=by
 apply List.ext_getElem hl;intro j h1 h2;have:=h j h2;simpa[List.getD,h1,h2]using this
theorem LW{V:Nat}{a:List Int}{l:List (Int×Int)} : ∀(is:List Nat) (p:Nat) (r:List Int),Std V p (is.map (fun i=>(a.getD i 0,(3:Int)))++l)->(∀i∈is,0<=a.getD i 0/\i<r.length)->∀j,(lbV V is p r).getD j 0=if j∈is then a.getD j 0 else r.getD j 0:=by
 intro is;induction is with
 | nil=>intro p r _ _ j;simp[lbV]
 | cons i is ih=>
  intro p r h hi j;rw[List.map_cons,List.cons_append]at h;have h1:V/2 ^ p%2 ^ 3=(a.getD i 0).toNat:=h.1;have h2:=h.2;obtain⟨i1,i2⟩:=hi i (by simp);simp only[lbV];rw[h1,Int.toNat_of_nonneg i1,ih (p+3) _ h2 (fun k hk=>by rw[List.length_set];exact hi k (by simp[hk])) j];by_cases hj:j∈is
  · rw[if_pos hj,if_pos (by simp[hj])]
  ·
   rw[if_neg hj];by_cases e:j=i
   · subst e;rw[if_pos (by simp)];simp[List.getD,i2]
   · rw[if_neg (by simp[hj,e])];simp[List.getD,Ne.symm e]
theorem LX{V p:Nat}{a:List Int}{l:List (Int×Int)}(ha:a.length=19)(h0:∀i,i<19->0<=a.getD i 0)(h:Std V p (bw.map (fun i=>(a.getD i 0,(3:Int)))++l)):lbV V bw p (List.replicate 19 0)=a:=by
 have h19:∀i∈bw,i<19:=by decide
 have hall:∀i,i<19->i∈bw:=by decide
 have hg:=LW (a:=a) bw p (List.replicate 19 0) h (fun i hi=>⟨h0 i (h19 i hi),by rw[List.length_replicate];exact h19 i hi⟩);have hl:(lbV V bw p (List.replicate 19 0)).length=19:=by rw[Kj,List.length_replicate]
 exact ve (by rw[hl,ha]) (fun j hj=>by rw[hg j,if_pos (hall j (by omega))])
theorem L2{B:List Int}(hok:ap B=true){V sz:Nat}{l:List (Int×Int)} : ∀(A R:List Int) (p:Nat),(∀x∈A,0<=x/\x<=15/\0<B.getD x.toNat 0)->Std V p (A.map (fun x=>pcM B x.toNat)++l)->p+bN (A.map (fun x=>pcM B x.toNat))<=sz->lnG V sz B (R.length+A.length) p R=some (R++A,p+bN (A.map (fun x=>pcM B x.toNat))):=by
 intro A;induction A with
 | nil=>
  intro R p _ _ hs;rw[List.map_nil,iF,Nat.add_zero]at hs;rw[xl hs (by simp),if_pos (by simp),List.append_nil,List.map_nil,iF,Nat.add_zero]
 | cons x A ih=>
  intro R p hA h hs;rw[List.map_cons,dO,jT]at hs ⊢;rw[List.map_cons,List.cons_append]at h;obtain⟨a1,a2,a3⟩:=hA x (by simp);rw[List.length_cons,xj (by omega) (by omega),mU hok a3 h (by omega)];simp only[Option.bind_some];have e:fT V sz R ((x.toNat:Nat):Int) (p+(B.getD x.toNat 0).toNat)=some (R++[x],p+(B.getD x.toNat 0).toNat):=by
   rw[Int.toNat_of_nonneg a1];unfold fT;rw[if_neg (by omega),if_neg (by omega),if_neg (by omega)]
  rw[e];simp only[Option.bind_some];have:=ih (R++[x]) (p+(B.getD x.toNat 0).toNat) (fun y hy=>hA y (by simp[hy])) h.2 (by omega);rw[List.length_append,List.length_singleton]at this;rw[show R.length+(A.length+1)=R.length+1+A.length by omega,this];simp only[List.append_assoc,List.singleton_append,Option.some.injEq,Prod.mk.injEq,true_and];omega
theorem nV(a:List Int)(is:List Nat):bN (is.map (fun i=>(a.getD i 0,(3:Int))))=3*is.length:=by
 induction is with
 | nil=>rfl
 | cons i is ih=>
  rw[List.map_cons,dO,ih,List.length_cons];simp only[Int.reduceToNat];omega
theorem GI{V sz p:Nat}{L D:List Int}{l:List (Int×Int)}(hL:ap L=true)(hD:ap D=true)(l0:257<=L.length)(l1:L.length<=286)(d0:1<=D.length)(d1:D.length<=30)(h:Std V p (dM L D++l))(hs:p+bN (dM L D)<=sz) :
  xd V sz p=some (L.length,L++D,p+bN (dM L D)):=by
 have hA:∀x∈L++D,0<=x/\x<=15:=by
  intro x hx;rcases List.mem_append.1 hx with h|h
  · exact lq hL x h
  · exact lq hD x h
 have hAl:(L++D).length=L.length+D.length:=List.length_append;obtain⟨k1,k2,k3⟩:=uZ (L++D) (by omega) (by omega) hA;have hhas:=DG (L++D) (by omega) (by omega) hA;have e:dM L D++l=((L.length:Int)-257,(5:Int)) :: ((D.length:Int)-1,(5:Int)) :: ((15:Int),(4:Int)) :: (bw.map (fun i=>((bD (L++D)).getD i 0,(3:Int)))++((L++D).map (fun x=>pcM (bD (L++D)) x.toNat)++l)):=by
  unfold dM;simp only[List.cons_append,List.nil_append,List.append_assoc]
 have eb:bN (dM L D)=5+5+4+3*19+bN ((L++D).map (fun x=>pcM (bD (L++D)) x.toNat)):=by
  unfold dM;rw[cK,cK,nV];have e1:bN [((L.length:Int)-257,(5:Int)),((D.length:Int)-1,(5:Int)),((15:Int),(4:Int))]=14:=rfl;have e2:bw.length=19:=rfl;rw[e1,e2];omega
 rw[e]at h;rw[eb]at hs ⊢;generalize hB:bD (L++D)=B at *
 have x1:V/2 ^ p%2 ^ 5=L.length-257:=by have:=h.1;simp only[Int.reduceToNat]at this;omega
 have h2:Std V (p+5) _:=h.2;have x2:V/2 ^ (p+5)%2 ^ 5=D.length-1:=by have:=h2.1;simp only[Int.reduceToNat]at this;omega
 have h3:Std V (p+5+5) _:=h2.2;have x3:V/2 ^ (p+5+5)%2 ^ 4=15:=by have:=h3.1;simp only[Int.reduceToNat]at this;exact this
 have h4:Std V (p+5+5+4) _:=h3.2;have hlb:=LX (a:=B) k1 (fun i hi=>(k3 i hi).1) h4;have h5:=(mC.1 h4).2;rw[nV,show bw.length=19 from rfl]at h5;have hlb':lbV V (bw.take (15+4)) (p+5+5+4) (List.replicate 19 0)=B:=by
  rw[show bw.take (15+4)=bw from rfl];exact hlb
 rw[GH (by omega) x1 x2 x3 hlb',if_pos ⟨by omega,k2,by omega,by omega⟩];have hln:=L2 k2 (sz:=sz) (L++D) [] (p+5+5+4+3*(15+4)) (fun x hx=>⟨(hA x hx).1,(hA x hx).2,hhas x hx⟩) h5 (by omega);rw[List.length_nil,Nat.zero_add,hAl,List.nil_append]at hln;rw[show L.length-257+257+(D.length-1+1)=L.length+D.length by omega,show L.length-257+257=L.length by omega,hln];simp only[Option.bind_some];rw[List.take_left',List.drop_left',if_pos ⟨hL,hD⟩]
 · simp only[Option.some.injEq,Prod.mk.injEq,true_and];omega
 · rfl
 · rfl
theorem Ig(T:List Tk)(hT:T.length<=300)(hok:∀t∈T,okT t=true)(t:Tk)(ht:t∈T):zJ (cn T) (dx T) t:=by
 obtain⟨h1,h2⟩:=BP T hT hok t ht;unfold kp at h1;unfold eT at h2;unfold zJ
 split
 · rename_i h;rw[if_pos h]at h1;exact h1
 · rename_i h;rw[if_neg h]at h1 h2;exact⟨h1,h2 _ (by simp)⟩
theorem tM(T:List Tk):bN (jO T)=1+2+bN (dM (cn T) (dx T))+bN (T.flatMap (f9 (cn T) (dx T)))+((cn T).getD 256 0).toNat:=by
 unfold jO;rw[cK,cK,cK,dO (pcM (cn T) 256),iF,jT];have e1:bN [((1:Int),(1:Int)),((2:Int),(2:Int))]=3:=rfl;rw[e1];omega
theorem Ic(s:ByteArray)(h:s.size<=300):9<=(oD s).length:=by
 have hT:=kN s h;have hP:=qb (bh s.data.toList 0) hT (fR s);obtain⟨b1,b2,b3⟩:=mQ hP;have e:=tM (bh s.data.toList 0);have hl:(oD s).length=((aU (jO (bh s.data.toList 0))).2+7)/8:=by unfold oD bS;exact az _ _
 have eb:71<=bN (dM (cn (bh s.data.toList 0)) (dx (bh s.data.toList 0))):=by
  unfold dM;rw[cK,cK,nV];have e2:bw.length=19:=rfl;rw[e2,dO,dO,dO];simp only[Int.reduceToNat];omega
 rw[hl,←b1,e];omega
theorem Dn(s:ByteArray)(h:s.size<=300)(hx:(oD s).length<=700):cH ⟨(oD s).toArray⟩=some (s.data.toList,8*(oD s).length):=by
 have hT:=kN s h;have hok:=fR s;have e3:s.data.toList.length=s.size:=by simp
 have hF:=sr (L:=s.data.toList) (by omega);unfold oD at hx ⊢;generalize bh s.data.toList 0=T at *
 have hP:=qb T hT hok;obtain⟨b1,b2,b3⟩:=mQ hP;have e:=tM T;refine qC hP hx ?_;generalize 8*(bS (jO T)).length=sz at *
 generalize (aU (jO T)).1=V at *
 obtain⟨l0,l1⟩:=kx T hT;obtain⟨d0,d1⟩:=ny T hT;have hE:=xM T hT 256 (.inl rfl) (by omega);refine mw (k:=2) b3 (by omega) ?_;have s3:Std V (0+1+2) (dM (cn T) (dx T)++(T.flatMap (f9 (cn T) (dx T))++[pcM (cn T) 256])):=b3.2.2;unfold fu;rw[if_neg (by decide),if_neg (by decide),if_pos rfl,D8,GI (js T hT) (lw T hT) l0 l1 d0 d1 s3 (by omega)];simp only[Option.bind_some];rw[List.take_left',List.drop_left']
 · have s4:=(mC.1 s3).2;rw[Cb (js T hT) (lw T hT) hE (l:=[]) T _ [] s.data.toList (fun t ht=>⟨hok t ht,Ig T hT hok t ht⟩) s4 (by omega) hF,←b1,e]
 · rfl
 · rfl
theorem LF(s:ByteArray)(h:s.size<=300):((byO s).size<=700->cH (byO s)=some (s.data.toList,8*(byO s).size))/\2<=(byO s).size:=by
 have h2:=Ic s h;unfold byO kz;rw[if_pos h,jS];exact⟨fun hx=>Dn s h hx,by omega⟩
theorem zE(s:ByteArray)(h:s.size<=300):cH (bV s)=some (s.data.toList,8*(bV s).size)/\(bV s).size<=s.size+5/\2<=(bV s).size/\(bV s).size<=(byS s).size/\(bV s).size<=(byF s).size/\(bV s).size<=(byO s).size/\(bV s=byS s∨bV s=byF s∨bV s=byO s):=by
 obtain⟨a1,a2⟩:=LG s h;obtain⟨b1,b2,b3⟩:=LE s h;obtain⟨c1,c2⟩:=LF s h;unfold bV;by_cases e1:(byF s).size<(byS s).size
 ·
  rw[fI e1];by_cases e2:(byO s).size<(byF s).size
  · rw[fI e2];exact⟨c1 (by omega),by omega,c2,by omega,by omega,Nat.le_refl _,.inr (.inr rfl)⟩
  · rw[gK e2];exact⟨b1,by omega,b2,by omega,Nat.le_refl _,by omega,.inr (.inl rfl)⟩
 ·
  rw[gK e1];by_cases e2:(byO s).size<(byS s).size
  · rw[fI e2];exact⟨c1 (by omega),by omega,c2,by omega,by omega,Nat.le_refl _,.inr (.inr rfl)⟩
  · rw[gK e2];exact⟨a1,by omega,by omega,Nat.le_refl _,by omega,by omega,.inl rfl⟩
end Go.Proofs.YtkpfkgoiaicgbaaGreatDoor
