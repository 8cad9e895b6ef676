/- Of what the proof is made: 2 texts, one behind the other. -/
import Derived.Test.YtfhdadkcophoaaaGreatDoorM41
import Derived.Lib.QuietBelow
import Derived.Test.YtfhdadkcophoaaaGreatDoorM40
import Derived.Test.YtfhdadkcophoaaaGreatDoorM3
import Derived.Test.YtfhdadkcophoaaaGreatDoorM2
import Derived.Deep.RegionLaw
import Derived.Lib.SliceRun
set_option linter.unusedSimpArgs false
set_option linter.unusedVariables false
set_option maxHeartbeats 6400000
namespace Go.Proofs.YtfhdadkcophoaaaGreatDoor
open Go.RowKit Corb
set_option maxRecDepth 100000
theorem qn(l:List En)(k:Nat):l.flatMap bp=(l.take k).flatMap bp++(l.drop k).flatMap bp:=by rw[←a1J,a1s]
theorem take_len{l:List En}{k n:Nat}(hn:l.length=n)(hk:k<=n):((l.take k).flatMap bp).length=k*8:=by rw[ez eV,a0x];omega
theorem mP{l:List En}{k n:Nat}(hn:l.length=n):((l.drop k).flatMap bp).length=(n-k)*8:=by rw[ez eV,a1V,hn]
theorem G4{W:World}{b g n c:Nat}{l:List En}(hn:l.length=n)(h:dC W b (.slice (some ⟨g,0,none⟩) n c) l)(k:Nat)(hk:k<=n):∀j u,((l.drop k).flatMap bp)[j]?=some u->W.cell? ((⟨g,k*8,none⟩:Addr).add j)=some u:=fun j u hj=>by
 have:=a1R (aQ.own hn h) rfl (k*8+j) u (by
  rw[qn l k,List.getElem?_append_right (by rw[take_len hn hk];omega),take_len hn hk,a1y];exact hj)
 rw[Addr.add_lit]at this ⊢;rw[a0G]at this;exact this
theorem He{b g n c:Nat}{l:List En}(hn:l.length=n)(hc:n<=c)(k:Nat)(hk:k<n):∃A:Addr,(if c=k+1 then some (⟨g,0,none⟩:Addr)else some ⟨g,(k+1)*8,none⟩)=some A/\Hid (∀W,dC W b (.slice (some ⟨g,0,none⟩) n c) l->∀j u,((l.drop (k+1)).flatMap bp)[j]?=some u->W.cell? (A.add j)=some u):=by
 by_cases h:c=k+1
 · refine⟨⟨g,0,none⟩,a0d h,fun W _ j u hu=>?_⟩;have hlt:=(List.getElem?_eq_some_iff.1 hu).1;rw[mP hn]at hlt;omega
 · exact⟨⟨g,(k+1)*8,none⟩,a0e h,fun W hW=>G4 hn hW (k+1) hk⟩
theorem sO{l:List En}{k n:Nat}(hn:l.length=n)(hk:k<n):(l.eraseIdx k).length=k+(n-(k+1)):=by rw[List.length_eraseIdx,a0d (by omega)];omega
theorem mj(w:World)(g:Nat)(vs:List Value)(o:Nat):setMany w g o vs=w.setCells g o vs:=by
 induction vs generalizing w o with
 | nil=>rfl
 | cons v vs ih=>exact ih _ _
theorem Cg{P:Program}(w:World)(t e ty:TypeId)(z:Value)(ht:P.underlying t=some (.slice e))(hv:∀w,(zeroValue e).run P w = .ok z w)(h1:∀u∈z.cells.toList,u.oneCell'=true)(b o n c:Nat)(hn:n=1)
  (hc:∀j,j<z.cells.size->(w.cell? ⟨b,o+j,none⟩).isSome=true) (hf:∀j,j<z.cells.size->w.frozen? ⟨b,o+j,none⟩=false) :
  (Builtin.clear_ #[t] ty #[.slice (some ⟨b,o,none⟩) n c]).run P w = .ok (.tuple #[]) (w.setCells b o z.cells.toList):=by
 subst hn;have hzc:(Builtin.zeroCells z.cells 1).toList=z.cells.toList:=by
  apply a2t
  · simp[Builtin.zeroCells]
  ·
   intro i a1 a2;have:i<z.cells.size:=by simpa using a2
   simp[Builtin.zeroCells,a1f this];rw[getElem!_pos z.cells i this]
 have hst:=run_storeCells_cells (P:=P) b o z.cells.toList 0 w (by simpa using hc) (by simpa using hf) h1;simp only[a0X]at hst;simp[Builtin.clear_,a1t ht,hv,hzc,hst]
theorem Ha{w:World}{b g n c:Nat}{l:List En}{e:En}{m:Nat}(hm:l.length=m)(hn:m+1=n)(h:dC w b (.slice (some ⟨g,0,none⟩) n c) (l++[e])):dC w b (.slice (some ⟨g,0,none⟩) m c) l:=by
 subst hm hn;rcases h.2 with⟨e0,_⟩|⟨g',cap,cur,e0,h1,h2,h3,h4,h5,h6⟩
 · cases e0
 ·
  simp only[a0J,a0k,a0v,a0M]at e0;obtain⟨rfl,_,rfl⟩:=e0;rw[a0i]at h3 h6;refine⟨ez eV l,.inr ⟨g,c,cur,rfl,h1,h2,by simp at h3;omega,h4,h5,?_⟩⟩;have e1:(l.flatMap bp).length=l.length*8:=ez eV l;have e2:(l.flatMap bp).take (l.length*8)=l.flatMap bp:=a0t (by rw[e1];exact a0a _);have:=congrArg (List.take (l.length*8)) h6;rw[a3t,a1J,a1d (by rw[e1];exact a0a _),e2]at this;rw[←this]
  congr 1
  simp<;>omega
theorem Fx(l:List En)(k n:Nat)(hn:l.length=n)(hk:k<n)(z:En):uZ (uZ (l.flatMap bp) (k*8) ((l.drop (k+1)).flatMap bp)) ((k+(n-(k+1)))*8) (bp z)=(l.eraseIdx k++[z]).flatMap bp:=by
 have hd:=mP (k:=k+1) hn;have hl:(l.flatMap bp).length=n*8:=by rw[ez eV,hn]
 have ht:(l.flatMap bp).take (k*8)=(l.take k).flatMap bp:=by
  rw[qn l k,a1d (by rw[take_len hn (by omega)];exact a0a _),a0t (by rw[take_len hn (by omega)];exact a0a _)]
 have h3:=take_len (l:=l) (k:=k) hn (by omega);have e1:((l.take k).flatMap bp++(l.drop (k+1)).flatMap bp).length=(k+(n-(k+1)))*8:=by rw[a0i,h3,hd];omega
 have e2:((l.take k).flatMap bp++(l.drop (k+1)).flatMap bp++(l.flatMap bp).drop (k*8+(n-(k+1))*8)).take ((k+(n-(k+1)))*8)=(l.take k).flatMap bp++(l.drop (k+1)).flatMap bp:=by
  rw[a1d (by rw[e1];exact a0a _)];exact a0t (by rw[e1];exact a0a _)
 have e4:((l.take k).flatMap bp++(l.drop (k+1)).flatMap bp++(l.flatMap bp).drop (k*8+(n-(k+1))*8)).length=n*8:=by rw[a0i,e1,a1V,hl];omega
 have e3:((l.take k).flatMap bp++(l.drop (k+1)).flatMap bp++(l.flatMap bp).drop (k*8+(n-(k+1))*8)).drop ((k+(n-(k+1)))*8+8)=[]:=a2V (by rw[e4];omega);rw[u9 _ _ (k*8) (by rw[hd,hl];omega),ht,hd,u9 _ _ _ (by rw[e4,eV];omega),eV,e2,e3];rw[a1l,List.eraseIdx_eq_take_drop_succ,a1J,a1J];simp
theorem y7(g c n k:Nat)(l:List En)(b:Nat)(w:World)(hn:l.length=n)(h:dC w b (.slice (some ⟨g,0,none⟩) n c) l)(h6:n<=6)(hk:k<n) :
  Calls Tryz.prog 69 #[.slice (some ⟨g,0,none⟩) n c,.int .i64 (k:Nat),.int .i64 ((k:Int)+1)] w fun f w'=>f = .returned (.slice (some ⟨g,0,none⟩) (k+(n-(k+1))) c)/\dC w' b (.slice (some ⟨g,0,none⟩) (k+(n-(k+1))) c) (l.eraseIdx k)/\Below b w w':=by
 have hmix:Tryz.prog.follows .mixedOrders=true:=by kernel_rfl
 obtain⟨i0,hi,hz0,hz1,hz2⟩:=a0r Tryz.infoEnt;obtain⟨_,_,e,hc,hcm⟩:=h.formN hn;cases e
 unfold maxLen at hcm;obtain⟨A,hA,HTl⟩:=He (b:=b) (g:=g) hn hc k hk;have HL2:=af (mP (k:=k+1) hn);have hd:dC w.drew b (.slice (some ⟨g,0,none⟩) n c) l:=h;have HSp:Hid (∀j,j<((l.drop (k+1)).flatMap bp).length->(w.drew.cell? ⟨g,0+k*8+j,none⟩).isSome=true/\w.drew.frozen? ⟨g,0+k*8+j,none⟩=false):=fun j hj=>by
  rw[mP hn]at hj;have h1:=aQ.own hn hd;refine⟨?_,a2s h1 _⟩;rw[a06 h1 _ (by omega),List.getElem?_eq_getElem (by rw[ez eV,hn];omega)];rfl
 obtain⟨W1,hW1⟩:∃W,W=w.drew.setCells g (0+k*8) ((l.drop (k+1)).flatMap bp):=⟨_,rfl⟩;have hb1:Below b w W1:=by rw[hW1,←mj];exact pZ (a0b _ _).drew h.below.1 _ _
 have h1:W1.ownsRow b 26 8 (.slice (some ⟨g,0,none⟩) n c) n (uZ (l.flatMap bp) (k*8) ((l.drop (k+1)).flatMap bp)):=by
  rw[hW1,←mj,a0G];exact kE _ _ (aQ.own hn hd)
 have hcl:∀ty,(Builtin.clear_ #[30] ty #[.slice (some ⟨g,(k+(n-(k+1)))*8,none⟩) (n-(k+(n-(k+1)))) (c-(k+(n-(k+1))))]).run Tryz.prog W1 = .ok (.tuple #[]) (W1.setCells g ((k+(n-(k+1)))*8) (Value.cells (.agg #[.string ⟨#[]⟩,.int .i64 0,.int .i64 0,.int .i64 0,.int .i64 0,.int .i64 0,.int .i64 0,.string ⟨#[]⟩])).toList):=fun ty=>by
  refine Cg W1 _ _ ty (.agg #[.string ⟨#[]⟩,.int .i64 0,.int .i64 0,.int .i64 0,.int .i64 0,.int .i64 0,.int .i64 0,.string ⟨#[]⟩]) a1i (fun w=>by kernel_rfl) (eW default) g _ _ _ (by omega) (fun j hj=>?_) (fun j hj=>a2s h1 _);have hj8:j<8:=hj;rw[a06 h1 _ (by omega),List.getElem?_eq_getElem (by rw[h1.1];omega)];rfl
 have HEND:Hid (dC (W1.setCells g ((k+(n-(k+1)))*8) (Value.cells (.agg #[.string ⟨#[]⟩,.int .i64 0,.int .i64 0,.int .i64 0,.int .i64 0,.int .i64 0,.int .i64 0,.string ⟨#[]⟩])).toList) b (.slice (some ⟨g,0,none⟩) (k+(n-(k+1))) c) (l.eraseIdx k)/\Below b w (W1.setCells g ((k+(n-(k+1)))*8) (Value.cells (.agg #[.string ⟨#[]⟩,.int .i64 0,.int .i64 0,.int .i64 0,.int .i64 0,.int .i64 0,.int .i64 0,.string ⟨#[]⟩])).toList)):=by
  rw[←mj];refine⟨Ha (e:=default) (sO hn hk) (n:=n) (by omega) ?_,pZ hb1 h.below.1 _ _⟩;have h2:=kE (bp default) ((k+(n-(k+1)))*8) h1;rw[Fx l k n hn hk default]at h2;show World.ownsRow _ _ _ _ _ _ _;rw[a0i,sO hn hk,show k+(n-(k+1))+[(default:En)].length=n by simp;omega];exact h2
 have hW:=af hW1;have HO:=af hd;have hkI:(k:Int)<(n:Int):=by omega
 have hkc:(k:Int)<=(c:Int):=by omega
 have hk0:0<=(k:Int)+1:=by omega
 have hk1:(k:Int)+1<=(n:Int):=by omega
 have hnI:(n:Int)<=6:=by omega
 have hcI:(n:Int)<=(c:Int):=by omega
 have hcM:(c:Int)<=9223372036854775807:=by omega
 have hne:¬ c=k+(n-(k+1)):=by omega
 have hb2:¬ (k:Int)=(k:Int)+1:=by omega
 clear h hn hW1 h1 hb1 hd;go_enter Tryz.func69,Tryz.ntmps69;go_wp2_with fail
 go_region_law (refine step_append_room rfl (.tmp 22) (.tmp 25) 30 rfl 26 i0 8 a1i hi hz1 g 0 k c (by simp[Act.eval,Act.put]) A (n-(k+1)) (c-(k+1)) ((l.drop (k+1)).flatMap bp) (by simp[Act.eval,Act.put]) (ae HL2) (ae HTl _ (ae HO)) (lk _) (by omega) (ae HSp) ?_;rw[←ae hW])
 go_wp2;go_ret;exact⟨rfl,ae HEND⟩
theorem Jy{x:ByteArray}{l:List En}{k:Nat}(h:atN l x=(k:Int)):iv x l=(0,l.eraseIdx k):=by unfold iv;rw[a0e (by omega),h,a0q]
theorem FE{x:ByteArray}{l:List En}(h:atN l x = -1):iv x l=(2,[]):=by unfold iv;rw[a0d (by omega)]
theorem uk(x:ByteArray)(v:Value)(l:List En)(bx b:Nat)(w:World)(h:dC w b v l)(hz:aY l=true)(hb:b<=w.heap.size)(hx:w.cell? ⟨bx,0,none⟩=some (.string x)) :
  Calls Tryz.prog 67 #[v,.pointer (some ⟨bx,0,none⟩)] w (vn b w (iv x l)):=by
 obtain⟨n,hn⟩:∃n,l.length=n:=⟨_,rfl⟩;obtain⟨a,c,rfl,hc,_⟩:=h.formN hn;have hnI:(n:Int)<=6:=by have:=(da hz).2;omega
 have CF:=af (ut a c l n hn x w (bq hn h) (by omega));have HO:=af h;have Hn:=af hn;have HB:=af hb;clear h hn hb;go_enter Tryz.func67,Tryz.ntmps67;go_wp2_with fail;refine(ae CF).mono ?_;rintro f x2 ⟨rfl,hb2⟩;have HB2:=af (hb2.mono (ae HB));have HO2:=af ((ae HO).later hb2 (a0a _));clear CF hb2 HO hx;rcases Lm l x with hh|⟨k,hk,hh⟩
 ·
  have HD:Hid ((iv x l).1=2):=by show _=_;rw[FE hh]
  rw[AP (by omega)];clear hh;go_wp2
  go_ret2
  exact AJ (ae HD) (by decide) (ae HB2)
 ·
  have HD:=af (Jy hh);rw[we (by omega),hh];have hkn:k<n:=by have:=ae Hn;omega
  have hkI:(k:Int)<(n:Int):=by omega
  obtain⟨g,rfl⟩:=(ae HO2).somes (by omega);have CD:=af (y7 g c n k l b x2 (ae Hn) (ae HO2) (by omega) hkn);clear hh hk;go_wp2_with fail;refine(ae CD).mono ?_;rintro f x3 ⟨rfl,ho,hb3⟩;have HO3:=af ho;have HB3:=af ((ae HB2).trans hb3);clear ho hb3 CD;go_wp2
  go_ret2
  refine⟨⟨.slice (some ⟨g,0,none⟩) (k+(n-(k+1))) c,?_,⟨_,_,_,rfl⟩,fun _=>?_⟩,ae HB3⟩
  · rw[ae HD];rfl
  · rw[ae HD];exact ae HO3
theorem ul(s:ByteArray)(d:List En->Int×List En)(bx:Nat)(m:Int)(w:World)(hs:s.size<=1048576)(hm:w.cell? ⟨2,0,none⟩=some (.int .i64 m))(hg:iq w)(hO:bY w)
  (hd:∀l,aY l=true->(d l).1=0->aY (d l).2=true)
  (hD:∀W v l,dp s=some l->Below w.heap.size w W->dC W w.heap.size v l->Calls Tryz.prog 67 #[v,.pointer (some ⟨bx,0,none⟩)] W (vn w.heap.size W (d l))) :
  Calls Tryz.prog 33 #[.string s,.func (.func 67) #[] #[.pointer (some ⟨bx,0,none⟩)]] w fun f w'=>f = .returned (edR s d)/\Below w.heap.size w w':=by
 have C:=af (dH s m w hs hm hg hO);have HM:=af hm;have hmb:=af (World.block_lt_of_cell? _ _ hm);have CM:=af (fun W (hb:Below w.heap.size w W)=>(hb.cell (p:=⟨2,0,none⟩) (ae hmb)).trans (ae HM));have HG:=af (fun W (hb:Below w.heap.size w W)=>hg.later hb);have HOr:=af (fun W (hb:Below w.heap.size w W)=>hO.later hb);have HD:=af hD;have Hd:=af hd;have HS:=af hs;clear hs hm hg hO hd hD;go_enter Tryz.func33,Tryz.ntmps33;go_wp2_with fail;refine(ae C).mono ?_;rintro f x1 ⟨⟨v,rfl,hown⟩,hb1⟩;have HB1:=af hb1;clear C;rcases hz:dp s with _|l
 ·
  have HE:=af (AL hz d);clear hz hown hb1;go_wp2
  go_ret2
  exact⟨by rw[ae HE];rfl,ae HB1⟩
 ·
  rw[hz]at hown;have CD:=af (ae HD x1 v l hz hb1 hown);have HZ:=af hz;clear hz hown hb1 HD;go_wp2_with fail;refine(ae CD).mono ?_;rintro f x2 ⟨⟨v2,rfl,⟨a,n,c,rfl⟩,hv2⟩,hb2⟩;have HB2:=af ((ae HB1).trans hb2);have CC:=af (iG (d l).1 x2 (ae HG _ (ae HB2)));have HV:=af hv2;clear hb2 hv2 CD;obtain⟨q,hq⟩:∃q,d l=q:=⟨_,rfl⟩;have Hq:=af hq;rw[hq]at CC HV;rw[hq];clear hq;obtain⟨k,r⟩:=q;simp only at CC HV;simp only;obtain⟨FV,hFV⟩:∃x,cH k=x:=⟨_,rfl⟩;rw[hFV]at CC;rw[hFV];clear hFV;go_wp2_with fail;refine(ae CC).mono ?_;rintro f x3 ⟨rfl,hb3⟩;have HB3:=af (ag (ae HB2) hb3);have HB23:=af hb3;clear hb3 CC;by_cases hk:k=0
  ·
   subst hk;have hzb:aY r=true:=by have:=ae Hd l (nJ (ae HZ)) (by rw[ae Hq]);rw[ae Hq]at this;exact this
   have hr:dC x2 w.heap.size (.slice a n c) r:=ae HV rfl;obtain⟨N,hN⟩:∃n,r.length=n:=⟨_,rfl⟩;obtain⟨a',c',e',hc',_⟩:=hr.formN hN;cases e'
   have hr3:=hr.later (ae HB23) (a0a _);have h6:=(da hzb).2;have CP:=af (bB a c r n hN m x3 (bq hN hr3) (by omega) (by omega) (fun i hi=>lK hzb i (by omega)) (ae CM _ (ae HB3)) (ae HG _ (ae HB3)) (ae HOr _ (ae HB3)));have HE:=af (nU (ae HZ) (ae Hq));clear hzb hr hr3 h6 HV HB23 HB2;go_wp2_with fail;refine(ae CP).mono ?_;rintro f x4 ⟨rfl,hb4⟩;have HB4:=af (ag (ae HB3) hb4);clear hb4 CP;go_wp2
   go_ret2
   exact⟨by rw[ae HE];rfl,ae HB4⟩
  ·
   have HE:=af (vV (ae HZ) (ae Hq) hk);have CK:=af (fun W=>jC s W (by have:=ae HS;omega));have hd:decide (k=0)=false:=a0n hk;go_wp2_with fail;refine(ae CK _).mono ?_;rintro f x4 ⟨rfl,hb4⟩;have HB4:=af (ag (ae HB3) hb4);clear hb4 CK;go_wp2
   go_ret2
   exact⟨by rw[ae HE];rfl,ae HB4⟩
theorem uq(x:ByteArray)(w:World) :
  Calls Tryz.prog 41 #[.string x] w fun f w'=>f = .returned (.func (.func 67) #[] #[.pointer (some ⟨w.heap.size,0,none⟩)])/\w'=w.alloc (.cells #[.string x] 9):=by
 go_enter Tryz.func41,Tryz.ntmps41;go_wp2;go_ret;exact⟨rfl,rfl⟩
theorem pr(s x:ByteArray)(m:Int)(w:World)(hs:s.size<=1048576)(hm:w.cell? ⟨2,0,none⟩=some (.int .i64 m))(hg:iq w)(hO:bY w) :
  Calls Tryz.prog 19 #[.string s,.string x] w fun f w'=>f = .returned (edR s (iv x))/\Below w.heap.size w w':=by
 have hA:=af ((a0b w.heap.size w).alloc (a0a _) (.cells #[.string x] 9));have hx:=(az w #[.string x] 9).cell 0 _ rfl;have CD:=af (ul s (iv x) w.heap.size m _ hs (((ae hA).cell (p:=⟨2,0,none⟩) (World.block_lt_of_cell? _ _ hm)).trans hm) (hg.later (ae hA)) (hO.later (ae hA)) (fun _ h h0=>Jz h h0)
   (fun _ v l hz hb2 ho=>uk x v l w.heap.size _ _ ho (nJ hz) hb2.size ((hb2.cell (p:=⟨w.heap.size,0,none⟩) (World.block_lt_of_cell? _ _ hx)).trans hx)))
 clear hs hm hg hO hx;go_enter Tryz.func19,Tryz.ntmps19;go_wp2_with fail;refine(uq x _).mono ?_;rintro f x1 ⟨rfl,hx1⟩;subst hx1;go_wp2_with fail;refine(ae CD).mono ?_;rintro f x2 ⟨rfl,hb2⟩;have HB2:=af (ag (ae hA) hb2);clear hb2 CD hA;obtain⟨t,k,hE⟩:=uo s (iv x);have HE:=af hE;rw[hE];clear hE;go_wp2
 go_ret2
 exact⟨by rw[ae HE];rfl,ae HB2⟩
end Go.Proofs.YtfhdadkcophoaaaGreatDoor
