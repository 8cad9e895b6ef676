/- Of what the proof is made: 4 texts, one behind the other. -/
import Derived.Test.YtkpfkgoiaicgbaaGreatDoorM45
import Derived.Test.YtkpfkgoiaicgbaaGreatDoorM36
import Derived.Test.YtkpfkgoiaicgbaaGreatDoorM30
import Derived.Test.YtkpfkgoiaicgbaaGreatDoorM44
import Derived.Test.YtkpfkgoiaicgbaaGreatDoorM40
import Derived.Test.YtkpfkgoiaicgbaaGreatDoorM33
import Derived.Deep.RegionWith
import Derived.BigQuiet
import Derived.Deep.QuietTactic
set_option linter.unusedSimpArgs false
set_option linter.unusedVariables false
set_option maxHeartbeats 12800000
namespace Go.Proofs.YtkpfkgoiaicgbaaGreatDoor
open Go.RowKit Corb
set_option maxRecDepth 100000
theorem Ah:∀x∈nv++iw,(x.data.toList == [110,111,98,111,100,121])=false/\di [110,111,98,111,100,121] x.data.toList=false:=by decide
theorem DY{l:List Fl}(h:NmF l){e:Fl}(he:e∈l):(e.p.toList == (⟨#[110,111,98,111,100,121]⟩:ByteArray).toList)=false/\di (⟨#[110,111,98,111,100,121]⟩:ByteArray).data.toList e.p.data.toList=false:=by
 rw[Lib.toList_data,Lib.toList_data];exact Ah _ (h e he)
theorem yO(b base:Nat)(l:List Fl)(w:World)(h:lO w base b l)(hl:l.length<=90)(hno:NmF l) :
  Calls Tryz.prog 30 #[.pointer (some ⟨b,0,none⟩),.string ⟨#[110,111,98,111,100,121]⟩] w fun e w'=>e = .returned (.slice none 0 0)/\w'=w:=by
 obtain⟨n,hn⟩:∃n,l.length=n:=⟨_,rfl⟩;obtain⟨mb,v,hb,hmb,hc,hM,hO⟩:=h;rw[hn]at hO hl;have hpl:(aF l).length=n:=by rw[←hn];simp[aF]
 obtain⟨a,cap,rfl⟩:=gG hO;have hRow:=lz hpl hO;have c1:w.cell? ⟨b,1,none⟩=some (.slice a n cap):=by rw[cell_of_row w b 1 _ _ (0,0) hc];rfl
 have e0:((⟨#[110,111,98,111,100,121]⟩:ByteArray).toList == (⟨#[]⟩:ByteArray).toList)=false:=by rw[Lib.toList_data,Lib.toList_data];rfl
 have hmI:(n:Int)<=90:=by omega
 have Hn:=af hn;have HR:=af hRow;have HPl:=af hpl;have HNo:=af hno;clear hn hc hM hO hRow hpl hl hno;go_enter Tryz.func30,Tryz.ntmps30;go_wp2_with fail;clear c1
 go_loop [5,7,13] (fun o _ i=>∃k:Nat,k<=n/\i = .int .i64 k/\o = .slice none 0 0) (fun _ _ i=>n-(intOf i).toNat)
 case atStart=>exact⟨0,Nat.zero_le _,rfl,rfl⟩
 case round=>
  obtain⟨k,hk,rfl,rfl⟩:=hrel;by_cases hlt:k<n
  ·
   have hltI:(k:Int)<(n:Int):=by omega
   obtain⟨g,rfl,hg,hcc⟩:=(ae HR) (by have:=ae HPl;omega);have cp:=hcc k (by have:=ae HPl;omega);rw[ju]at cp;obtain⟨n1,n2⟩:=DY (ae HNo) (e:=l.getD k default) (by have:=ae Hn;simp[show k<l.length by omega]);generalize l.getD k default=en at *
   have n3:(en.p.toList == ([110,111,98,111,100,121]:List UInt8))=false:=by rw[show(⟨#[110,111,98,111,100,121]⟩:ByteArray).toList=[110,111,98,111,100,121]from Lib.toList_data _]at n1;exact n1
   have n4:¬ en.p.toList=[110,111,98,111,100,121]:=by simpa using n3
   have n5:¬ en.p=⟨#[110,111,98,111,100,121]⟩:=fun e=>n4 (by rw[e];exact Lib.toList_data _);have CN:=af (hH en.p ⟨#[110,111,98,111,100,121]⟩ w (by decide));rw[n2]at CN;have HK:=af hlt;clear hcc hk hlt n2;go_wp2_with fail;refine(ae CN).mono ?_;rintro e w' ⟨rfl,rfl⟩;go_wp2_with fail
   go_round
   case rel=>exact⟨k+1,by have:=ae HK;omega,by go_num,rfl⟩
   case measure=>have:=ae HK;simp[intOf];omega
  ·
   have hltI:¬ (k:Int)<(n:Int):=by omega
   go_wp2;go_ret;exact⟨rfl,rfl⟩
def enF(e:En):Fl:=⟨e.n,e.t⟩
def fX(l:List Fl)(fs:List En):List Fl:=fs.foldl (fun t e=>bq t (enF e)) l
def iC(l:List Fl)(s:ByteArray):List Fl×Int:=
 if (eK s).isSome=true/\dh l=true then
  if 8<(fX l ((eK s).getD [])).length then(l,4)else if dh (fX l ((eK s).getD []))=true then(fX l ((eK s).getD []),0)else(l,3)
 else([],1)
theorem yG{l:List Fl}(h:dh l=true)(i:Nat)(hi:i<l.length):lN l i=true:=by
 unfold dh at h;rw[Bool.and_eq_true]at h;exact List.all_eq_true.1 h.1 i (List.mem_range.2 hi)
theorem yF{l:List Fl}(h:dh l=true):l.length<=8:=by
 unfold dh at h;rw[Bool.and_eq_true]at h;simpa using h.2
theorem ul{l:List Fl}(h:dh l=true):fS l:=by
 unfold fS;rw[List.pairwise_iff_getElem];intro i j hi hj hij;have:=Jk (l:=l) l.length (fun i hi=>by
  have h1:=yG h i hi;unfold lN at h1;rw[Bool.and_eq_true,Bool.and_eq_true]at h1;exact h1.2.1) j hj i hij
 simpa[pA,hi,hj]using this
def nU(f:Fl):Prop:=f.p.size<=43/\f.t.size<=300
theorem AJ{l:List Fl}(h:dh l=true):∀f∈l,nU f:=by
 intro f hf;obtain⟨i,hi,rfl⟩:=List.mem_iff_getElem.1 hf;have h1:=yG h i hi;unfold lN pu at h1;rw[Bool.and_eq_true,Bool.and_eq_true]at h1;have h2:=h1.1;have e:l.getD i default=l[i]:=by simp[hi]
 unfold pA at h2;rw[e]at h2;exact⟨by have:=rE h2.1;simpa using this,by simpa using h2.2⟩
theorem Fa{s:ByteArray}{fs:List En}(h:eK s=some fs):fs.length<=6/\∀e∈fs,nU (enF e):=by
 obtain⟨m,q,_,rfl,hz,_⟩:=oO h;refine⟨(jG hz).2,fun e he=>?_⟩;obtain⟨i,hi,rfl⟩:=List.mem_iff_getElem.1 he;have h1:=(jG hz).1 i hi;have e:q.1.getD i default=q.1[i]:=by simp[hi]
 rw[e]at h1;obtain⟨a,b,_⟩:=cM (n:=q.1[i].n) (t:=q.1[i].t) h1;exact⟨a,b⟩
theorem tD{l:List Fl}(h:fS l)(fs:List En):fS (fX l fs):=by
 induction fs generalizing l with
 | nil=>exact h
 | cons e fs ih=>exact ih (Em _ h)
theorem GF(l:List Fl)(fs:List En):(fX l fs).length<=l.length+fs.length:=by
 induction fs generalizing l with
 | nil=>exact Nat.le_refl _
 | cons e fs ih=>
  have h1:=ih (bq l (enF e));have h2:=Ir l (enF e);simp only[fX,List.foldl_cons,List.length_cons]at h1 ⊢;omega
theorem zQ{l:List Fl}{fs:List En}(h:∀f∈l,nU f)(hf:∀e∈fs,nU (enF e)):∀f∈fX l fs,nU f:=by
 induction fs generalizing l with
 | nil=>exact h
 | cons e fs ih=>
  refine ih (fun f hm=>?_) (fun e he=>hf e (List.mem_cons_of_mem _ he));rcases rP hm with rfl|hm
  · exact hf e (by simp)
  · exact h f hm
theorem yh{l:List Fl}{n:Nat}(hn:l.length=n)(h:∀f∈l,nU f):nT l n:=by
 intro i hi;have hi':i<l.length:=by omega
 have e:l.getD i default=l[i]:=by simp[hi']
 obtain⟨h1,h2⟩:=h l[i] (List.getElem_mem hi');unfold pA;rw[e];exact⟨by omega,by omega⟩
theorem lp{l:List Fl}(h:fS l)(k:Nat):(l.take k).foldl bq []=l.take k:=by
 have:=Ep (a:=[]) (l:=l.take k) (by rw[List.nil_append];exact List.Pairwise.sublist (List.take_sublist k l) h);simpa using this
theorem Dz(l:List Fl)(fs:List En)(k:Nat)(h:k<fs.length):fX l (fs.take (k+1))=bq (fX l (fs.take k)) (enF (fs.getD k default)):=by
 unfold fX;rw[List.take_succ_eq_append_getElem h,List.foldl_append];simp[h]
theorem ox(a:Option Addr)(cap n:Nat)(l:List Fl)(s:ByteArray)(hn:l.length=n)(m:Int)(w:World)(h:mM w a l)(hl:(n:Int)<=1048576)(hcap:(n:Int)<=(cap:Int))(hs:nT l n)
  (hS:s.size<=1048576) (hm:w.cell? ⟨2,0,none⟩=some (.int .i64 m)) (hg:pG w) (hO:dk w) :
  Calls Tryz.prog 7 #[.slice a n cap,.string s] w fun e w'=>(∃v,e = .returned (.tuple #[v,.int .i64 (iC l s).2])/\gO w' w.heap.size v (iC l s).1)/\Below w.heap.size w w':=by
 have CZ:=af (qQ s m w hS hm hg hO);have CM:=af (fun W (hb:Below w.heap.size w W)=>(hb.cell (p:=⟨2,0,none⟩) (World.block_lt_of_cell? _ _ hm)).trans hm);have Hn:=af hn;have HR:=af h;have HS:=af hs;clear hn h hs hS hm hg hO;go_enter Tryz.func7,Tryz.ntmps7;go_wp2_with fail;refine(ae CZ).mono ?_;rintro e x1 ⟨⟨v,rfl,hown⟩,hb1⟩;have HB1:=af hb1;obtain⟨fs,hfs⟩:∃fs,(eK s).getD []=fs:=⟨_,rfl⟩;rw[hfs]at hown;obtain⟨N,hN⟩:∃N,fs.length=N:=⟨_,rfl⟩;obtain⟨va,vc,rfl,hvc,_⟩:=hown.formN hN;have HV:=af hown;have HFs:=af hfs;have HNl:=af hN;clear hown hb1 hfs hN CZ;cases hz:(eK s).isSome
 ·
  have HT:Hid (iC l s=([],1)):=by
   show _=_;unfold iC;rw[hz];simp
  clear hz;go_wp2
  go_ret2
  rw[ae HT];exact⟨⟨_,rfl,be.nil _ _⟩,ae HB1⟩
 ·
  have HZ:=af hz;clear hz;go_wp2_with fail;refine(fe a cap l n (ae Hn) m _ ((ae HR).later (ae HB1)) hl hcap (ae HS) (ae CM _ (ae HB1))).mono ?_;rintro e x2 ⟨rfl,hb2⟩;have HB2:=af (aj (ae HB1) hb2);have HV2:=af ((ae HV).later hb2 (Nat.le_refl _));clear hb2 HV;cases ht:dh l
  ·
   have HT:Hid (iC l s=([],1)):=by
    show _=_;unfold iC;rw[ht];simp
   clear ht;go_wp2
   go_ret2
   rw[ae HT];exact⟨⟨_,rfl,be.nil _ _⟩,ae HB2⟩
  ·
   have HT:=af ht;have hn8:n<=8:=by rw[←ae Hn];exact yF ht
   have hn8I:(n:Int)<=8:=by omega
   have hsh:=af (AJ ht);have hso:=af (ul ht);have HE:=af (uG a cap n l x2 (ae Hn) ((ae HR).later (ae HB2)) hn8 (fun i hi=>by
    have hi':i<l.length:=by rw[ae Hn];exact hi
    have e:l.getD i default=l[i]:=by simp[hi']
    rw[e];obtain⟨h1,h2⟩:=ae hsh l[i] (List.getElem_mem hi');exact⟨by omega,by omega⟩))
   clear ht;go_wp2_with fail;refine(ae HE).mono ?_;rintro e x3 ⟨wv,rfl,hw3,hb3⟩;obtain⟨wa,wc,rfl,hwc,_⟩:=be.formN (ae Hn) hw3;have HB3:=af (aj (ae HB2) hb3);have HV3:=af ((ae HV2).later hb3 (Nat.le_refl _));have HW3:=af (hw3.mono (ae HB2).size);clear hb3 hw3 HV2 HE;go_wp2_with fail;refine(DR x3).mono ?_;rintro e x4 ⟨⟨b,rfl,hp4⟩,hb4⟩;have HB4:=af (aj (ae HB3) hb4);have HK4:=af hb4;have HP4:=af hp4;clear hb4 hp4;go_wp2_with fail
   go_loopw [11,32] (fun _ i wr=>∃k:Nat,k<=n/\i = .int .i64 k/\pH wr x3.heap.size b (l.take k)/\Below x3.heap.size x3 wr) (fun _ i _=>n-(intOf i).toNat)
   case atStart=>exact⟨0,Nat.zero_le _,rfl,ae HP4,ae HK4⟩
   case round=>
    obtain⟨k,hk,rfl,hp,hbel⟩:=hrel;by_cases hlt:k<n
    ·
     obtain⟨g,o,rfl,hg,hcc⟩:=mM.later (kb (ae Hn) (ae HW3)) hbel (by have:=ae Hn;omega);obtain⟨c0,c1⟩:=hcc k (by have:=ae Hn;omega);have hst:=af (ez l default k (by have:=ae Hn;omega));have hlk:Hid ((l.take k).length=k):=by show _=_;have:=ae Hn;simp;omega
     have hput:Hid (bq (l.take k) (l.getD k default)=l.take (k+1)):=by
      show _=_;have e1:=lp (ae hso) (k+1);rw[ae hst,List.foldl_append,lp (ae hso) k]at e1;rw[ae hst];simpa using e1
     have hsk:=af (show fS (l.take k)from List.Pairwise.sublist (List.take_sublist k l) (ae hso));have Hk:=af hk;clear hcc hk;generalize l.getD k default=en at *
     obtain⟨ep,et⟩:=en;have hA:Below wr.heap.size wr (wr.alloc (.cells #[.string ep,.string et] 39)):=(Below.refl _ _).alloc (Nat.le_refl _) _;have hp1:=hp.later hA (Nat.le_refl _);have hsz:=hbel.size;have HM1:=af (rx b (l.take k) ep et x3.heap.size _ hp1 (ae hsk) (by have:=ae hlk;omega) (by simp;omega));have HA:=af (hbel.trans (hA.mono hbel.size));clear hA hp1 hp hbel;go_wp2_with fail;refine(ae HM1).mono ?_;rintro e x5 ⟨rfl,hp5,hb5⟩;rw[ae hput]at hp5;have HP5:=af hp5;have HB5:=af ((ae HA).trans hb5);clear hp5 hb5 HM1;go_wp2_with fail;go_roundw
     case rel=>exact⟨k+1,by have:=ae Hk;omega,by go_num,ae HP5,ae HB5⟩
     case measure=>simp[intOf];omega
    ·
     have hkn:l.take k=l:=List.take_of_length_le (by rw[ae Hn];omega);rw[hkn]at hp;have HP6:=af hp;have HB6:=af hbel;clear hp hbel hkn;go_wp2_with fail;clear HB4 HK4 HP4;have hfz:=af (Fa (show eK s=some fs by
      have h1:=ae HFs;cases h2:eK s with
      | none=>have h3:=ae HZ;rw[h2]at h3;cases h3
      | some q=>rw[h2]at h1;exact congrArg some h1))
     have hN6:N<=6:=by rw[←ae HNl];exact(ae hfz).1
     have hNI:(N:Int)<=6:=by omega
     have hlen:=af (GF l)
     go_loopw [13,44] (fun _ i wr=>∃k:Nat,k<=N/\i = .int .i64 k/\pH wr x3.heap.size b (fX l (fs.take k))/\Below x3.heap.size x3 wr) (fun _ i _=>N-(intOf i).toNat)
     case atStart=>exact⟨0,Nat.zero_le _,rfl,ae HP6,ae HB6⟩
     case round=>
      clear HP6 HB6;obtain⟨k,hk,rfl,hp,hbel⟩:=hrel;by_cases hlt:k<N
      ·
       obtain⟨g,o,rfl,hg,hcc⟩:=lZ.later (wk (ae HNl) (ae HV3)) hbel (by have:=ae HNl;omega);obtain⟨c0,c1,c2,c3,c4,c5,c6,c7⟩:=hcc k (by have:=ae HNl;omega);have hst:=af (Dz l fs k (by have:=ae HNl;omega));have hlk:Hid ((fX l (fs.take k)).length<=14):=by
        show _<=_;have h1:=ae hlen (fs.take k);have h2:=ae Hn;have h3:(fs.take k).length<=6:=by rw[List.length_take];have:=ae HNl;omega
        omega
       have hsk:=af (tD (ae hso) (fs.take k));have Hk:=af hk;clear hcc hk;generalize fs.getD k default=en at *
       have hA:Below wr.heap.size wr (wr.alloc (.cells #[.string en.n,.int .i64 en.y,.int .i64 en.mo,.int .i64 en.d,.int .i64 en.h,.int .i64 en.mi,.int .i64 en.s,.string en.t] 51)):=(Below.refl _ _).alloc (Nat.le_refl _) _;have hp1:=hp.later hA (Nat.le_refl _);have hsz:=hbel.size;have HM1:=af (rx b (fX l (fs.take k)) en.n en.t x3.heap.size _ hp1 (ae hsk) (by have:=ae hlk;omega) (by simp;omega));have HA:=af (hbel.trans (hA.mono hbel.size));clear hA hp1 hp hbel;go_wp2_with fail;refine(ae HM1).mono ?_;rintro e x5 ⟨rfl,hp5,hb5⟩;have hp6:pH x5 x3.heap.size b (fX l (fs.take (k+1))):=by rw[ae hst];exact hp5
       have HP5:=af hp6;have HB5:=af ((ae HA).trans hb5);clear hp5 hp6 hb5 HM1;go_wp2_with fail;go_roundw
       case rel=>exact⟨k+1,by have:=ae Hk;omega,by go_num,ae HP5,ae HB5⟩
       case measure=>simp[intOf];omega
      ·
       have hkn:fs.take k=fs:=List.take_of_length_le (by rw[ae HNl];omega);rw[hkn]at hp;obtain⟨L,hL⟩:∃L,fX l fs=L:=⟨_,rfl⟩;have hLs:=af (tD (ae hso) fs);have hLf:=af (zQ (ae hsh) (ae hfz).2);have hLn:=af (ae hlen fs);rw[hL]at hp hLs hLf hLn;have HL:=af hL;obtain⟨M,hM⟩:∃M,L.length=M:=⟨_,rfl⟩;have hM14:M<=14:=by
        have h1:=ae hLn;have h2:=ae Hn;have h3:=ae HNl;omega
       have HMl:=af hM;have HWI:=af (AN b x3.heap.size L wr hp (ae hLs) (by omega));have HB6:=af hbel;clear hp hbel hkn hL hM;go_wp2_with fail;refine(ae HWI).mono ?_;rintro e x7 ⟨tv,rfl,ht7,hb7⟩;obtain⟨ta,tc,rfl,htc,_⟩:=be.formN (ae HMl) ht7;have HB7:=af ((ae HB6).trans (hb7.mono (ae HB6).size));have HT7:=af ht7;have hbw:=(ae HB6).size;clear hb7 ht7 HWI HB6;have HBE:=af ((ae HB3).trans ((ae HB7).mono (ae HB3).size));have hsz3:=(ae HB3).size;have HWE:=af (be.later (ae HW3) (ae HB7) (Nat.le_refl _));have HTE:=af (be.mono (ae HT7) (show w.heap.size<=wr.heap.size by omega));have hout:Hid (fX l ((eK s).getD [])=L):=by show _=_;rw[ae HFs];exact ae HL
       by_cases hbig:8<M
       ·
        have hbigI:(8:Int)<(M:Int):=by omega
        have HTk:Hid (iC l s=(l,4)):=by
         show _=_;unfold iC;rw[if_pos ⟨ae HZ,ae HT⟩,ae hout,if_pos (by rw[ae HMl];exact hbig)]
        go_wp2
        go_ret2
        rw[ae HTk];exact⟨⟨_,rfl,ae HWE⟩,ae HBE⟩
       ·
        have hsmI:(M:Int)<=8:=by omega
        have HTO:=af (fe ta tc L M (ae HMl) m x7 (kb (ae HMl) (ae HT7)) (by omega) (by omega) (yh (ae HMl) (ae hLf)) (ae CM _ (ae HBE)));go_wp2_with fail;refine(ae HTO).mono ?_;rintro e x8 ⟨rfl,hb8⟩;have HB8:=af (aj (ae HBE) hb8);have HW8:=af (be.later (ae HWE) hb8 (Nat.le_refl _));have HT8:=af (be.later (ae HTE) hb8 (Nat.le_refl _));clear hb8 HTO HWE HTE HBE;cases hto:dh L
        ·
         have HTk:Hid (iC l s=(l,3)):=by
          show _=_;unfold iC;rw[if_pos ⟨ae HZ,ae HT⟩,ae hout,if_neg (by rw[ae HMl];exact hbig),if_neg (by rw[hto];decide)]
         clear hto;go_wp2
         go_ret2
         rw[ae HTk];exact⟨⟨_,rfl,ae HW8⟩,ae HB8⟩
        ·
         have HTk:Hid (iC l s=(L,0)):=by
          show _=_;unfold iC;rw[if_pos ⟨ae HZ,ae HT⟩,ae hout,if_neg (by rw[ae HMl];exact hbig),if_pos hto]
         clear hto;go_wp2
         go_ret2
         rw[ae HTk];exact⟨⟨_,rfl,ae HT8⟩,ae HB8⟩
theorem vR(a b:Option Addr)(c d n:Nat)(l:List Fl)(w:World)(hn:l.length=n)(ha:mM w a l)(hb:mM w b l)(hl:n<=100) :
  Calls Tryz.prog 10 #[.slice a n c,.slice b n d] w fun e w'=>e = .returned (.bool true)/\Below w.heap.size w w':=by
 have hmix:Tryz.prog.follows .mixedOrders=true:=by kernel_rfl
 have hlI:(n:Int)<=100:=by omega
 have Hn:=af hn;have HA:=af ha;have HB:=af hb;clear hn ha hb hl;go_enter Tryz.func10,Tryz.ntmps10;go_wp2_with fail
 go_loopw [5] (fun i wr=>∃k:Nat,k<=n/\i = .int .i64 k/\Below w.heap.size w wr) (fun i _=>n-(intOf i).toNat)
 case atStart=>exact⟨0,Nat.zero_le _,rfl,Below.refl _ _⟩
 case round=>
  obtain⟨k,hk,rfl,hbel⟩:=hrel;by_cases hlt:k<n
  ·
   obtain⟨g,o,rfl,hg,hcc⟩:=(ae HA).later hbel (by have:=ae Hn;omega);obtain⟨c0,c1⟩:=hcc k (by have:=ae Hn;omega);obtain⟨g2,o2,rfl,hg2,hcc2⟩:=(ae HB).later hbel (by have:=ae Hn;omega);obtain⟨d0,d1⟩:=hcc2 k (by have:=ae Hn;omega);have HBr:=af hbel;have HK:=af hlt;have hltI:(k:Int)<(n:Int):=by omega
   clear hcc hcc2 hbel hk hlt hg hg2;generalize l.getD k default=en at *
   go_wp2_with fail
   go_quiet (fail)
   go_wp2_with fail;go_roundw
   case rel=>exact⟨k+1,by have:=ae HK;omega,by go_num,below_drewN (ae HBr) _⟩
   case measure=>have:=ae HK;simp[intOf];omega
  ·
   have hltI:¬ (k:Int)<(n:Int):=by omega
   go_wp2;go_ret;exact⟨rfl,hbel⟩
end Go.Proofs.YtkpfkgoiaicgbaaGreatDoor
