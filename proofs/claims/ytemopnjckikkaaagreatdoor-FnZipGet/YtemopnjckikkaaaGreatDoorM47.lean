/- Texts. -/
import Derived.Test.YtemopnjckikkaaaGreatDoorM39
import Derived.Test.YtemopnjckikkaaaGreatDoorM37
set_option linter.all false
set_option maxRecDepth 100000
set_option maxHeartbeats 12800000
namespace Go.Proofs.YtemopnjckikkaaaGreatDoor
open Go.Proofs.Tryz
open Go.RowKit Corb
variable {A B c g how:Nat}{E:World->Prop}{N:Nat->Prop}{W W' w:World}{b s:ByteArray}{vs z:List Value}
def Wds(W:World)(B g c:Nat)(s:ByteArray):Prop:=Blk W B [.slice g 15 c]/\g<W.heap.size/\∀j,j<15->W.cell? ⟨g,j,none⟩=some (.int .i64 ((wd s.data.toList (2*j) 2:Nat):Int))
def Wds.later(h:Wds W B g c s)(hb:Below W.heap.size W W'):Wds W' B g c s:=
 ⟨h.1.later hb h.1.1,a0h h.2.1 hb.size,fun j a=>(hb.cell (p:=⟨g,j,none⟩) h.2.1).trans (h.2.2 j a)⟩
def Wds.drew(h:Wds W B g c s):Wds W.drew B g c s:=h
def Wds.set(h:Wds W B g c s)(a:B≠A)(h2:g≠A)(o:Nat)(v:Value):Wds (W.setCell ⟨A,o,none⟩ v) B g c s:=
 ⟨h.1.set_other v a,by simpa using h.2.1,fun j b=>(World.cell?_of_block (w:=W) (Below.heap_setCell W ⟨A,o,none⟩ v g h2)).trans (h.2.2 j b)⟩
def Rk{x y:Nat}(a:x<65536)(b:y<65536):bits .or .i64 (x:Int) ((y:Int)*65536)=((x+65536*y:Nat):Int):=by
 rw[lm 16 (x:Int) ((y:Int)*65536) (by omega) (by omega) (by omega) (by omega) (by omega) (by omega)];omega
def lO(k B g c:Nat)(s:ByteArray)(w:World)(h:Wds w B g c s)(j:k+1<15)(a:30<=s.size) :
  CD 56 #[.int .i64 (k:Int),.pointer B] w (.int .i64 ((wd s.data.toList (2*k) 4:Nat):Int)):=by
 have c1:=h.1.cell 0 _ rfl;have c2:=h.2.2 k (by omega);have c3:=h.2.2 (k+1) j;have m:(k:Int)+1<15:=by omega
 have l:0<=(k:Int)+1:=by omega
 have b:=jg s.data.toList (2*k);have d:=jg s.data.toList (2*(k+1));have e:Hid (∀a:2*k+2<=s.data.toList.length,wd s.data.toList (2*k) 4=wd s.data.toList (2*k) 2+65536*wd s.data.toList (2*(k+1)) 2):=fun a=>Rt a;generalize wd s.data.toList (2*k) 2=X at *
 generalize wd s.data.toList (2*(k+1)) 2=Y at *
 have f:=af (Rk b d);have i:(Y:Int)<65536:=by omega
 clear h b d;go_enter func56,ntmps56;go_wp2_with fail
 go_quiet (fail)
 go_wp2;go_ret;exact⟨aJ (by rw[ae f,ae e (by simp;omega)]),below_drewN (Below.refl _ _) _⟩
def vz(s:ByteArray)(w:World)(b:s.size<=281474976710656) :
  CD 60 #[s] w (.string s):=by
 go_enter func60,ntmps60;go_wp2_with fail;refine(Tryz.stringslite_Clone s _ b).mono ?_;rintro e x1⟨rfl,a⟩;go_wp2;go_ret;exact⟨rfl,a⟩
def uxT(how:Nat)(b:ByteArray):ByteArray:=if how=0∨how=8 then txT how b else⟨#[]⟩
def Dl(hb:b.size<=1048576):(uxT how b).size<=1048576:=by
 unfold uxT
 split
 . exact Dg hb
 . exact a0f _
def QV(h:txO how b=true):uxT how b=txT how b:=by
 unfold uxT;rw[a0c];unfold txO pf at h;by_cases a:how=0
 . exact .inl a
 .
  rw[a0d a]at h;by_cases c:how=8
  . exact .inr c
  . rw[a0d c]at h;cases h
def IF(how:Nat)(st crc pk lg:Int)(nm b:ByteArray)(w:World)(hb:b.size<=1048576)(r:how<65536)(j:ef w) :
  CD 58 #[.agg #[.int .i64 (how:Int),st,crc,pk,lg,nm,b]] w (.tuple #[.string (uxT how b),.bool (txO how b)]):=by
 have h:=cC
 have m:=af ((Below.refl w.heap.size w).alloc (a0a _) (.cells #[.int .i64 (how:Int),st,crc,pk,lg,nm,b] 59));have o:=af (aP w #[.int .i64 (how:Int),st,crc,pk,lg,nm,b] 59);have B:(how:Int)<65536:=by omega
 by_cases g:how=0
 .
  subst g;have e1:uxT 0 b=b:=by simp[uxT,txT]
  have e2:txO 0 b=true:=by simp[txO,pf]
  rw[e1,e2];have y:=af (fun W=>vz b W (by omega));clear j hb r e1 e2;go_enter func58,ntmps58;go_wp2_with fail;refine(y _).mono ?_;rintro e x1⟨rfl,a⟩;have c:=af (aj m a);clear a;go_wp2
  go_ret2
  exact⟨rfl,c⟩
 .
  by_cases p:how=8
  .
   subst p;have l:=af (fun W (j:ef W)=>qR b W (by omega) j);have v:=af (j.later m);rcases f:cF b with _|⟨T,q⟩
   .
    have e1:uxT 8 b=⟨#[]⟩:=by simp[uxT,txT,f]
    have e2:txO 8 b=false:=by simp[txO,pf,f]
    rw[f]at l;rw[e1,e2];simp only[qM]at l;clear hb r f e1 e2 g j;go_enter func58,ntmps58;go_wp2_with fail;refine(l _ (ae v)).mono ?_;rintro e x1⟨rfl,a⟩;have c:=af (aj m a);have n:=(o.later a o.1).cell 6 _ rfl;clear a;go_wp2_with fail;have u:=cell_regrown n;refine wp_region_quiet_below h (by kernel_rfl) ?_;repeat (quiet_step (fail))
    refine wpQuiet_nil ?_;intro zw k;obtain⟨⟨t,osq⟩,d⟩:=k;have i:=below_regrown x1 t osq;rw[←d]at i;have s:=af (aj c i);clear d i u n;go_wp2
    go_ret2
    exact⟨rfl,s⟩
   .
    obtain⟨C,hq⟩:=qL f;have e1:uxT 8 b=⟨T.toArray⟩:=by simp[uxT,txT,f]
    have e2:txO 8 b=decide (((q/8:Nat):Int)=(b.size:Int)):=by
     unfold txO pf;rw[a0d g,a0c rfl,f];by_cases x:q/8=b.size
     . rw[a0x (by omega)];simp[x]
     . rw[a0l (by omega)];simp[x]
    rw[f]at l;rw[e1,e2];simp only[qM]at l;clear hb r f e1 e2 g hq j;generalize (⟨T.toArray⟩:ByteArray)=X at *
    generalize q/8=q8 at *
    go_enter func58,ntmps58;go_wp2_with fail;refine(l _ (ae v)).mono ?_;rintro e x1⟨rfl,a⟩;have c:=af (aj m a);have n:=(o.later a o.1).cell 6 _ rfl;clear a;go_wp2_with fail;have u:=cell_regrown n;refine wp_region_quiet_below h (by kernel_rfl) ?_;repeat (quiet_step (fail))
    refine wpQuiet_nil ?_;intro zw k;obtain⟨⟨t,osq⟩,d⟩:=k;have i:=below_regrown x1 t osq;rw[←d]at i;have s:=af (aj c i);clear d i u n;go_wp2
    go_ret2
    exact⟨rfl,s⟩
  .
   have A:((how:Int) == 8)=false:=by simp;omega
   have z:((how:Int) == 0)=false:=by simp[g]
   have e1:uxT how b=⟨#[]⟩:=by simp[uxT,g,p]
   have e2:txO how b=false:=by simp[txO,pf,g,p]
   rw[e1,e2];clear hb r e1 e2 g p j;go_enter func58,ntmps58;go_wp2
   go_ret2
   exact⟨rfl,m⟩
def HgS(w W:World):Prop:=Below w.heap.size w W/\Blk W w.heap.size [.int .i64 0,.int .i64 0,.int .i64 0,.int .i64 0,.int .i64 0,.string ⟨#[]⟩,.string ⟨#[]⟩]
def HgS.later(k:HgS w W)(hb:Below W.heap.size W W'):HgS w W':=⟨aj k.1 hb,k.2.later hb k.2.1⟩
def HgS.drew(k:HgS w W):HgS w W.drew:=⟨k.1.drew,k.2.drew⟩
def HgS.set(k:HgS w W)(a:w.heap.size<A)(o:Nat)(v:Value):HgS w (W.setCell ⟨A,o,none⟩ v):=⟨ai k.1 (a0r a) _,k.2.set_other v (by omega)⟩
def HgS.set6(k:HgS w W)(a:w.heap.size<A)(a0 a1 a2 a3 a4 a5:Value):HgS w ((((((W.setCell ⟨A,0,none⟩ a0).setCell ⟨A,1,none⟩ a1).setCell ⟨A,2,none⟩ a2).setCell ⟨A,3,none⟩ a3).setCell ⟨A,4,none⟩ a4).setCell ⟨A,5,none⟩ a5):=((((((k.set a 0 a0).set a 1 a1).set a 2 a2).set a 3 a3).set a 4 a4).set a 5 a5)
def HgS.set7(k:HgS w W)(a:w.heap.size<A)(a0 a1 a2 a3 a4 a5 a6:Value):HgS w (((((((W.setCell ⟨A,0,none⟩ a0).setCell ⟨A,1,none⟩ a1).setCell ⟨A,2,none⟩ a2).setCell ⟨A,3,none⟩ a3).setCell ⟨A,4,none⟩ a4).setCell ⟨A,5,none⟩ a5).setCell ⟨A,6,none⟩ a6):=(((((((k.set a 0 a0).set a 1 a1).set a 2 a2).set a 3 a3).set a 4 a4).set a 5 a5).set a 6 a6)
def Wds.set6(h:Wds W B g c s)(a:B≠A)(h2:g≠A)(a0 a1 a2 a3 a4 a5:Value):Wds ((((((W.setCell ⟨A,0,none⟩ a0).setCell ⟨A,1,none⟩ a1).setCell ⟨A,2,none⟩ a2).setCell ⟨A,3,none⟩ a3).setCell ⟨A,4,none⟩ a4).setCell ⟨A,5,none⟩ a5) B g c s:=((((((h.set a h2 0 a0).set a h2 1 a1).set a h2 2 a2).set a h2 3 a3).set a h2 4 a4).set a h2 5 a5)
def Flo(w W:World)(z:List Value)(o:Option Nat)(E:World->Prop)(N:Nat->Prop):Prop:=HgS w W/\E W/\(∀V V':World,Below V.heap.size V V'->E V->E V')/\∀A,o=some A->w.heap.size<A/\N A/\Blk W A z
def Flo.call{o:Option Nat}{E':World->Prop}{N':Nat->Prop}(h:Flo w W z o E N)(b:Below W.heap.size W W')(e:E' W')(m:∀V V':World,Below V.heap.size V V'->E' V->E' V')(n:∀A,N A->A<W.heap.size->N' A):Flo w W' z o E' N':=
 ⟨h.1.later b,e,m,fun A q=>have r:=h.2.2.2 A q; ⟨r.1,n A r.2.1 r.2.2.1,r.2.2.later b r.2.2.1⟩⟩
def Flo.later{o:Option Nat}(h:Flo w W z o E N)(b:Below W.heap.size W W'):Flo w W' z o E N:=h.call b (h.2.2.1 _ _ b h.2.1) h.2.2.1 (fun _ k _=>k)
def Flo.lay(h:Flo w W z none E N)(n:N W.heap.size)(u:TypeId):Flo w (W.alloc (.cells z.toArray u)) z (some W.heap.size) E N:=
 have b:Below W.heap.size W (W.alloc (.cells z.toArray u)):=bx
 ⟨h.1.later b,h.2.2.1 _ _ b h.2.1,h.2.2.1,fun A q=>by
  obtain rfl:=a1m q;exact⟨h.1.2.1,n,aP W z.toArray u⟩⟩
def PR(h:g<W.heap.size/\∀j,j<15->W.cell? ⟨g,j,none⟩=some (.int .i64 ((wd s.data.toList (2*j) 2:Nat):Int)))(a:g≠A)(o:Nat)(v:Value):g<(W.setCell ⟨A,o,none⟩ v).heap.size/\∀j,j<15->(W.setCell ⟨A,o,none⟩ v).cell? ⟨g,j,none⟩=some (.int .i64 ((wd s.data.toList (2*j) 2:Nat):Int)):=
 ⟨by simpa using h.1,fun j b=>(World.cell?_of_block (w:=W) (Below.heap_setCell W ⟨A,o,none⟩ v g a)).trans (h.2 j b)⟩
def yG(s:ByteArray)(a:Option Addr)(w:World)(h:br w a (List.replicate 15 16))(f:30<=s.size) :
  Calls prog 54 #[.string (s.extract 0 30),.slice a 15 15] w fun e w'=>∃g c,e = .returned (.tuple #[.slice (some ⟨g,0,none⟩) 15 c,.bool true])/\(w.heap.size<=g/\g<w'.heap.size)/\(∀j,j<15->w'.cell? ⟨g,j,none⟩=some (.int .i64 ((wd s.data.toList (2*j) 2:Nat):Int)))/\Below w.heap.size w w':=by
 have e0:(s.extract 0 30).data.toList=s.data.toList.take 30:=by rw[ext_list,a1D]
 have i:30<=s.data.toList.length:=by simpa using f
 have m:(s.extract 0 30).size<=2000000:=by rw[a1Y];omega
 refine(sS (s.extract 0 30) a 15 (List.replicate 15 16) w h m (by simp)).mono ?_;rintro e w'⟨v,rfl,d,hb⟩;rw[e0]at d;rw[e0,yH i];have k:=Lo i;obtain⟨b,c,rfl⟩:=d.formN k;obtain⟨g,rfl⟩:=d.somes (by rw[k];decide);refine⟨g,c,rfl,d.below,fun j l=>?_,hb⟩;have:=(d.at k l).1;rw[Em i j l]at this;exact this
def HgO(s:ByteArray)(a b c d f:Nat)(n t:ByteArray):Prop:=a<65536/\b<4294967296/\c<4294967296/\d<4294967296/\f<4294967296/\n.size<=s.size/\t.size<=s.size
def HgP(s:ByteArray)(e:Ending):Prop:=
 (hdB s=true/\e = .returned (.tuple #[.agg #[.int .i64 (wd s.data.toList 8 2:Nat),.int .i64 (wd s.data.toList 10 4:Nat),.int .i64 (wd s.data.toList 14 4:Nat),.int .i64 (wd s.data.toList 18 4:Nat),.int .i64 (wd s.data.toList 22 4:Nat),.string (nmB s),.string (bdB s)],.bool true])) ∨
 (hdB s=false/\∃(a b c d f:Nat) (n t:ByteArray),HgO s a b c d f n t/\e = .returned (.tuple #[.agg #[a,b,c,d,f,n,t],.bool false]))
def Ls(h:hdB s=false)(a b c d f:Nat)(n t:ByteArray)(k:HgO s a b c d f n t):HgP s (.returned (.tuple #[.agg #[a,b,c,d,f,n,t],.bool false])):=.inr ⟨h,a,b,c,d,f,n,t,k,rfl⟩
def AG: HgO s 0 0 0 0 0 ⟨#[]⟩ ⟨#[]⟩:=⟨by decide,by decide,by decide,by decide,by decide,a0f _,a0f _⟩
theorem ri(s:ByteArray)(w:World)(hs:s.size<=1048576) :
  Calls prog 31 #[s] w fun e w'=>HgP s e/\Below w.heap.size w w':=by
 have q:=cC
 have b0:(s.size:Int)<=1048576:=by omega
 have T0:Hid (HgS w (w.alloc (.cells #[.int .i64 0,.int .i64 0,.int .i64 0,.int .i64 0,.int .i64 0,.string ⟨#[]⟩,.string ⟨#[]⟩] 59))):=⟨bx,aP w #[.int .i64 0,.int .i64 0,.int .i64 0,.int .i64 0,.int .i64 0,.string ⟨#[]⟩,.string ⟨#[]⟩] 59⟩;by_cases y:30<=s.size
 .
  have ao:s.extract 0 30=s.extract 0 30:=rfl;obtain⟨HD,hHD⟩:∃x,s.extract 0 30=x:=⟨_,rfl⟩;have N:Hid (∀J W,W.cell? ⟨J,0,none⟩=some (.int .i64 16)->Calls prog 55 #[.slice (some ⟨J,0,none⟩) 1 1,.int .i64 15] W fun e w'=>e = .returned (.slice W.heap.size 15 15)/\ap w' W.heap.size (.slice W.heap.size 15 15) (List.replicate 15 16)/\Below W.heap.size W w'):=fun J W h=>oR 16 15 1 J 0 W h (by omega) (by omega);have CB:Hid (∀a W,br W a (List.replicate 15 16)->Calls prog 54 #[HD,.slice a 15 15] W fun e w'=>∃g c,e = .returned (.tuple #[.slice (some ⟨g,0,none⟩) 15 c,.bool true])/\(W.heap.size<=g/\g<w'.heap.size)/\(∀j,j<15->w'.cell? ⟨g,j,none⟩=some (.int .i64 ((wd s.data.toList (2*j) 2:Nat):Int)))/\Below W.heap.size W w'):=by rw[←hHD];exact fun a W h=>yG s a W h y
  obtain⟨HW,hHW⟩:∃x,wd s.data.toList 8 2=x:=⟨_,rfl⟩;obtain⟨ST,hST⟩:∃x,wd s.data.toList 10 4=x:=⟨_,rfl⟩;obtain⟨CR,hCR⟩:∃x,wd s.data.toList 14 4=x:=⟨_,rfl⟩;obtain⟨PK,hPK⟩:∃x,wd s.data.toList 18 4=x:=⟨_,rfl⟩;obtain⟨LN,hLN⟩:∃x,wd s.data.toList 22 4=x:=⟨_,rfl⟩;obtain⟨NL,hNL⟩:∃x,wd s.data.toList 26 2=x:=⟨_,rfl⟩;have i:=af (a0b hHW (a0b hST (a0b hCR (a0b hPK (a0b hLN hNL)))));have lHW:HW<65536:=by rw[←hHW];exact jg _ _
  have lST:ST<4294967296:=by rw[←hST];exact eU _ _
  have lCR:CR<4294967296:=by rw[←hCR];exact eU _ _
  have lPK:PK<4294967296:=by rw[←hPK];exact eU _ _
  have lLN:LN<4294967296:=by rw[←hLN];exact eU _ _
  have lNL:NL<65536:=by rw[←hNL];exact jg _ _
  have Y:30<=(s.size:Int):=by omega
  have a4:decide ((s.size:Int)<30)=false:=by simp;omega
  have r:=af (a0b lHW (a0b lST (a0b lCR (a0b lPK (a0b lLN lNL)))));have a5:(NL:Int)<65536:=by omega
  have a6:(PK:Int)<4294967296:=by omega
  have t:=af y;clear hHW hST hCR hPK hLN hNL lHW lST lCR lPK lLN lNL y ao;go_enter func31,ntmps31;go_wp2_with fail;go_cut[4,5] (fun v u wx=>(∃B g c,v = .pointer (some ⟨B,0,none⟩)/\w.heap.size<B/\w.heap.size<g/\HgS w wx/\Wds wx B g c s)/\u = .bool true)
  case first=>
   obtain⟨W0,hW0⟩:∃x,w.alloc (.cells #[.int .i64 0,.int .i64 0,.int .i64 0,.int .i64 0,.int .i64 0,.string ⟨#[]⟩,.string ⟨#[]⟩] 59)=x:=⟨_,rfl⟩;rw[hW0]at T0;rw[hW0];clear hW0;refine wp_region_held_drew (S:=fun _=>True) q trivial (fun _=>?_);refine ag 0 (.string s) rfl (fun W d=>by go_simp) trivial ?_;refine ag 1 (.string HD) rfl (fun W d=>by go_simp) trivial ?_;have T1:=af (ae T0).drew;clear T0;generalize W0.drew=W1 at *
   have X:Hid (Flo w W1 [.slice none 0 0] none (fun _=>True) (fun _=>True)):=⟨ae T1,trivial,fun _ _ _ h=>h,nofun⟩;clear T1;refine wpAnyH_ready (rs:=[2,8]) (by kernel_rfl) (by simp) ?_;refine AllReadyH.cons rfl (fun K f=>?c1) (AllReadyH.cons rfl (fun K f=>?a1) AllReadyH.nil)
   case' a1=>
    go_simp
    replace X:=af ((ae X).lay trivial 99)
    refine Shut.out f _ _ trivial (fun _=>?_);clear f K;generalize W1.heap.size=A at *
    generalize W1.alloc (.cells #[.slice none 0 0] 99)=W1 at *
    refine ah 2 fun K f=>?_
   all_goals
    go_simp;have m:Below W1.heap.size W1 (W1.alloc (.cells #[.int .i64 16] 3)):=bx
    replace X:=af ((ae X).call (E':=fun V=>Blk V W1.heap.size [.int .i64 16]) (N':=fun _=>True) m (aP W1 #[.int .i64 16] 3) (fun _ _ b h=>Blk.later h b h.1) (fun _ _ _=>trivial))
    refine Shut.out f _ _ trivial (fun _=>?_);clear f K m;generalize W1.heap.size=J at *
    generalize W1.alloc (.cells #[.int .i64 16] 3)=W2 at *
   case' c1=>
    refine wpAnyH_ready (rs:=[3,8]) (by kernel_rfl) (by simp) ?_;refine AllReadyH.cons rfl (fun K f=>?c2) (AllReadyH.cons rfl (fun K f=>?a2) AllReadyH.nil)
    case' a2=>
     go_simp
     replace X:=af ((ae X).lay trivial 99)
     refine Shut.out f _ _ trivial (fun _=>?_);clear f K;generalize W2.heap.size=A at *
     generalize W2.alloc (.cells #[.slice none 0 0] 99)=W2 at *
     refine ah 3 fun K f=>?_
   case' a1=>
    refine ah 3 fun K f=>?_
   all_goals
    go_simp;go_at_call 55;refine(ae N J W2 (Blk.cell (ae X).2.1 0 _ rfl)).mono ?_;rintro e W3⟨rfl,ho,m⟩
    replace X:=af ((ae X).call (E':=fun V=>br V (some ⟨W2.heap.size,0,none⟩) (List.replicate 15 16)) (N':=fun _=>True) m (ap.rowN (n:=15) (by simp) ho) (fun _ _ b h=>br.later h b) (fun _ _ _=>trivial))
    refine Shut.out f _ _ trivial (fun _=>?_);clear f K ho m;generalize W2.heap.size=rb at *
   case' c2=>
    refine wpAnyH_ready (rs:=[4,8]) (by kernel_rfl) (by simp) ?_;refine AllReadyH.cons rfl (fun K f=>?c3) (AllReadyH.cons rfl (fun K f=>?a3) AllReadyH.nil)
    case' a3=>
     go_simp
     replace X:=af ((ae X).lay trivial 99)
     refine Shut.out f _ _ trivial (fun _=>?_);clear f K;generalize W3.heap.size=A at *
     generalize W3.alloc (.cells #[.slice none 0 0] 99)=W3 at *
     refine ah 4 fun K f=>?_
   case' a1|a2=>
    refine ah 4 fun K f=>?_
   all_goals
    go_simp;go_at_call 54;refine(ae CB (some ⟨rb,0,none⟩) W3 (ae X).2.1).mono ?_;rintro e W4⟨g,c,rfl,D,o,m⟩;have aa:w.heap.size<g:=a0h (ae X).1.2.1 D.1
    replace X:=af ((ae X).call (E':=fun V=>g<V.heap.size/\∀j,j<15->V.cell? ⟨g,j,none⟩=some (.int .i64 ((wd s.data.toList (2*j) 2:Nat):Int))) (N':=fun A=>g≠A) m ⟨D.2,o⟩ (fun _ _ b h=>⟨a0h h.1 b.size,fun j hj=>(b.cell (p:=⟨g,j,none⟩) h.1).trans (h.2 j hj)⟩) (fun A _ C=>a1O (a0h C D.1)))
    refine Shut.out f _ _ trivial (fun _=>?_);clear f K D o m;refine ag 5 (.tuple #[.slice g 15 c,.bool true]) rfl (fun W d=>by go_simp) trivial ?_;refine ag 6 (.slice g 15 c) rfl (fun W d=>by go_simp) trivial ?_;refine ag 7 (.bool true) rfl (fun W d=>by go_simp) trivial ?_
   case' c3=>
    refine ah 8 fun K f=>?_;go_simp
    replace X:=af ((ae X).lay (a1v (ae X).2.1.1) 99)
    refine Shut.out f _ _ trivial (fun _=>?_);clear f K;generalize W4.heap.size=A at *
    generalize W4.alloc (.cells #[.slice none 0 0] 99)=W4 at *
   all_goals
    refine ah 9 fun K f=>?_;obtain⟨T5,G5,_,R⟩:=ae X;obtain⟨C,ad,z⟩:=R _ rfl;have a0:=z.cell 0 _ rfl;have f0:=z.free 0 (by decide);have T5:=af T5;have G5:=af G5;have z:=af z;clear X R;go_simp;have TX':=af ((ae T5).set C 0 (.slice g 15 c));have G:=af ((ae z).set 0 (.slice g 15 c));have GX':=af (PR (ae G5) ad 0 (.slice g 15 c));clear a0 f0;refine Shut.out f _ _ trivial (fun _=>?_);clear f K;refine ah 10 fun K f=>?_;go_simp;refine Shut.out f _ _ trivial (fun _=>?_);clear f K;refine wpAnyH_done (by kernel_rfl) ?_ _;go_wp2_with fail
    go_meet
    case rel=>exact⟨⟨A,g,c,rfl,C,aa,ae TX',ae G,(ae GX').1,(ae GX').2⟩,rfl⟩
  case rest=>
   obtain⟨⟨B,g,c,rfl,bs,aa,T1',G1'⟩,rfl⟩:=hcut;have T1:=af T1';have G1:=af G1';clear T1' G1' T0;have C5:Hid (∀W,Wds W B g c s->CD 56 #[.int .i64 5,.pointer B] W (.int .i64 (ST:Nat))):=fun W h=>by rw[←(ae i).2.1];exact lO 5 B g c s W h (by omega) (ae t)
   have C7:Hid (∀W,Wds W B g c s->CD 56 #[.int .i64 7,.pointer B] W (.int .i64 (CR:Nat))):=fun W h=>by rw[←(ae i).2.2.1];exact lO 7 B g c s W h (by omega) (ae t)
   have C9:Hid (∀W,Wds W B g c s->CD 56 #[.int .i64 9,.pointer B] W (.int .i64 (PK:Nat))):=fun W h=>by rw[←(ae i).2.2.2.1];exact lO 9 B g c s W h (by omega) (ae t)
   have M:Hid (∀W,Wds W B g c s->CD 56 #[.int .i64 11,.pointer B] W (.int .i64 (LN:Nat))):=fun W h=>by rw[←(ae i).2.2.2.2.1];exact lO 11 B g c s W h (by omega) (ae t)
   have W4:Hid (∀W,Wds W B g c s->W.cell? ⟨g,4,none⟩=some (.int .i64 (HW:Nat))):=fun W h=>by rw[←(ae i).1];exact h.2.2 4 (by omega)
   have W13:Hid (∀W,Wds W B g c s->W.cell? ⟨g,13,none⟩=some (.int .i64 (NL:Nat))):=fun W h=>by rw[←(ae i).2.2.2.2.2];exact h.2.2 13 (by omega)
   go_wp2_with fail;go_cut[7] (fun v wx=>∃A,v = .pointer (some ⟨A,0,none⟩)/\w.heap.size<A/\B<A/\g<A/\HgS w wx/\Wds wx B g c s/\Blk wx A [.int .i64 (HW:Nat),.int .i64 (ST:Nat),.int .i64 (CR:Nat),.int .i64 (PK:Nat),.int .i64 (LN:Nat),.string ⟨#[]⟩])
   case first=>
    refine wp_region_held_drew (S:=fun W=>Wds W B g c s) q (ae G1).drew (fun k=>?_);refine ag 0 (.slice g 15 c) rfl (fun W d=>by have s0:=Blk.cell d.1 0 _ rfl;go_simp) k ?_;refine ag 1 (.pointer (some ⟨g,4,none⟩)) rfl (fun W d=>by go_simp) k ?_;refine ag 2 (.int .i64 (HW:Nat)) rfl (fun W d=>by have s1:=ae W4 W d;go_simp) k ?_;refine ag 3 (.func (.func 56) #[] #[.pointer B]) rfl (fun W d=>by go_simp) k ?_;refine ag 5 (.func (.func 56) #[] #[.pointer B]) rfl (fun W d=>by go_simp) k ?_;refine ag 7 (.func (.func 56) #[] #[.pointer B]) rfl (fun W d=>by go_simp) k ?_;refine ag 9 (.func (.func 56) #[] #[.pointer B]) rfl (fun W d=>by go_simp) k ?_;have T2:=af (ae T1).drew;have G2:=af (ae G1).drew;clear T1 G1;generalize wc.drew=W2 at *
    have X:Hid (Flo w W2 [.int .i64 0,.int .i64 0,.int .i64 0,.int .i64 0,.int .i64 0,.string ⟨#[]⟩] none (fun V=>Wds V B g c s) (fun A=>B<A/\g<A)):=⟨ae T2,ae G2,fun _ _ b h=>Wds.later h b,nofun⟩;clear T2 G2;refine wpAnyH_ready (rs:=[4,12]) (by kernel_rfl) (by simp) ?_;refine AllReadyH.cons rfl (fun K f=>?d1) (AllReadyH.cons rfl (fun K f=>?e1) AllReadyH.nil)
    case' e1=>
     go_simp
     replace X:=af ((ae X).lay ⟨(ae X).2.1.1.1,(ae X).2.1.2.1⟩ 57)
     refine Shut.out f _ _ (ae X).2.1 (fun k=>?_);clear f K;generalize W2.heap.size=A at *
     generalize W2.alloc (.cells #[.int .i64 0,.int .i64 0,.int .i64 0,.int .i64 0,.int .i64 0,.string ⟨#[]⟩] 57)=W2 at *
     refine ah 4 fun K f=>?_
    all_goals
     go_simp;go_at_call 56;refine(ae C5 W2 (ae X).2.1).mono ?_;rintro e W3⟨rfl,m⟩
     replace X:=af ((ae X).later m)
     refine Shut.out f _ _ (ae X).2.1 (fun k=>?_);clear f K m
    case' d1=>
     refine wpAnyH_ready (rs:=[6,12]) (by kernel_rfl) (by simp) ?_;refine AllReadyH.cons rfl (fun K f=>?d2) (AllReadyH.cons rfl (fun K f=>?e2) AllReadyH.nil)
     case' e2=>
      go_simp
      replace X:=af ((ae X).lay ⟨(ae X).2.1.1.1,(ae X).2.1.2.1⟩ 57)
      refine Shut.out f _ _ (ae X).2.1 (fun k=>?_);clear f K;generalize W3.heap.size=A at *
      generalize W3.alloc (.cells #[.int .i64 0,.int .i64 0,.int .i64 0,.int .i64 0,.int .i64 0,.string ⟨#[]⟩] 57)=W3 at *
      refine ah 6 fun K f=>?_
    case' e1=>
     refine ah 6 fun K f=>?_
    all_goals
     go_simp;go_at_call 56;refine(ae C7 W3 (ae X).2.1).mono ?_;rintro e W4⟨rfl,m⟩
     replace X:=af ((ae X).later m)
     refine Shut.out f _ _ (ae X).2.1 (fun k=>?_);clear f K m
    case' d2=>
     refine wpAnyH_ready (rs:=[8,12]) (by kernel_rfl) (by simp) ?_;refine AllReadyH.cons rfl (fun K f=>?d3) (AllReadyH.cons rfl (fun K f=>?e3) AllReadyH.nil)
     case' e3=>
      go_simp
      replace X:=af ((ae X).lay ⟨(ae X).2.1.1.1,(ae X).2.1.2.1⟩ 57)
      refine Shut.out f _ _ (ae X).2.1 (fun k=>?_);clear f K;generalize W4.heap.size=A at *
      generalize W4.alloc (.cells #[.int .i64 0,.int .i64 0,.int .i64 0,.int .i64 0,.int .i64 0,.string ⟨#[]⟩] 57)=W4 at *
      refine ah 8 fun K f=>?_
    case' e1|e2=>
     refine ah 8 fun K f=>?_
    all_goals
     go_simp;go_at_call 56;refine(ae C9 W4 (ae X).2.1).mono ?_;rintro e W5⟨rfl,m⟩
     replace X:=af ((ae X).later m)
     refine Shut.out f _ _ (ae X).2.1 (fun k=>?_);clear f K m
    case' d3=>
     refine wpAnyH_ready (rs:=[10,12]) (by kernel_rfl) (by simp) ?_;refine AllReadyH.cons rfl (fun K f=>?d4) (AllReadyH.cons rfl (fun K f=>?e4) AllReadyH.nil)
     case' e4=>
      go_simp
      replace X:=af ((ae X).lay ⟨(ae X).2.1.1.1,(ae X).2.1.2.1⟩ 57)
      refine Shut.out f _ _ (ae X).2.1 (fun k=>?_);clear f K;generalize W5.heap.size=A at *
      generalize W5.alloc (.cells #[.int .i64 0,.int .i64 0,.int .i64 0,.int .i64 0,.int .i64 0,.string ⟨#[]⟩] 57)=W5 at *
      refine ah 10 fun K f=>?_
    case' e1|e2|e3=>
     refine ah 10 fun K f=>?_
    all_goals
     go_simp;go_at_call 56;refine(ae M W5 (ae X).2.1).mono ?_;rintro e W6⟨rfl,m⟩
     replace X:=af ((ae X).later m)
     refine Shut.out f _ _ (ae X).2.1 (fun k=>?_);clear f K m;refine ag 11 (.agg #[HW,ST,CR,PK,LN,.string ⟨#[]⟩]) rfl (fun W d=>by go_simp) k ?_
    case' d4=>
     refine ah 12 fun K f=>?_;go_simp
     replace X:=af ((ae X).lay ⟨(ae X).2.1.1.1,(ae X).2.1.2.1⟩ 57)
     refine Shut.out f _ _ (ae X).2.1 (fun k=>?_);clear f K;generalize W6.heap.size=A at *
     generalize W6.alloc (.cells #[.int .i64 0,.int .i64 0,.int .i64 0,.int .i64 0,.int .i64 0,.string ⟨#[]⟩] 57)=W6 at *
    all_goals
     refine ah 13 fun K f=>?_;obtain⟨T7,G7,_,R⟩:=ae X;obtain⟨C,⟨H,I⟩,U⟩:=R _ rfl;have aA:=U.cells (n:=6) rfl;have fA:=U.frees (n:=6) rfl;have T7:=af T7;have G7:=af G7;have U:=af U;clear X R;go_simp;have TX':=af ((ae T7).set6 C (.int .i64 (HW:Nat)) (.int .i64 (ST:Nat)) (.int .i64 (CR:Nat)) (.int .i64 (PK:Nat)) (.int .i64 (LN:Nat)) (.string ⟨#[]⟩));have G:=af ((ae U).set6 (.int .i64 (HW:Nat)) (.int .i64 (ST:Nat)) (.int .i64 (CR:Nat)) (.int .i64 (PK:Nat)) (.int .i64 (LN:Nat)) (.string ⟨#[]⟩));have GX':=af ((ae G7).set6 (a1v H) (a1v I) (.int .i64 (HW:Nat)) (.int .i64 (ST:Nat)) (.int .i64 (CR:Nat)) (.int .i64 (PK:Nat)) (.int .i64 (LN:Nat)) (.string ⟨#[]⟩));clear aA fA;refine Shut.out f _ _ (ae GX') (fun k=>?_);clear f K;refine wpAnyH_done (by kernel_rfl) ?_ _;go_wp2_with fail
     go_meet
     case rel=>exact⟨A,rfl,C,H,I,ae TX',ae GX',ae G⟩
   case rest=>
    obtain⟨A,rfl,C,H,I,T2',G2',T⟩:=hcut;have T2:=af T2';have G2:=af G2';have Q:=af T;clear T2' G2' T T1 G1 C5 C7 C9 M;have c0:=(ae G2).1.cell 0 _ rfl;have ac:=ae W13 _ (ae G2);have r3:=(ae Q).cell 3 _ rfl;have r5:=(ae Q).cell 5 _ rfl;have q5:=(ae Q).free 5 (by simp);have bk:IntKind.i64.wrap (30+(NL:Int))=30+(NL:Int):=by rw[a0T];omega
    have bl:IntKind.i64.wrap (30+(NL:Int)+(PK:Int))=30+(NL:Int)+(PK:Int):=by rw[a0T];omega
    by_cases E:30+NL+PK<=s.size
    .
     have F:30+(NL:Int)+(PK:Int)<=(s.size:Int):=by omega
     have be:decide ((s.size:Int)<30+(NL:Int)+(PK:Int))=false:=by simpa using F
     have a7:(30+(NL:Int)).toNat=30+NL:=by omega
     have a8:(30+(NL:Int)+(PK:Int)).toNat=30+NL+PK:=by omega
     have a9:30<=30+(NL:Int):=by omega
     have ba:30+(NL:Int)<=30+(NL:Int)+(PK:Int):=by omega
     have bb:0<=30+(NL:Int)+(PK:Int):=by omega
     have bc:30+(NL:Int)<=(s.size:Int):=by omega
     have bd:0<=30+(NL:Int):=by omega
     have b1:s.extract 30 (30+NL)=nmB s:=by unfold nmB;rw[(ae i).2.2.2.2.2]
     have b2:s.extract (30+NL) (30+NL+PK)=bdB s:=by unfold bdB;rw[(ae i).2.2.2.2.2,(ae i).2.2.2.1]
     have P:Hid ((cM HW ST CR PK LN (nmB s)).data.toList.isPrefixOf s.data.toList=mC s.data.toList):=by
      have hh:=Lp (l:=s.data.toList) (nm:=nmB s) (by rw[(ae i).2.2.2.2.2];simp;omega) (ve s);rw[(ae i).1,(ae i).2.1,(ae i).2.2.1,(ae i).2.2.2.1,(ae i).2.2.2.2.1]at hh;exact hh
     have ab:(nmB s).size<65536:=by rw[ll (by rw[(ae i).2.2.2.2.2];omega)];exact jg _ _
     have O:Hid (∀b,mC s.data.toList=b->HgP s (.returned (.tuple #[.agg #[HW,ST,CR,PK,LN,.string (nmB s),.string (bdB s)],.bool b]))):=fun b hb=>by
      have hd:hdB s=b:=by
       unfold hdB;rw[hb,(ae i).2.2.2.2.2,(ae i).2.2.2.1,a0x (ae t),a0x E];simp
      cases b
      . exact Ls hd _ _ _ _ _ _ _ ⟨(ae r).1,(ae r).2.1,(ae r).2.2.1,(ae r).2.2.2.1,(ae r).2.2.2.2.1,by unfold nmB;rw[a1Y];omega,by unfold bdB;rw[a1Y];omega⟩
      . refine .inl ⟨hd,?_⟩;rw[(ae i).1,(ae i).2.1,(ae i).2.2.1,(ae i).2.2.2.1,(ae i).2.2.2.2.1]
     generalize an:nmB s=NM at *
     generalize al:bdB s=BD at *
     obtain⟨l1,l2,l3,l4,l5,l6⟩:=ae r;have CH:=af (fun W=>AF HW ST CR PK LN NM BD W l1 l2 l3 l4 l5 ab);have CP:Hid (∀W,Calls prog 30 #[s,.string (cM HW ST CR PK LN NM)] W fun e w'=>e = .returned (.bool (mC s.data.toList))/\w'=W):=fun W=>by
      have h:=Tryz.strings_HasPrefix s (cM HW ST CR PK LN NM) W;have e:Lib.hasPrefix s.data.toList (cM HW ST CR PK LN NM).data.toList=mC s.data.toList:=ae P;rw[e]at h;exact h
     generalize mC s.data.toList=fb at *
     generalize cM HW ST CR PK LN NM=HB at *
     clear an al l1 l2 l3 l4 l5 l6 E P ab;have T3:=af ((ae T2).set C 5 (.string NM));have R3:=af ((ae Q).set 5 (.string NM));clear T2 Q G2 W4 W13;go_wp2_with fail;clear c0 ac r3 r5 q5;generalize wc.setCell ⟨A,5,none⟩ (.string NM)=X3 at *
     refine wp_region_held_drew (S:=fun W=>Blk W A [.int .i64 (HW:Nat),.int .i64 (ST:Nat),.int .i64 (CR:Nat),.int .i64 (PK:Nat),.int .i64 (LN:Nat),.string NM]) q (ae R3).drew (fun k=>?_);refine ag 0 (.agg #[HW,ST,CR,PK,LN,NM]) rfl (fun W d=>by have s0:=Blk.cell d 0 _ rfl;have s1:=Blk.cell d 1 _ rfl;have s2:=Blk.cell d 2 _ rfl;have s3:=Blk.cell d 3 _ rfl;have s4:=Blk.cell d 4 _ rfl;have s5:=Blk.cell d 5 _ rfl;go_simp) k ?_;refine ag 1 (.string s) rfl (fun W d=>by go_simp) k ?_;refine ag 2 (.int .i64 (30+(NL:Int))) rfl (fun W d=>by go_simp) k ?_;refine ag 3 (.int .i64 (30+(NL:Int))) rfl (fun W d=>by go_simp) k ?_;refine ag 4 (.pointer (some ⟨A,3,none⟩)) rfl (fun W d=>by go_simp) k ?_;refine ag 5 (.int .i64 (PK:Nat)) rfl (fun W d=>by have s3:=Blk.cell d 3 _ rfl;go_simp) k ?_;refine ag 6 (.int .i64 (30+(NL:Int)+(PK:Int))) rfl (fun W d=>by go_simp) k ?_;refine ag 7 (.string BD) rfl (fun W d=>by go_simp) k ?_;refine ag 8 (.agg #[HW,ST,CR,PK,LN,NM,BD]) rfl (fun W d=>by go_simp) k ?_;have T4:=af (ae T3).drew;have R4:=af (ae R3).drew;clear T3 R3;generalize X3.drew=W4 at *
     refine ah 9 fun K f=>?_;go_simp;have m:Below W4.heap.size W4 (W4.alloc (.cells #[.int .i64 0,.int .i64 0,.int .i64 0,.int .i64 0,.int .i64 0,.string ⟨#[]⟩,.string ⟨#[]⟩] 59)):=bx;have T5:=af ((ae T4).later m);have z:=af ((ae R4).later m (ae R4).1);have L5:Hid (Blk (W4.alloc (.cells #[.int .i64 0,.int .i64 0,.int .i64 0,.int .i64 0,.int .i64 0,.string ⟨#[]⟩,.string ⟨#[]⟩] 59)) W4.heap.size [.int .i64 0,.int .i64 0,.int .i64 0,.int .i64 0,.int .i64 0,.string ⟨#[]⟩,.string ⟨#[]⟩]):=aP _ _ _;have hL:w.heap.size<W4.heap.size:=(ae T4).2.1;have Z:A<W4.heap.size:=(ae R4).1;refine Shut.out f _ _ (ae z) (fun k=>?_);clear f K;obtain⟨L,hLe⟩:∃x,W4.heap.size=x:=⟨_,rfl⟩;obtain⟨W5,hW5⟩:∃x,W4.alloc (.cells #[.int .i64 0,.int .i64 0,.int .i64 0,.int .i64 0,.int .i64 0,.string ⟨#[]⟩,.string ⟨#[]⟩] 59)=x:=⟨_,rfl⟩;rw[hW5]at T5 z k;rw[hLe,hW5]at L5;rw[hLe]at hL Z;rw[hLe,hW5];clear m hLe hW5 T4 R4;refine ah 10 fun K f=>?_;have aA:=(ae L5).cells (n:=7) rfl;have fA:=(ae L5).frees (n:=7) rfl;go_simp;have T6:=af ((ae T5).set7 hL (.int .i64 (HW:Nat)) (.int .i64 (ST:Nat)) (.int .i64 (CR:Nat)) (.int .i64 (PK:Nat)) (.int .i64 (LN:Nat)) (.string NM) (.string BD));have L6:=af ((ae L5).set7 (.int .i64 (HW:Nat)) (.int .i64 (ST:Nat)) (.int .i64 (CR:Nat)) (.int .i64 (PK:Nat)) (.int .i64 (LN:Nat)) (.string NM) (.string BD));have R6:=af (Mo (ae z) (a1v Z) (.int .i64 (HW:Nat)) (.int .i64 (ST:Nat)) (.int .i64 (CR:Nat)) (.int .i64 (PK:Nat)) (.int .i64 (LN:Nat)) (.string NM) (.string BD));clear aA fA T5 z L5;refine Shut.out f _ _ (ae R6) (fun k=>?_);clear f K;refine wpAnyH_done (by kernel_rfl) ?_ _;clear k;obtain⟨X6,hX6⟩:∃x,(((((((W5.setCell ⟨L,0,none⟩ (.int .i64 (HW:Nat))).setCell ⟨L,1,none⟩ (.int .i64 (ST:Nat))).setCell ⟨L,2,none⟩ (.int .i64 (CR:Nat))).setCell ⟨L,3,none⟩ (.int .i64 (PK:Nat))).setCell ⟨L,4,none⟩ (.int .i64 (LN:Nat))).setCell ⟨L,5,none⟩ (.string NM)).setCell ⟨L,6,none⟩ (.string BD))=x:=⟨_,rfl⟩;rw[hX6]at T6 L6;rw[hX6];clear hX6 R6;go_wp2_with fail;refine wp_region_held_drew (S:=fun W=>Blk W L [.int .i64 (HW:Nat),.int .i64 (ST:Nat),.int .i64 (CR:Nat),.int .i64 (PK:Nat),.int .i64 (LN:Nat),.string NM,.string BD]) q (ae L6).drew (fun k=>?_);refine ag 0 (.agg #[HW,ST,CR,PK,LN,NM,BD]) rfl (fun W d=>by have s0:=Blk.cell d 0 _ rfl;have s1:=Blk.cell d 1 _ rfl;have s2:=Blk.cell d 2 _ rfl;have s3:=Blk.cell d 3 _ rfl;have s4:=Blk.cell d 4 _ rfl;have s5:=Blk.cell d 5 _ rfl;have s6:=Blk.cell d 6 _ rfl;go_simp) k ?_;refine ag 1 (.string s) rfl (fun W d=>by go_simp) k ?_;refine ag 2 (.agg #[HW,ST,CR,PK,LN,NM,BD]) rfl (fun W d=>by have s0:=Blk.cell d 0 _ rfl;have s1:=Blk.cell d 1 _ rfl;have s2:=Blk.cell d 2 _ rfl;have s3:=Blk.cell d 3 _ rfl;have s4:=Blk.cell d 4 _ rfl;have s5:=Blk.cell d 5 _ rfl;have s6:=Blk.cell d 6 _ rfl;go_simp) k ?_;have T7:=af (ae T6).drew;have L7:=af (ae L6).drew;clear T6 L6;generalize X6.drew=W7 at *
     refine ah 3 fun K f=>?_;go_simp;go_at_call 57;refine(ae CH W7).mono ?_;rintro e W8⟨rfl,m⟩;have T8:=af ((ae T7).later m);have L8:=af ((ae L7).later m (ae L7).1);refine Shut.out f _ _ (ae L8) (fun k=>?_);clear f K m T7 L7;refine ah 4 fun K f=>?_;go_simp;go_at_call 30;refine(ae CP W8).mono ?_;rintro e W9⟨rfl,rfl⟩;refine Shut.out f _ _ (ae L8) (fun k=>?_);clear f K;refine ah 5 fun K f=>?_;have bA:=(ae T8).2.cells (n:=7) rfl;have gA:=(ae T8).2.frees (n:=7) rfl;go_simp;have TZ:=af (Km (ae T8).1 (a0a _) (.int .i64 (HW:Nat)) (.int .i64 (ST:Nat)) (.int .i64 (CR:Nat)) (.int .i64 (PK:Nat)) (.int .i64 (LN:Nat)) (.string NM) (.string BD));have ZZ:=af ((ae T8).2.set7 (.int .i64 (HW:Nat)) (.int .i64 (ST:Nat)) (.int .i64 (CR:Nat)) (.int .i64 (PK:Nat)) (.int .i64 (LN:Nat)) (.string NM) (.string BD));have LZ:=af (Mo (ae L8) (a1O hL) (.int .i64 (HW:Nat)) (.int .i64 (ST:Nat)) (.int .i64 (CR:Nat)) (.int .i64 (PK:Nat)) (.int .i64 (LN:Nat)) (.string NM) (.string BD));clear bA gA;refine Shut.out f _ _ (ae LZ) (fun k=>?_);clear f K;refine ah 6 fun K f=>?_;go_simp;refine Shut.out f _ _ (ae LZ) (fun k=>?_);clear f K;refine wpAnyH_done (by kernel_rfl) ?_ _;go_wp2;have zA:=(ae ZZ).cells (n:=7) rfl;refine a0C (v:=.tuple #[.agg #[HW,ST,CR,PK,LN,NM,BD],.bool fb]) (by simp[results,results31,go_sem,zA]) rfl ⟨ae O _ rfl,ae TZ⟩
    .
     have F:(s.size:Int)<30+(NL:Int)+(PK:Int):=by omega
     have O:Hid (hdB s=false):=by
      show _=_;unfold hdB;rw[(ae i).2.2.2.2.2,(ae i).2.2.2.1,a0l E];simp
     clear E;have bA:=(ae T2).2.cells (n:=7) rfl;have gA:=(ae T2).2.frees (n:=7) rfl;have TZ:=af (Km (ae T2).1 (a0a _) (.int .i64 0) (.int .i64 0) (.int .i64 0) (.int .i64 0) (.int .i64 0) (.string ⟨#[]⟩) (.string ⟨#[]⟩));have ZZ:=af ((ae T2).2.set7 (.int .i64 0) (.int .i64 0) (.int .i64 0) (.int .i64 0) (.int .i64 0) (.string ⟨#[]⟩) (.string ⟨#[]⟩));go_wp2;have zA:=(ae ZZ).cells (n:=7) rfl;refine a0C (v:=.tuple #[.agg #[.int .i64 0,.int .i64 0,.int .i64 0,.int .i64 0,.int .i64 0,.string ⟨#[]⟩,.string ⟨#[]⟩],.bool false]) (by simp[results,results31,go_sem,zA]) rfl ⟨Ls (ae O) 0 0 0 0 0 ⟨#[]⟩ ⟨#[]⟩ AG,ae TZ⟩
 .
  have Y:(s.size:Int)<30:=by omega
  have O:Hid (hdB s=false):=by
   show _=_;unfold hdB;rw[a0l y];simp
  clear y;go_enter func31,ntmps31;go_wp2;refine a0C (v:=.tuple #[.agg #[.int .i64 0,.int .i64 0,.int .i64 0,.int .i64 0,.int .i64 0,.string ⟨#[]⟩,.string ⟨#[]⟩],.bool false]) (by simp[results,results31,go_sem]) rfl ⟨Ls (ae O) 0 0 0 0 0 ⟨#[]⟩ ⟨#[]⟩ AG,(ae T0).1⟩
