/- Of what the proof is made: 3 texts, one behind the other. -/
import Derived.Test.YtlpmnnjlmjffpaaGreatDoorM5
import Derived.Test.YtlpmnnjlmjffpaaGreatDoorM25
import Derived.ChangeVars
import Derived.OpenVars
import Derived.Test.YtlpmnnjlmjffpaaGreatDoorM30
import Derived.Lib.QuietBelow
set_option linter.unusedSimpArgs false
set_option linter.unusedVariables false
set_option maxHeartbeats 1600000
namespace Go.Proofs.YtlpmnnjlmjffpaaGreatDoor
open Go.Proofs.Tryz
open Go.ChangeShapes Go.WideShapes Go.ChangeAt Go.RowKit
variable {W:World}
def Kd:DataW Unit:=.agg (bp.map fun n=>.lit (.int .i64 (n:Nat)))
theorem zH{W:World} : ∀(laid:List (String×DataW Unit)) (ps:List MemPlace),DataW.LaidVars prog W laid ps->("loop.example/corbel/impl.lenOrder",Kd)∈laid->∃ps',DataW.LaidVars prog W [("loop.example/corbel/impl.lenOrder",Kd)] ps'
 | [],_,_,h=>by cases h
 | (n,d) :: r,ps,hL,h=>by
  obtain⟨g,t,cs,fuel,p,q,hg,ht,hv,hd,hr,_⟩:=hL;rcases a1a.1 h with e|e
  . obtain⟨rfl,rfl⟩:=Prod.mk.inj e;exact⟨_,g,t,cs,fuel,p,[],hg,ht,hv,hd,rfl,rfl⟩
  . exact zH r q hr e
theorem vt{ps:List MemPlace}(h:DataW.LaidVars prog W [("loop.example/corbel/impl.lenOrder",Kd)] ps)(r:Nat)(hr:r<19):W.cell? ⟨2,r,none⟩=some (.int .i64 (bp.getD r 0:Nat)):=by
 obtain⟨g,t,cs,fuel,p,q,hg,ht,hv,hd,_,_⟩:=h;obtain rfl:=a02 ((show prog.globalNamed "loop.example/corbel/impl.lenOrder" = some 2 by kernel_rfl).symm.trans hg);obtain rfl:=a02 ((show(prog.globals[2]?).map (·.type)=some 281 by kernel_rfl).symm.trans ht);obtain⟨xs,m,_,ex,_,hl,hel⟩:=DataW.trod_array underlying281 hd;have c5:prog.cellsOf 3=1:=by kernel_rfl
 have hE:=hel r hr;rw[c5,a2G,List.getElem?_eq_getElem (by omega)]at hE;obtain⟨z,e1,e2,_⟩:=DataW.trod_int a2C hE;have hlen:bp.length=19:=rfl;have e3:(xs.map (·.1))=bp.map fun n=>.lit (.int .i64 (n:Nat)):=(DataW.agg.inj (Prod.mk.inj ex).1).symm;have e4:(xs.map (·.1))[r]?=(bp.map fun n=>(DataW.lit (.int .i64 (n:Nat)):DataW Unit))[r]?:=by rw[e3]
 rw[List.getElem?_map,List.getElem?_map,List.getElem?_eq_getElem (by omega:r<xs.length),List.getElem?_eq_getElem (by omega:r<bp.length),e2]at e4;have hz:z=(bp.getD r 0:Nat):=by
  simp only[a3P,a0k,DataW.lit.injEq,Lit.int.injEq,a1T]at e4;rw[e4,List.getD,List.getElem?_eq_getElem (by omega:r<bp.length)];rfl
 rw[World.var?_cell hg hv r,←hz];have:cs.toList[r]?=some (.int .i64 z):=by
  have h0:((cs.toList.drop r).take 1)[0]?=some (.int .i64 z):=by rw[e1];rfl
  simpa using h0
 simpa using this
theorem Ke{ps:List MemPlace}(h:DataW.LaidVars prog W [("loop.example/corbel/impl.lenOrder",Kd)] ps):dO W:=by
 refine⟨fun j v hv=>?_,?_⟩
 .
  have hj:j<19:=by
   have:=(List.getElem?_eq_some_iff.1 hv).1;have e:MZ.toList.length=19:=rfl;omega
  rw[a0J,vt h j hj];have h1:=zB j hj;rw[Array.getElem?_toList,h1]at hv;exact hv
 .
  have h0:=vt h 0 (by omega);rcases a08 2 W.heap.size with h1|h1
  . exact h1
  . simp[World.cell?,h1]at h0
theorem uq{laid:List (String×DataW Unit)}(h:laidMetH prog laid W)(hp:(laid.filter fun x=>x.2.handleName?.isSome).isEmpty=false)(hm:("loop.example/corbel/impl.lenOrder",Kd)∈laid.filter fun x=>x.2.handleName?.isNone):dO W:=by
 have h':laidMet prog (laid.filter fun x=>x.2.handleName?.isNone) W:=by
  unfold laidMetH at h;generalize (laid.filter fun x=>x.2.handleName?.isSome)=fl at *
  cases fl with
  | nil=>cases hp
  | cons a r=>exact h.1
 obtain⟨ps,h1,_,_⟩:=h';obtain⟨ps',h2⟩:=zH _ _ h1 hm;exact Ke h2
end Go.Proofs.YtlpmnnjlmjffpaaGreatDoor
namespace Go.Proofs.YtlpmnnjlmjffpaaGreatDoor
open Go.Proofs.Tryz
open Go.RowKit
theorem jK.take{w:World}{a:Option Addr}{l:List En}(h:jK w a l)(k:Nat):jK w a (l.take k):=by
 intro b;have c:0<l.length:=by rw[a0v]at b;omega
 obtain⟨g,o,e,f,d⟩:=h c;refine⟨g,o,e,f,fun i j=>?_⟩;rw[a0v]at j;have e1:(l.take k).getD i default=l.getD i default:=by
  simp only[List.getD];rw[List.getElem?_take_of_lt (by omega)]
 rw[e1];exact d i (by omega)
theorem mL(l:List En)(k i:Nat)(a:i<k):(l.take k).getD i default=l.getD i default:=by
 simp only[List.getD];rw[List.getElem?_take_of_lt a]
def ig(l:List En)(i:Nat):Int:=bv (l.take i) (l.getD i default)
theorem M7(l:List En)(e:En):bv l e=0∨bv l e=1∨bv l e=3∨bv l e=4:=by
 unfold bv;split<;>(try split)<;>(try split)<;>simp
theorem xr(a:Option Addr)(cap:Nat)(l:List En)(n:Nat)(hn:l.length=n)(m:Int)(w:World)(h:jK w a l)(hl:(n:Int)<=1048576)(aa:(n:Int)<=(cap:Int))
  (hs:∀i,i<n->(l.getD i default).n.size<=1048576/\((l.getD i default).t.size:Int)<=9223372036854775807) (T:w.cell? ⟨1,0,none⟩=some (.int .i64 m)) :
  Calls prog 73 #[.slice a n cap] w fun e w'=>(∃c:Int,e = .returned (fG c)/\(c=0<->∀i,i<n->ig l i=0)/\(c=0∨c=1∨c=3∨c=4))/\Below w.heap.size w w':=by
 have D:prog.follows .mixedOrders=true:=by kernel_rfl
 have Q:=af hs;have HR:=af h;have HM:=af T;have U:=af (World.block_lt_of_cell? _ _ T);have CM:=af (fun W (hb:Below w.heap.size w W)=>(hb.cell (p:=⟨1,0,none⟩) (ae U)).trans (ae HM));have N:=af hn;clear h hs T hn;go_enter func73,ntmps73;go_wp2_with fail
 go_loopw [3,4,5,8] (fun _ _ _ i wr=>∃k:Nat,k<=n/\i = .int .i64 k/\(∀j,j<k->ig l j=0)/\Below w.heap.size w wr) (fun _ _ _ i _=>n-(intOf i).toNat)
 case atStart=>exact⟨0,a0g _,rfl,fun j hj=>absurd hj (by omega),a0c _ _⟩
 case round=>
  obtain⟨k,hk,rfl,B,C⟩:=hrel;have u:=af B;have b:=af C;clear B C;by_cases A:k<n
  .
   have ab:(k:Int)<(n:Int):=by omega
   have ac:(k:Int)<=(cap:Int):=by omega
   obtain⟨g,o,rfl,hg,hc⟩:=(ae HR).later (ae b) (by have:=ae N;omega);obtain⟨c0,c1,c2,c3,c4,c5,c6,c7⟩:=hc k (by have:=ae N;omega);have E:=af A;have M:Hid ((l.take k).length=k):=by show _=_;rw[a0v,ae N];omega
   have K:=af (fun W (hW:Below w.heap.size w W)=>qX (some ⟨g,o,none⟩) cap (l.take k) k (ae M) (l.getD k default) m W (((ae HR).later hW).take k) (by omega)
    (fun i hi=>by rw[mL l k i hi];have:=(ae Q i (by omega)).1;omega) (ae Q k A).1 (ae Q k A).2 (ae CM W hW))
   have I:=af (M7 (l.take k) (l.getD k default));have z:Hid (bv (l.take k) (l.getD k default)=ig l k):=rfl;have F:Hid (ig l k=0->∀j,j<k+1->ig l j=0):=by
    intro e j hj;by_cases S:j=k
    . rw[S];exact e
    . exact ae u j (by omega)
   clear hc hk u A;generalize l.getD k default=en at *
   by_cases r:bv (l.take k) en=0
   .
    have H:fG (bv (l.take k) en) = .nilIface:=by rw[r];rfl
    rw[H]at K;have HX:=af (ae F ((ae z).symm.trans r));clear H r z F I;go_wp2_with fail;obtain⟨W4,hW4⟩:∃W,W=wr.alloc (.cells #[.string en.n,.int .i64 en.y,.int .i64 en.mo,.int .i64 en.d,.int .i64 en.h,.int .i64 en.mi,.int .i64 en.s,.string en.t] 35):=⟨_,rfl⟩;rw[←hW4];have v:Hid (Ent W4 wr.heap.size en.n en.y en.mo en.d en.h en.mi en.s en.t):=by rw[hW4];exact mj wr en.n en.y en.mo en.d en.h en.mi en.s en.t 35
    have f:Hid (Below w.heap.size w W4):=by rw[hW4];exact(ae b).alloc (ae b).size _
    clear hW4;obtain⟨⟨u0,u1,u2,u3,u4,u5,u6,u7⟩,_,_⟩:=ae v;have k0:=cell_regrown u0;have V:=cell_regrown u1;have X:=cell_regrown u2;have Y:=cell_regrown u3;have Z:=cell_regrown u4;have k5:=cell_regrown u5;have k6:=cell_regrown u6;have k7:=cell_regrown u7;have J:=fun d os=>Calls.regrown_of (w:=W4) (d:=d) (os:=os) (ae K _ ((ae f).trans ((below_regrown W4 d os).mono (ae f).size)));clear u0 u1 u2 u3 u4 u5 u6 u7 v;refine wp_region_quiet_below D (by kernel_rfl) ?_;repeat (quiet_step (exact J _ _))
    refine a01 ?_;intro zw G;obtain⟨⟨R,osq⟩,x⟩:=G;have q:=below_regrown W4 R osq;rw[←x]at q;have L:=af (ak (ae f) q);clear x q k0 V X Y Z k5 k6 k7 J f;go_wp2;go_roundw
    case rel=>exact⟨k+1,by have:=ae E;omega,by go_num,ae HX,ae L⟩
    case measure=>have:=ae E;simp[intOf];omega
   .
    have H:fG (bv (l.take k) en) = .iface 98 (.agg #[.int .i64 (bv (l.take k) en)]):=by unfold fG;rw[a0d r]
    have HF:=af H.symm;rw[H]at K;have P:Hid (¬ ∀i,i<n->ig l i=0):=fun e=>r ((ae z).trans (e k (ae E)));have O:=af r;clear H r z F;generalize bv (l.take k) en=c at *
    go_wp2_with fail;obtain⟨W4,hW4⟩:∃W,W=wr.alloc (.cells #[.string en.n,.int .i64 en.y,.int .i64 en.mo,.int .i64 en.d,.int .i64 en.h,.int .i64 en.mi,.int .i64 en.s,.string en.t] 35):=⟨_,rfl⟩;rw[←hW4];have v:Hid (Ent W4 wr.heap.size en.n en.y en.mo en.d en.h en.mi en.s en.t):=by rw[hW4];exact mj wr en.n en.y en.mo en.d en.h en.mi en.s en.t 35
    have f:Hid (Below w.heap.size w W4):=by rw[hW4];exact(ae b).alloc (ae b).size _
    clear hW4;obtain⟨⟨u0,u1,u2,u3,u4,u5,u6,u7⟩,_,_⟩:=ae v;have k0:=cell_regrown u0;have V:=cell_regrown u1;have X:=cell_regrown u2;have Y:=cell_regrown u3;have Z:=cell_regrown u4;have k5:=cell_regrown u5;have k6:=cell_regrown u6;have k7:=cell_regrown u7;have J:=fun d os=>Calls.regrown_of (w:=W4) (d:=d) (os:=os) (ae K _ ((ae f).trans ((below_regrown W4 d os).mono (ae f).size)));clear u0 u1 u2 u3 u4 u5 u6 u7 v;refine wp_region_quiet_below D (by kernel_rfl) ?_;repeat (quiet_step (exact J _ _))
    refine a01 ?_;intro zw G;obtain⟨⟨R,osq⟩,x⟩:=G;have q:=below_regrown W4 R osq;rw[←x]at q;have L:=af (ak (ae f) q);clear x q k0 V X Y Z k5 k6 k7 J f;go_wp2;go_ret;refine⟨⟨c,?_,⟨fun e=>absurd e (ae O),fun e=>absurd e (ae P)⟩,ae I⟩,ae L⟩;rw[←ae HF];rfl
  .
   obtain rfl:k=n:=by omega
   go_wp2;go_ret;exact⟨⟨0,rfl,⟨fun _=>ae u,fun _=>rfl⟩,.inl rfl⟩,ae b⟩
theorem Ic(l:List En)(x:ByteArray):kv l x=false<->∀j,j<l.length->bV (l.getD j default).n.data.toList x.data.toList=false:=by
 refine⟨fun h j a=>?_,pj⟩;cases e:bV (l.getD j default).n.data.toList x.data.toList
 . rfl
 . rw[rM a e]at h;cases h
theorem GD(l:List En)(e:En):bv l e=0<->jW e=true/\kv l e.n=false/\l.length<6:=by
 unfold bv;cases b:jW e
 . simp
 .
  cases h2:kv l e.n
  .
   by_cases a:6<=l.length
   . simp[a]
   . simp[a];omega
  . simp
theorem mb{l:List En}{i:Nat}(e:i<l.length):ig l i=0<->jW (l.getD i default)=true/\(∀j,j<i->bV (l.getD j default).n.data.toList (l.getD i default).n.data.toList=false)/\i<6:=by
 have d:(l.take i).length=i:=by rw[a0v];omega
 unfold ig;rw[GD,Ic,d];constructor
 . rintro⟨b,h2,c⟩;exact⟨b,fun j a=>by have:=h2 j a;rwa[mL l i j a]at this,c⟩
 . rintro⟨b,h2,c⟩;exact⟨b,fun j a=>by rw[mL l i j a];exact h2 j a,c⟩
theorem Lk(a:List UInt8):fs a a=false:=by
 cases e:fs a a
 . rfl
 . have:=(List.isPrefixOf_iff_prefix.1 e).length_le;rw[a0m]at this;simp only[a0B,a0Q]at this;omega
theorem rZ{a b:List UInt8}(h:bV a b=false):¬ a=b/\fs b a=false/\fs a b=false:=by
 simp only[bV,Bool.or_eq_false_iff,a0V,ne_eq]at h;exact⟨h.1,h.2.1,h.2.2⟩
theorem kf(l:List En)(i:Nat):tr l i=true<->jW (l.getD i default)=true/\atN l (l.getD i default).n=(i:Int)/\qu l i=true:=by
 simp[tr]
theorem ET{l:List En}{i j:Nat}(g:i<l.length)(f:j<i)(e:(l.getD j default).n.data.toList=(l.getD i default).n.data.toList):¬ atN l (l.getD i default).n=(i:Int):=by
 intro h;unfold atN at h
 split at h
 .
  rename_i q hq;have b:q=i:=by omega
  subst b;rw[List.findIdx?_eq_some_iff_getElem]at hq;obtain⟨_,_,d⟩:=hq;have c:=d j f;have a:j<l.length:=by omega
  simp only[List.getD,List.getElem?_eq_getElem a,a1c]at e;simp only[a3h]at c;exact c (by simpa[List.getD]using e)
 . omega
theorem qh(l:List En):bC l=true<->∀i,i<l.length->ig l i=0:=by
 constructor
 . intro h i b;simp only[bC,a0h,a0o,a05]at h;obtain⟨f,g⟩:=h;obtain⟨e1,e2,e3⟩:=(kf l i).1 (f i (List.mem_range.2 b));refine(mb b).2 ⟨e1,fun j d=>?_,by omega⟩;obtain⟨_,_,f3⟩:=(kf l j).1 (f j (List.mem_range.2 (by omega)));simp only[qu,a05,Bool.not_eq_true']at e3 f3;have u1:=e3 j (List.mem_range.2 (by omega));have u2:=f3 i (List.mem_range.2 b);simp only[bV,Bool.or_eq_false_iff,a0V,ne_eq];exact⟨fun e=>ET b d e e2,u1,u2⟩
 .
  intro h;have g:l.length<=6:=by
   rcases a08 6 l.length with c|c
   . have:=((mb c).1 (h 6 c)).2.2;omega
   . exact c
  rw[EI (fun i b=>?_)]
  . simpa using g
  .
   obtain⟨c1,c2,_⟩:=(mb b).1 (h i b);refine(kf l i).2 ⟨c1,wk b (fun j d e=>(rZ (c2 j d)).1 (bE.1 e)) rfl,yw (fun k m=>?_)⟩;rcases a3O k i with a|a|a
   . exact(rZ (c2 k a)).2.1
   . rw[a];exact Lk _
   . exact(rZ (((mb m).1 (h k m)).2.1 i a)).2.2
end Go.Proofs.YtlpmnnjlmjffpaaGreatDoor
