/- Of what the proof is made: 2 texts, one behind the other. -/
import Derived.Deep.RegionLawGrows
import Derived.Lib.Split
import Derived.Lib.SplitLaws
import Derived.Lib.IndexLaws
import Derived.KernelRfl
set_option linter.unusedSimpArgs false
set_option linter.unusedVariables false
namespace Go
theorem aQ{P:Program}{ops:Array Oper}{o:Oper}{a:Act}{w:World}{K:Act->World->Prop}{Q:Exit->Act->World->Prop}{E:Prop}
  (F:o.guard=none) (s x:Operand) (t:TypeId) (g:o.op=Op.call { callee:=Callee.builtin Builtin.append,args:=#[s,x],argTypes:=#[t,t] })
  (base:Nat) (e:TypeId) (i:TypeInfo) (z:Value) (size bytes:Nat) (p:P.underlying t=some (.slice e)) (h2:P.info? e=some i) (q:i.zero=some z) (r:i.size=size) (y:i.bytes=bytes) (A:z.cells.size=size) (B:0<size)
  (v:Value) (n:Nat) (xs:List Value) (H:a.eval s=v) (b:w.ownsRow base e size v n xs)
  (ad:Addr) (m c:Nat) (news:List Value) (J:a.eval x = .slice (some ad) m c) (G:news.length=m*size) (D:∀j u,news[j]?=some u->w.cell? (ad.add j)=some u) (f:∀u∈news,u.oneCell'=true)
  (h:n+m<=maxLen) (k:(n+m)*bytes<=140737488355328) (l:base<=w.heap.size)
  (C:∀v' w',w'.ownsRow base e size v' (n+m) (xs++news)->w.grownBy w' v.ownBlock->(v' = .slice none 0 0<->v = .slice none 0 0/\m=0)->K (a.put o.dst v') w') :
  if Region.wanted o (yielded ops a.tmps)=true then Oper.wp P o a w K Q else E:=by
 have I:Region.wanted o (yielded ops a.tmps)=true:=by simp[Region.wanted,F]
 rw[if_pos I];obtain⟨v',w',d,L,M,N⟩:=run_append_own (P:=P) w base t o.type e i z size bytes p h2 q r y A B v n xs b ad m c news G D f h k l;unfold Oper.wp;simp[execOp,g,resolve,invoke,builtin,H,J,d,Result.andThen];exact C v' w' L M N
theorem iD{P:Program}{ops:Array Oper}{o:Oper}{a:Act}{w:World}{K:Act->World->Prop}{Q:Exit->Act->World->Prop}{E:Prop}(d:Nat)(_:o.dst=some d)(h:if Region.wanted o (yielded ops a.tmps)=true then Oper.wp P o a w K Q else E):if Region.wanted o (yielded ops a.tmps)=true then Oper.wp P o a w K Q else E:=h
end Go
namespace Go.Proofs.YtggknepmhjfohaaGreatDoor
open Go
def okB(b:UInt8):Bool:=decide (97<=b.toNat)&&decide (b.toNat<=122) || (decide (48<=b.toNat)&&decide (b.toNat<=57) || (b.toNat == 46 || (b.toNat == 45 || b.toNat == 95)))
def fi(p:List UInt8):Bool:=p.all okB&&(decide (1<=p.length)&&(decide (p.length<=10)&&(!(p == [46])&&!(p == [46,46]))))
def dt:List UInt8->List UInt8->List (List UInt8)
 | cur,[]=>[cur]
 | cur,b :: l=>if b=47 then cur :: dt [] l else dt (cur++[b]) l
def mK(l:List UInt8):List (List UInt8):=dt [] l
def lN(l:List UInt8):Bool:=(mK l).all fi&&decide ((mK l).length<=4)
def ahead(cur:List UInt8):List (List UInt8)->List (List UInt8)
 | []=>[cur]
 | h :: t=>(cur++h) :: t
theorem nc:∀(l cur:List UInt8),dt cur l=ahead cur (dt [] l)
 | [],cur=>by simp[dt,ahead]
 | b :: l,cur=>by
  unfold dt;by_cases h:b=47
  . simp[h,ahead]
  .
   rw[if_neg h,if_neg h,nc l (cur++[b]),nc l ([]++[b])];cases a:dt [] l with
   | nil=>simp[ahead]
   | cons h t=>simp[ahead]
theorem CW(l a:List UInt8):dt a l≠[]:=by
 induction l generalizing a with
 | nil=>simp[dt]
 | cons b l ih=>unfold dt;split<;>simp[ih]
theorem ml:∀(l cur:List UInt8) (b:UInt8),dt cur (l++[b])=if b=47 then dt cur l++[[]]else(dt cur l).dropLast++[(dt cur l).getLastD []++[b]]
 | [],cur,b=>by
  by_cases h:b=47<;>simp[dt,h]
 | c :: l,cur,b=>by
  rw[List.cons_append];unfold dt;by_cases h:c=47
  .
   rw[if_pos h,if_pos h,ml l [] b];have a:=CW l []
   split
   . simp
   .
    cases d:dt [] l with
    | nil=>exact absurd d a
    | cons x t=>simp
  . rw[if_neg h,if_neg h,ml l (cur++[c]) b]
theorem nV:∀(l cur:List UInt8),(dt cur l).length<=l.length+1
 | [],cur=>by simp[dt]
 | b :: l,cur=>by
  unfold dt
  split
  . have:=nV l [];simp;omega
  . have:=nV l (cur++[b]);simp;omega
theorem index_one(c b:UInt8)(l:List UInt8)(h:¬ b=c):Lib.index (b :: l) [c]=if Lib.index l [c] == -1 then -1 else Lib.index l [c]+1:=by
 rw[Lib.index];have:([c].isPrefixOf (b :: l))=false:=by simp only[List.isPrefixOf,Bool.and_true,beq_eq_false_iff_ne,ne_eq];exact fun e=>h e.symm
 rw[this];simp
theorem sw(c:UInt8)(l:List UInt8):Lib.index (c :: l) [c]=0:=by
 rw[Lib.index];simp[List.isPrefixOf]
theorem qx(c:UInt8):∀(l:List UInt8),Lib.count l [c]≠0->∃k:Nat,Lib.index l [c]=k
 | [],h=>by
  rw[Lib.count_one]at h;simp at h
 | b :: l,h=>by
  by_cases e:b=c
  . subst e;exact⟨0,sw b l⟩
  .
   rw[Lib.count_cons_ne b c l e]at h;obtain⟨k,a⟩:=qx c l h;refine⟨k+1,?_⟩;rw[index_one c b l e,a];have:¬ ((k:Int) == -1)=true:=by simp
   rw[if_neg this];omega
theorem zC(c b:UInt8)(l:List UInt8)(h:¬ b=c)(n:Nat)(d:n=Lib.count l [c]):Lib.splitK [c] 0 n (b :: l)=ahead [b] (Lib.splitK [c] 0 n l):=by
 cases n with
 | zero=>simp[Lib.splitK,ahead]
 | succ n=>
  obtain⟨k,a⟩:=qx c l (by omega);have e1:Lib.index (b :: l) [c]=((k+1:Nat):Int):=by
   rw[index_one c b l h,a];have:¬ ((k:Int) == -1)=true:=by simp
   rw[if_neg this];omega
  have n1:¬ (Lib.index (b :: l) [c] == -1)=true:=by rw[e1];simp;omega
  have n2:¬ (Lib.index l [c] == -1)=true:=by rw[a];simp
  rw[Lib.splitK,if_neg n1,e1,Lib.splitK,if_neg n2,a];simp[ahead]
theorem pZ:∀(l:List UInt8),Lib.splitK [47] 0 (Lib.count l [47]) l=dt [] l
 | []=>by
  have:Lib.count [] [47]=0:=by rw[Lib.count_one];rfl
  rw[this];simp[Lib.splitK,dt]
 | b :: l=>by
  by_cases h:b=47
  . subst h;rw[Lib.count_cons_eq,Nat.add_comm,Lib.splitK,sw];simp[dt,pZ l]
  . rw[Lib.count_cons_ne b 47 l h,zC 47 b l h _ rfl,pZ l,dt,if_neg h,nc l ([]++[b])];simp
def zq:List UInt8:=[97,98,99,100,101,102,103,104,105,106,107,108,109,110,111,112,113,114,115,116,117,118,119,120,121,122,48,49,50,51,52,53,54,55,56,57,46,45,95]
theorem Ir:((List.range 256).all fun n=>decide (Lib.indexByte zq n.toUInt8<0) == !okB n.toUInt8)=true:=by decide +kernel
theorem Kw(b:UInt8):decide (Lib.indexByte zq b<0)=!okB b:=by
 have:=List.all_eq_true.1 Ir b.toNat (List.mem_range.2 b.toNat_lt);simpa using this
end Go.Proofs.YtggknepmhjfohaaGreatDoor
