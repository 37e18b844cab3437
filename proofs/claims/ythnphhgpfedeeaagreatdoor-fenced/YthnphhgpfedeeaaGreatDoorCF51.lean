import Derived.Test.YthnphhgpfedeeaaGreatDoorCF50
namespace Go.Proofs.YthnphhgpfedeeaaGreatDoor
open Go.RowKit Tryz
open List renaming getElem_of_mem->ab,replicate->al,mem_singleton->ar,eq_of_mem_replicate->aE,getElem_mem->ba
open Nat renaming not_lt_zero->an,le_refl->ao,le_trans->bh,le_of_lt->bj
set_option linter.all false
set_option maxRecDepth 100000
set_option maxHeartbeats 2000000
theorem DZ{fs:List aS}{mn:Nat}(hco:qK fs mn)(hk:xU fs):∀(n:Nat) (s:bP),bR fs.length s->s.ms.length=mn->(s.r.ended=true\/Cc fs s)->bR fs.length (followP fs n s).2/\(followP fs n s).2.ms.length=mn
 |0,s,ho,hm,_=>⟨ho,hm⟩
 |n+1,s,ho,hm,hp=>by
  by_cases he:s.r.ended=true
  ·have:followP fs (n+1) s=(0,s):=by unfold followP;rw[iP9 he]
   rw[this];exact⟨ho,hm⟩
  ·have he':s.r.ended=false:=by simpa using he
   rw[lD fs n s he'];have Wh:Cc fs s:=hp.elim (λe=>absurd e he) id;have hmem:=tN fs _ ho.top.fn;have hat:=tO fs _ _ Wh.at';have hins:=hco.ins _ hmem _ hat;have hob:=ho.begin (s.ins fs).o.slots;have hd:=Lj hob (by exact hm) (s.ins fs) hins.1 (λh6 h1 h4=>hk _ hmem _ hat h6 h1 h4 _ hob);by_cases hu:s.r.used=s.r.fuel
   ·have em:gD fs s=(1,s):=by unfold gD;rw[iP9 hu]
    rw[em];exact⟨ho,hm⟩
   ·by_cases h0:(s.did fs).1=0
    ·have em:gD fs s=(0,(s.did fs).2.gx):=by unfold gD;rw[iN9 hu,iP9 h0]
     rw[em,iP9 rfl];have aa5:=U7 (by rw[hm];exact hco) ho Wh he' h0;refine DZ hco hk n _ (bR.gx hd.1) hd.2 ?_;rcases aa5 with hd'|hd'
     ·exact .inl hd'
     ·exact .inr (Cc.of hd.1.pos hd')
    ·have em:gD fs s=s.did fs:=by unfold gD;rw[iN9 hu,iN9 h0]
     rw[em,iN9 h0];exact hd
theorem IX(fn F q n:Nat):DT fn F q n=⟨[⟨fn,0,0,[{},uA q 0,kI n,{},{},{},{},{},{},{},uA (q+1) 64],q+1⟩],F,0,[],0,false,q⟩:=rfl
theorem zN.more{gs:List (List Nat)}(h:zN gs){x:List Nat}(hx:x.length<=1000/\∀b∈x,b<256):zN (gs++[x]):=λg hg=>by
 rcases List.mem_append.1 hg with hg|hg
 ·exact h g hg
 ·rw[List.mem_singleton.1 hg];exact hx
theorem MN(s:tBA):(ic (mq s)).length<=32/\∀b∈ic (mq s),b<256:=by
 refine⟨?_,λb hb=>?_⟩
 ·have h1:(ic (mq s)).length=(mq s).size:=by unfold ic;rw[List.length_map];rfl
  rw[h1];unfold mq;rw[ByteArray.size_extract];omega
 ·unfold ic at hb;obtain⟨c,_,rfl⟩:=List.mem_map.1 hb;exact c.toNat_lt
theorem Ve:bu.length<=1000/\∀b∈bu,b<256:=by refine⟨by decide,λb hb=>?_⟩;rw[aE hb];decide
theorem Vf{fn' fn:Nat}{gs:List (List Nat)}{ms:List yU}(hf:fn<fn')(hg:zN gs)(hm:∀m∈ms,QM gs m)(hn:(jU ms).Nodup)(inp:tBA)(fuel:Int):bR fn' (qJ gs ms fn inp fuel):=by
 have hsz:(mq inp).size<=32:=by unfold mq;rw[ByteArray.size_extract];omega
 unfold qJ;rw[IX];have hlen:(gs++[ic (mq inp)]++[bu]).length=gs.length+2:=by simp
 refine⟨by simp,by simp,?_,?_,?_,⟨by simp,by simp⟩,?_,?_⟩
 ·intro f hf';simp only[ar]at hf';subst hf';refine⟨hf,by simp only;rw[hlen];omega,rfl,?_⟩;intro v hv;simp only;rw[hlen];simp only[List.mem_cons,List.not_mem_nil,or_false]at hv;rcases hv with rfl|rfl|rfl|rfl|rfl|rfl|rfl|rfl|rfl|rfl|rfl
  all_goals first|exact MV.Ok.zero _ _|exact MV.Ok.ptr (by omega) (by omega)|exact MV.Ok.num (by omega)
 ·exact(hg.more ⟨by have:=(MN inp).1;omega,(MN inp).2⟩).more Ve
 ·simp only;rw[hlen];omega
 ·intro m hm';exact((hm m hm').grow _).grow _
 ·unfold Lf;simp only[List.map_cons,List.map_nil,List.cons_append,List.nil_append];have hlt:∀q∈jU ms,q<gs.length:=λq hq=>by unfold jU at hq;obtain⟨m,hm',hq⟩:=List.mem_flatMap.1 hq;obtain⟨e,he,rfl⟩:=List.mem_map.1 hq;exact((hm m hm').er e he).1
  rw[List.nodup_cons,List.nodup_cons];refine⟨λh=>?_,λh=>?_,hn⟩
  ·rcases List.mem_cons.1 h with h|h
   ·omega
   ·have:=hlt _ h;omega
  ·have:=hlt _ h;omega
theorem Vg{fs:List aS}{mn fn:Nat}(hco:qK fs mn)(hf:fn<fs.length)(gs:List (List Nat))(ms:List yU)(inp:tBA)(fuel:Int):Cc fs (qJ gs ms fn inp fuel):=by unfold qJ;rw[IX];exact⟨hco.first _ (tN fs fn hf),λp hp=>by simp[aC.mJ]at hp⟩
theorem Vh{fs:List aS}{nm:tLB}{k:Nat}(h:xQ fs nm=some k):k<fs.length:=by unfold xQ at h;exact(List.findIdx?_eq_some_iff_getElem.1 h).1
def jc(a:Ad)(k:Nat):Prop:=k∈a.rb\/(∃v∈a.vs,v.ownBlock=some k)\/k∈a.mb\/∃v∈a.ve,v.ownBlock=some k
def Whole(mp:Nat)(vF:Value)(cg:List Nat)(a:Ad)(k:Nat):Prop:=k=mp\/jc a k\/vF.ownBlock=some k\/k∈cg\/a.vM.ownBlock=some k
structure dR(c0 c1:Value)(wT:tW)(tv:Value)(bs:List Nat)(mp:Nat)(vF:Value)(fs:List aS)(cg:List Nat)(a:Ad)(gs:List (List Nat))(ms:List yU)(w:tW):Prop where
 blk:ak w mp #[c0,c1,vF,a.vM] 71
 lf:cg.length=fs.length
 vT:Sl w 75 2 vF fs.length ((fs.zip cg).flatMap Fx)
 code:∀i (h:i<fs.length) (h':i<cg.length),mI w bs cg[i] (aM fs[i].code) (atS 0 fs[i].code)
 tab:aH 0 wT tv bs aq
 md:iL maT wT w
 qU:nJ w a.rb a.vs gs
 maps:tM w a.rb a.mb a.vM a.ve ms
 gok:zN gs
 mok:∀m∈ms,QM gs m
 own:(jU ms).Nodup
 base:∀k,jc a k->wT.heap.size<=k
 MQ:wT.heap.size<=mp
theorem o8{α:Type}{l:List α}{x:α}(d:α)(h:x∈l):∃i,i<l.length/\l.getD i d=x:=by obtain⟨i,hi,rfl⟩:=ab h;exact⟨i,hi,by rw[List.getD_eq_getElem?_getD,List.getElem?_eq_getElem hi];rfl⟩
section
variable {c0 c1 : Value} {wT : World} {tv : Value} {bs : List Nat} {mp : Nat} {vF : Value} {fs : List aS} {cg : List Nat} {a : Ad} {gs : List (List Nat)} {ms : List yU} {w w' : World}
theorem mI.ty{g n:Nat}{l:List (PI×Nat)}(h:mI w bs g n l):Ty w g 138:=by obtain⟨cs,hb,_⟩:=h.ex;exact hb.ty
theorem dR.MR(h:dR c0 c1 wT tv bs mp vF fs cg a gs ms w){k:Nat}(hk:jc a k):∃t∈[122,5,85,148],Ty w k t:=by
 rcases hk with hk |⟨v,hv,hk⟩|hk |⟨v,hv,hk⟩
 ·obtain⟨i,hi,rfl⟩:=o8 0 hk;exact⟨_,by simp,(h.qU.blk i (by rw[<-h.qU.lr];exact hi)).ty⟩
 ·obtain⟨i,hi,rfl⟩:=o8 undef hv;exact⟨_,by simp,(h.qU.sl i (by rw[<-h.qU.lv];exact hi)).ty hk⟩
 ·obtain⟨i,hi,rfl⟩:=o8 0 hk;exact⟨_,by simp,(h.maps.blk i (by rw[<-h.maps.lm];exact hi)).ty⟩
 ·obtain⟨i,hi,rfl⟩:=o8 undef hv;exact⟨_,by simp,(h.maps.sl i (by rw[<-h.maps.le];exact hi)).ty hk⟩
theorem dR.uo(h:dR c0 c1 wT tv bs mp vF fs cg a gs ms w){k:Nat}{t:TypeId}(ht:Ty w k t)(hn:t ∉ [122,5,85,148]):¬jc a k:=λhk=>by
 obtain⟨u,hu,hk⟩:=h.MR hk;exact hn (ht.one hk ▸ hu)
theorem dR.MS(h:dR c0 c1 wT tv bs mp vF fs cg a gs ms w){k:Nat}(hk:jc a k):k<w.heap.size:=by obtain⟨t,_,cs,fr,e⟩:=h.MR hk;obtain⟨hlt,_⟩:=Array.getElem?_eq_some_iff.1 e;exact hlt
theorem dR.acR(h:dR c0 c1 wT tv bs mp vF fs cg a gs ms w):¬jc a mp/\(∀k,vF.ownBlock=some k->¬jc a k)/\∀g∈cg,¬jc a g :=
 ⟨h.uo h.blk.ty (by decide),λk hk=>h.uo (h.vT.ty hk) (by decide),λg hg=>by obtain⟨i,hi,rfl⟩:=ab hg;exact h.uo (h.code i (by rw[<-h.lf];exact hi) hi).ty (by decide)⟩
theorem dR.ZW(h:dR c0 c1 wT tv bs mp vF fs cg a gs ms w):mp<w.heap.size/\(∀k,vF.ownBlock=some k->k<w.heap.size)/\∀g∈cg,g<w.heap.size :=
 ⟨h.blk.lt,λk hk=>h.vT.lt k hk,λg hg=>by obtain⟨i,hi,rfl⟩:=ab hg;obtain⟨cs,fr,e⟩:=(h.code i (by rw[<-h.lf];exact hi) hi).ty;obtain⟨hlt,_⟩:=Array.getElem?_eq_some_iff.1 e;exact hlt⟩
theorem dR.anm{S:Nat->Prop}(h:dR c0 c1 wT tv bs mp vF fs cg a gs ms w)(m:aa S w w')(hS:∀k,k<wT.heap.size->S k->∃t∈maT,Ty wT k t)(hW:∀k,S k->¬Whole mp vF cg a k):dR c0 c1 wT tv bs mp vF fs cg a gs ms w':=by
 have q:∀k,Whole mp vF cg a k->¬S k:=λk hk hs=>hW k hs hk;have qf:∀k,jc a k->¬S k:=λk hk=>q k (.inr (.inl hk));have g0:∀(l:List Nat) i,i<l.length->l.getD i 0∈l:=λl i hi=>by rw[List.getD_eq_getElem?_getD,List.getElem?_eq_getElem hi];exact ba _
 have g1:∀(l:List Value) i,i<l.length->l.getD i undef∈l:=λl i hi=>by rw[List.getD_eq_getElem?_getD,List.getElem?_eq_getElem hi];exact ba _
 refine⟨h.blk.ag m (q _ (.inl rfl)),h.lf,h.vT.ag m (λk hk=>q _ (.inr (.inr (.inl hk)))),λi a b=>(h.code i a b).ag m (q _ (.inr (.inr (.inr (.inl (ba b)))))),h.tab,h.md.step m hS,?_,?_,h.gok,h.mok,h.own,h.base,h.MQ⟩
 ·exact⟨h.qU.lr,h.qU.lv,λi hi=>(h.qU.blk i hi).ag m (qf _ (.inl (g0 _ _ (by rw[h.qU.lr];exact hi)))),λi hi=>(h.qU.sl i hi).ag m (λk hk=>qf _ (.inr (.inl ⟨_,g1 _ _ (by rw[h.qU.lv];exact hi),hk⟩))),h.qU.inj,h.qU.IG⟩
 ·exact⟨h.maps.lm,h.maps.le,h.maps.zx.ag m (λk hk=>q _ (.inr (.inr (.inr (.inr hk))))),λi hi=>(h.maps.blk i hi).ag m (qf _ (.inr (.inr (.inl (g0 _ _ (by rw[h.maps.lm];exact hi)))))),λi hi=>(h.maps.sl i hi).ag m (λk hk=>qf _ (.inr (.inr (.inr ⟨_,g1 _ _ (by rw[h.maps.le];exact hi),hk⟩)))),h.maps.inj,h.maps.Yo⟩
theorem dR.ag{S:Nat->Prop}(h:dR c0 c1 wT tv bs mp vF fs cg a gs ms w)(m:aa S w w')(hS:∀k,S k->wT.heap.size<=k/\¬Whole mp vF cg a k):dR c0 c1 wT tv bs mp vF fs cg a gs ms w':=h.anm m (λk hk hs=>by have:=(hS k hs).1;omega) (λk hs=>(hS k hs).2)
theorem dR.quiet(h:dR c0 c1 wT tv bs mp vF fs cg a gs ms w)(m:aa ae w w'):dR c0 c1 wT tv bs mp vF fs cg a gs ms w':=h.ag m (λ_ h=>h.elim)
theorem dR.turn(h:dR c0 c1 wT tv bs mp vF fs cg a gs ms w)(v:Value):dR v c1 wT tv bs mp vF fs cg a gs ms (w.setCell ⟨mp,0,none⟩ v):=by have m:aa (Only mp) w (w.setCell ⟨mp,0,none⟩ v):=ax.aY 0 v;have mT:iL [71] w (w.setCell ⟨mp,0,none⟩ v):=iL.of m (λk hk=>⟨71,List.mem_singleton.2 rfl,by have e:k=mp:=hk;subst e;exact h.blk.ty⟩);refine⟨h.blk.set 0 v,h.lf,h.vT.eG mT (by decide),λi a b=>(h.code i a b).ag mT ((h.code i a b).ty.nt (by decide)),h.tab,h.md.step m (λi hi hs=>by have:=h.MQ;rw[show i=mp from hs]at hi;omega),h.qU.eG mT (by decide) (by decide),h.maps.eG mT (by decide) (by decide) (by decide),h.gok,h.mok,h.own,h.base,h.MQ⟩
theorem dR.cd(h:dR c0 c1 wT tv bs mp vF fs cg a gs ms w){F:Nat->Prop}(hF:∀k,F k->jc a k\/w.heap.size<=k):vZ F wT tv bs mp vF fs cg w:=by obtain⟨n1,n2,n3⟩:=h.acR;obtain⟨l1,l2,l3⟩:=h.ZW;refine⟨⟨c0,c1,a.vM,h.blk⟩,h.lf,h.vT,h.code,h.tab,h.md,λhk=>(hF _ hk).elim n1 (λe=>by omega),λk hk hf=>(hF _ hf).elim (n2 k hk) (λe=>by have:=l2 k hk;omega),λg hg hf=>(hF _ hf).elim (n3 g hg) (λe=>by have:=l3 g hg;omega),λk hk=>(hF k hk).elim (h.base k) (λe=>bh h.md.size e)⟩
end
def mK(r:La)(vL:Value):tAV:=#[.int .i64 r.trap,.string (T r.fn),.int .i64 r.slot,.int .u64 r.r0,.string (strOf r.inp),vL,.int .i64 r.used]
def pg:tAV:=#[.int .i64 0,.string ⟨#[]⟩,.int .i64 0,.int .u64 0,.string ⟨#[]⟩,.slice none 0 0,.int .i64 0]
section
variable {c0 c1 : Value} {wT : World} {tv : Value} {bs : List Nat} {mp : Nat} {vF : Value} {fs : List aS} {cg : List Nat} {a : Ad} {gs : List (List Nat)} {ms : List yU} {w w' : World} {F : Nat -> Prop}
theorem dR.fresh(h:dR c0 c1 wT tv bs mp vF fs cg a gs ms w)(k:Nat)(hk:w.heap.size<=k):wT.heap.size<=k/\¬Whole mp vF cg a k:=by
 obtain⟨l1,l2,l3⟩:=h.ZW;refine⟨bh h.md.size hk,λhw=>?_⟩;rcases hw with rfl|hw|hw|hw|hw
 ·omega
 ·have:=h.MS hw;omega
 ·have:=l2 k hw;omega
 ·have:=l3 k hw;omega
 ·have:=h.maps.zx.lt k hw;omega
theorem nJ.acS{rb:List Nat}{vs:List Value}(h:nJ w rb vs gs):(∀x∈rb,x<w.heap.size)/\∀v∈vs,∀k,v.ownBlock=some k->k<w.heap.size:=by
 refine⟨λx hx=>?_,λv hv k hk=>?_⟩
 ·obtain⟨i,hi,rfl⟩:=o8 0 hx;exact(h.blk i (by rw[<-h.lr];exact hi)).lt
 ·obtain⟨i,hi,rfl⟩:=o8 undef hv;exact(h.sl i (by rw[<-h.lv];exact hi)).lt k hk
theorem YA(fs:List aS)(d:Nat×bP)(h:d.1=0)(vL:Value):#[.int .i64 0,.string ByteArray.empty,.int .i64 0,.int .u64 d.2.r.r0,.string (strOf (d.2.gs.getD d.2.r.inp [])),vL,.int .i64 d.2.r.used]=mK (tK fs d) vL:=by unfold tK;rw[iP9 h];rfl
theorem QZ(fs:List aS)(d:Nat×bP)(h:d.1≠0)(vL:Value):#[.int .i64 d.1,.string (T (jy fs d.2.r.top.fn).name),.int .i64 d.2.r.top.slot,.int .u64 d.2.r.r0,.string (strOf (d.2.gs.getD d.2.r.inp [])),vL,.int .i64 d.2.r.used]=mK (tK fs d) vL:=by unfold tK;rw[iN9 h];rfl
theorem Vi(fs:List aS)(d:Nat×bP):(tK fs d).log=d.2.r.log:=by unfold tK;split<;>rfl
theorem IY(r:La)(o:Option Addr)(n c:Nat):(mK r (.slice o n c)).all (·.oneCell')=true:=by unfold mK;simp[Value.oneCell']
theorem Vj(h:dR c0 c1 wT tv bs mp vF fs cg a gs ms w)(m:aa ae w w'){fn:Nat}{inp:tBA}{fuel:Int}{b R S:Nat}{v1 v2 vC:Value}(hr:aB w' b (a.rb++[R]++[S]) a.mb a.vM vC (.slice none 0 0) (DT fn (min (max fuel 0) 5000).toNat gs.length (mq inp).size))(hg:nJ w' (a.rb++[R]++[S]) (a.vs++[v1]++[v2]) (gs++[ic (mq inp)]++[bu]))(hF:∀k,jc a k->F k)(hb:F b)(hR:F R)(hS:F S)(h1:∀k,v1.ownBlock=some k->F k)(h2:∀k,v2.ownBlock=some k->F k)(hC:∀k,vC.ownBlock=some k->F k):eW F w' b ⟨a.rb++[R]++[S],a.mb,a.vs++[v1]++[v2],a.ve,a.vM,vC,.slice none 0 0⟩ (qJ gs ms fn inp fuel):=by
 have hin:∀m∈ms,m.In a.rb.length:=λm hm e he=>by rw[h.qU.lr];exact((h.mok m hm).er e he).1
 refine⟨hr,hg,Sl.nil _ _ _,?_,hb,hC,λk hk=>(by cases hk),?_,?_,λx hx=>hF x (.inr (.inr (.inl hx))),λv hv k hk=>hF k (.inr (.inr (.inr ⟨v,hv,hk⟩)))⟩
 ·exact((h.maps.quiet m).grow R hin).grow S (λm hm e he=>by rw[List.length_append];have:=hin m hm e he;omega)
 ·intro x hx;simp only[List.mem_append,ar]at hx;rcases hx with(hx|rfl)|rfl
  ·exact hF x (.inl hx)
  ·exact hR
  ·exact hS
 ·intro v hv k hk;simp only[List.mem_append,ar]at hv;rcases hv with(hv|rfl)|rfl
  ·exact hF k (.inr (.inl ⟨v,hv,hk⟩))
  ·exact h1 k hk
  ·exact h2 k hk
theorem YB(h:dR c0 c1 wT tv bs mp vF fs cg a gs ms w)(hF:∀k,F k->jc a k\/w.heap.size<=k)(m:aa F w w'){b:Nat}{a':Ad}{s:bP}(hs:eW F w' b a' s)(ho:bR fs.length s)(ev:a'.vM=a.vM):dR c0 c1 wT tv bs mp vF fs cg a' s.gs s.ms w'/\∀k,jc a' k->F k:=by
 have hc:=h.cd hF
 have hf:∀k,jc a' k->F k:=λk hk=>by
  rcases hk with hk |⟨v,hv,hk⟩|hk |⟨v,hv,hk⟩
  ·exact hs.fr k hk
  ·exact hs.fv v hv k hk
  ·exact hs.fm k hk
  ·exact hs.fe v hv k hk
 have hc':=hc.ag m;refine⟨⟨by rw[ev];exact h.blk.ag m hc.nM,hc'.lf,hc'.vT,hc'.code,hc'.tab,hc'.md,hs.qU,hs.maps,ho.gs,ho.maps,?_,λk hk=>hc.base k (hf k hk),h.MQ⟩,hf⟩;have:=ho.own;unfold Lf at this;exact(List.nodup_append.1 (List.nodup_cons.1 this).2).2.1
end
def FJ(c1:Value)(wT:tW)(tv:Value)(bs:List Nat)(mp:Nat)(vF:Value)(fs:List aS)(cg:List Nat)(a:Ad)(w:tW)(d:La×List (List Nat)×List yU)(e:Ending)(w':tW):Prop :=
 ∃vL a',e=.returned (.agg (mK d.1 vL))/\Sl w' 22 1 vL d.1.log.length (Qy d.1.log)/\dR (.int .i32 0) c1 wT tv bs mp vF fs cg a' d.2.1 d.2.2 w'/\a'.mb=a.mb/\a'.vM=a.vM/\(∀k,jc a' k->jc a k\/w.heap.size<=k)/\aa (λk=>k=mp\/jc a k) w w'
theorem Vk{c1:Value}{wT:tW}{tv:Value}{bs:List Nat}{mp:Nat}{vF:Value}{fs:List aS}{cg:List Nat}{a:Ad}{gs:List (List Nat)}{ms:List yU}{w:tW}(h:dR (.int .i32 0) c1 wT tv bs mp vF fs cg a gs ms w)(hco:qK fs ms.length)(hH:∀F b,MJ F b fs)(hK:xU fs)(hn:fs.length<=1000)(nm:tLB)(inp:tBA)(hs:inp.size<=9223372036854775807)(fuel:Int)(hf:-9223372036854775808<=fuel/\fuel<=9223372036854775807):Calls prog 20 #[pt mp,.string (T nm),.string inp,.int .i64 fuel] w λe w'=>FJ c1 wT tv bs mp vF fs cg a w (tL fs gs ms nm inp fuel) e w':=by
 have hmf:∀(fn:Fn) (first cap:tAV) (w:tW),(Instr.makeFunc fn first cap).run prog w=.ok (.func fn first cap) w:=λ_ _ _ _=>rfl;have HH:=ai h;have Ro:af (mp<w.heap.size):=h.blk.lt;have HFR:af (∀k,w.heap.size<=k->wT.heap.size<=k/\¬Whole mp vF cg a k):=h.fresh;clear h;have dh:af (aa ae w (((w.alloc (.cells #[pt mp] 56)).alloc (.cells #[.string (T nm)] 9)).alloc (.cells pg 34))):=(((aa.refl ae w).alloc _).alloc _).alloc _;have gq:af (ak (((w.alloc (.cells #[pt mp] 56)).alloc (.cells #[.string (T nm)] 9)).alloc (.cells pg 34)) w.heap.size #[pt mp] 56):=(ak.new w _ _).ag (((aa.refl ae _).alloc _).alloc _) id;have iT:af (ak (((w.alloc (.cells #[pt mp] 56)).alloc (.cells #[.string (T nm)] 9)).alloc (.cells pg 34)) (w.heap.size+1) #[.string (T nm)] 9):=by have:=(ak.new (w.alloc (.cells #[pt mp] 56)) #[.string (T nm)] 9).ag ((aa.refl ae _).alloc (.cells pg 34)) id;rw[World.size_alloc]at this;exact this
 have Kh:af (ak (((w.alloc (.cells #[pt mp] 56)).alloc (.cells #[.string (T nm)] 9)).alloc (.cells pg 34)) (w.heap.size+1+1) pg 34):=by have:=ak.new ((w.alloc (.cells #[pt mp] 56)).alloc (.cells #[.string (T nm)] 9)) pg 34;rw[World.size_alloc,World.size_alloc]at this;exact this
 go_enter_defers func20,ntmps20;go_upto_region 1 with fail;have hz:w.heap.size+1+1=w.heap.size+2:=rfl;have HZR:af (pg=#[.int .i64 0,.string ⟨#[]⟩,.int .i64 0,.int .u64 0,.string ⟨#[]⟩,.slice none 0 0,.int .i64 0]):=rfl;rw[<-HZR.o];generalize((w.alloc (.cells #[pt mp] 56)).alloc (.cells #[.string (T nm)] 9)).alloc (.cells pg 34)=W1 at *;have YC:af (dR (.int .i32 0) c1 wT tv bs mp vF fs cg a gs ms W1):=HH.o.quiet dh.o;obtain⟨oF,cF,jZ,_⟩:=HH.o.vT.view;obtain⟨oM,cM,yR,_⟩:=HH.o.maps.zx.view;subst jZ;have HVM:=ai yR;clear yR hz;have YD:af (w.heap.size<w.heap.size+1+1):=by unfold af;omega
 have HG5:af (w.heap.size<w.heap.size+1):=by unfold af;omega
 have HG4:af (w.heap.size<=w.heap.size):=ao _;have aeN:af (w.heap.size+1+1≠w.heap.size+1):=by unfold af;omega
 generalize w.heap.size+1+1=g8 at *;generalize w.heap.size+1=g5 at *;have x4:=gq.o.cell 0;have VZ:=ai (Go.MuLone.lock_free Vc ⟨mp,0,none⟩ W1 (YC.o.blk.cell 0) (YC.o.blk.frozen 0));go_upto_region 1 with fail;go_wp2_with fail;refine VZ.o.mono ?_;rintro e w2 ⟨rfl,rfl⟩;clear x4 VZ;have Vl:af (dR (.int .i32 1) c1 wT tv bs mp (.slice oF fs.length cF) fs cg a gs ms (W1.setCell ⟨mp,0,none⟩ (.int .i32 1))):=YC.o.turn _;have dD:af (aa (λk=>k=mp\/jc a k) w (W1.setCell ⟨mp,0,none⟩ (.int .i32 1))):=(dh.o.mono (λ_ _ h=>h.elim)).trans (((aa.refl (Only mp) W1).aY 0 _).mono (λ_ _ h=>.inl h));have aa7:af (ak (W1.setCell ⟨mp,0,none⟩ (.int .i32 1)) w.heap.size #[pt mp] 56):=gq.o.setOther (a:=⟨mp,0,none⟩) (by have:=Ro.o;simp only;omega) _;have acT:af (ak (W1.setCell ⟨mp,0,none⟩ (.int .i32 1)) g5 #[.string (T nm)] 9):=iT.o.setOther (a:=⟨mp,0,none⟩) (by have:=Ro.o;have:=HG5.o;simp only;omega) _;have acU:af (ak (W1.setCell ⟨mp,0,none⟩ (.int .i32 1)) g8 pg 34):=Kh.o.setOther (a:=⟨mp,0,none⟩) (by have:=Ro.o;have:=YD.o;simp only;omega) _;clear YC dh gq iT Kh;generalize W1.setCell ⟨mp,0,none⟩ (.int .i32 1)=W2 at *;have x4:=aa7.o.cell 0;have y2:W2.cell? ⟨mp,2,none⟩=some (.slice oF fs.length cF):=Vl.o.blk.cell 2;have HIX:=ai (Lu W2 fs cg _ Vl.o.lf hn Vl.o.vT g5 nm acT.o);go_upto_region 3 with fail;go_wp2_with fail;refine HIX.o.mono ?_;rintro e w3 ⟨rfl,m3⟩;clear x4 y2 HIX;have CT:=ai (Vl.o.quiet m3);have dw:af (aa (λk=>k=mp\/jc a k) w w3):=dD.o.trans (m3.mono (λ_ _ h=>h.elim));have YE:=ai (aa7.o.ag m3 id);have YF:=ai (acU.o.ag m3 id);clear m3 Vl dD aa7 acT acU;cases hix:xQ fs nm with
 |none =>
  have HI:af (FI fs nm=-1):=by unfold af FI;rw[hix]
  have NN:af (tL fs gs ms nm inp fuel=({},gs,ms)):=by unfold af tL;rw[hix]
  rw[HI.o];have HZ1:af (pg.all (·.oneCell')=true):=by unfold af pg;simp[Value.oneCell']
  clear HI HH hix aeN HVM;go_upto_region 5 with fail;go_wp2_with (rw[<-HZR.o];refine dF rfl 34 (.tmp 8) (.tmp 26) rfl g8 pg rfl rfl 34 _ YF.o (by kernel_rfl) rfl HZ1.o ?_;intro W4 hB4 Sa);have gq:=ai hB4;have aa8:af (dR (.int .i32 1) c1 wT tv bs mp (.slice oF fs.length cF) fs cg a gs ms W4):=CT.o.ag Sa (λk hk=>by rw[show k=g8 from hk];exact HFR.o g8 (bj YD.o));have fU:af (aa (λk=>k=mp\/jc a k) w W4):=dw.o.step Sa (λk hk e=>by have h1:k=g8:=e;have:=YD.o;omega);refine leaves_cons (f:=27) (args:=#[.pointer (some ⟨mp,0,none⟩)]) (by simp) (by simp[go_sem]) ?_;refine(Go.MuLone.unlock_deferred Vc ⟨mp,0,none⟩ .returning W4 (aa8.o.blk.cell 0) (aa8.o.blk.frozen 0)).mono ?_;rintro e u' w5 ⟨rfl,rfl,rfl⟩;have iT:af (ak (W4.setCell ⟨mp,0,none⟩ (.int .i32 0)) g8 pg 34):=gq.o.setOther (a:=⟨mp,0,none⟩) (by have:=Ro.o;have:=YD.o;simp only;omega) _;refine⟨_,results_cell_row results20 _ _ g8 34 _ (0,0) _ rfl iT.o underlying34 rfl (by kernel_rfl),?_⟩;rw[NN.o];exact⟨.slice none 0 0,a,rfl,Sl.nil _ _ _,aa8.o.turn _,rfl,rfl,λk hk=>.inl hk,fU.o.trans (((aa.refl (Only mp) W4).aY 0 _).mono (λ_ _ h=>.inl h))⟩
 |some fn =>
  have HI:af (FI fs nm=(fn:Int)):=by unfold af FI;rw[hix]
  have NN:af (tL fs gs ms nm inp fuel=(tK fs (FC fs gs ms fn inp fuel),(FC fs gs ms fn inp fuel).2.gs,(FC fs gs ms fn inp fuel).2.ms)):=by unfold af tL;rw[hix]
  have hfn:fn<fs.length:=Vh hix;rw[HI.o];clear HI hix HH HZR;have x4:=YE.o.cell 0;have y3:w3.cell? ⟨mp,3,none⟩=some (.slice oM ms.length cM):=by rw[<-HVM.o];exact CT.o.blk.cell 3
  have HST:=ai (Qz w3 a.rb a.mb a.vs gs CT.o.qU oM ms.length cM fn inp hs fuel hf);have KC:=ai hfn;go_upto_region 6 with fail;go_wp2_with fail;refine HST.o.mono ?_;rintro e w4 ⟨b,R,S,v1,v2,vC,rfl,hr4,hg4,m4,lb,lC,lR,lS,l1,l2⟩;clear x4 y3 HST;have CU:af (ak (w4.alloc (.cells #[.pointer (some ⟨b,0,none⟩)] 77)) w4.heap.size #[pt b] 77):=ak.new w4 _ _;have m5:aa ae w4 (w4.alloc (.cells #[.pointer (some ⟨b,0,none⟩)] 77)):=(aa.refl ae w4).alloc _;have iC:=ai m5;have aeO:af (w4.heap.size<(w4.alloc (.cells #[.pointer (some ⟨b,0,none⟩)] 77)).heap.size):=CU.o.lt;have wm:=ai hr4;have aa9:=ai hg4;have aba:=ai m4;have Rm:af (w3.heap.size<=b/\(∀k,vC.ownBlock=some k->w3.heap.size<=k)/\w3.heap.size<=R/\w3.heap.size<=S/\(∀k,v1.ownBlock=some k->w3.heap.size<=k)/\(∀k,v2.ownBlock=some k->w3.heap.size<=k)):=⟨lb,lC,lR,lS,l1,l2⟩
  clear m5 hr4 hg4 m4 lb lC lR lS l1 l2;go_upto_region 7 with fail;generalize w4.alloc (.cells #[.pointer (some ⟨b,0,none⟩)] 77)=W5 at *;have HW3:af (w.heap.size<w3.heap.size):=YE.o.lt;have HW8:af (g8<w3.heap.size):=YF.o.lt;have FX:af (w3.heap.size<=w4.heap.size):=aba.o.size;obtain⟨F,hF⟩:∃F:Nat->Prop,F=λk=>jc a k\/(w3.heap.size<=k/\k≠w4.heap.size):=⟨_,rfl⟩
  have HF:af (∀k,F k↔jc a k\/(w3.heap.size<=k/\k≠w4.heap.size)):=λk=>by rw[hF]
  clear hF;have HFF:af (∀k,F k->jc a k\/w3.heap.size<=k):=λk hk=>((HF.o k).1 hk).elim .inl (λh=>.inr h.1);have uF:af (∀k,w.heap.size<=k->¬jc a k):=λk hk h=>(HFR.o k hk).2 (.inr (.inl h))
  have zy:af (¬F w.heap.size/\¬F g8/\¬F w4.heap.size):=by
   have h1:=HW3.o;have h2:=HW8.o;have h3:=YD.o;have h4:=FX.o;refine⟨λh=>?_,λh=>?_,λh=>?_⟩
   ·exact((HF.o _).1 h).elim (uF.o _ (ao _)) (λe=>by omega)
   ·exact((HF.o _).1 h).elim (uF.o _ (bj h3)) (λe=>by omega)
   ·exact((HF.o _).1 h).elim (uF.o _ (by omega)) (λe=>e.2 rfl)
  have HMQ:af (aa ae w3 W5):=aba.o.trans iC.o;have GX:af (eW F W5 b ⟨a.rb++[R]++[S],a.mb,a.vs++[v1]++[v2],a.ve,a.vM,vC,.slice none 0 0⟩ (qJ gs ms fn inp fuel)):=by obtain⟨lb,lC,lR,lS,l1,l2⟩:=Rm.o;obtain⟨q1,q2⟩:=aa9.o.acS;have up:∀k,w3.heap.size<=k->k<w4.heap.size->F k:=λk h1 h2=>(HF.o k).2 (.inr ⟨h1,by omega⟩);have hr:=wm.o.quiet iC.o;rw[<-HVM.o]at hr;exact Vj CT.o HMQ.o hr (aa9.o.quiet iC.o) (λk hk=>(HF.o k).2 (.inl hk)) (up b lb wm.o.blk.lt) (up R lR (q1 R (by simp))) (up S lS (q1 S (by simp))) (λk hk=>up k (l1 k hk) (q2 v1 (by simp) k hk)) (λk hk=>up k (l2 k hk) (q2 v2 (by simp) k hk)) (λk hk=>up k (lC k hk) (wm.o.calls.lt k hk))
  have rq:bR fs.length (qJ gs ms fn inp fuel):=Vf KC.o CT.o.gok CT.o.mok CT.o.own inp fuel;have hsp:=Vg hco KC.o gs ms inp fuel;have abb:af (vZ F wT tv bs mp (.slice oF fs.length cF) fs cg W5):=(CT.o.cd HFF.o).quiet HMQ.o
  have HFO:af (Calls prog 33 #[pt mp,pt b] W5 λe w'=>dG F W5 b ⟨a.rb++[R]++[S],a.mb,a.vs++[v1]++[v2],a.ve,a.vM,vC,.slice none 0 0⟩ (FC fs gs ms fn inp fuel) e w') :=
   Lp W5 b _ (qJ gs ms fn inp fuel) fs GX.o rq (.inr hsp) (λk hk=>(HF.o k).2 (.inr (by have:=FX.o;have:=aeO.o;omega))) (Nat.zero_le _) (by show Mt fuel<=5000;unfold Mt;omega) hco wT tv bs mp _ cg abb.o (hH F b) hK
  have uH:af (bR fs.length (FC fs gs ms fn inp fuel).2):=(DZ hco hK _ _ rq rfl (.inr hsp)).1;have abd:=ai (YE.o.ag HMQ.o id);have acV:=ai (YF.o.ag HMQ.o id);clear GX rq hsp YE YF wm aa9 Rm aba iC hco hH hK hs hf hn;generalize FC fs gs ms fn inp fuel=d at *;generalize w4.heap.size=g10 at *;have x4:=abd.o.cell 0;have x10:=CU.o.cell 0;go_upto_region 8 with fail;go_wp2_with fail;refine HFO.o.mono ?_;rintro e w6 ⟨Yz,m6,a6,ZU,em6,ev6⟩;clear x4 x10 HFO;have abe:af (aa F w3 w6):=(HMQ.o.mono (λ_ _ h=>h.elim)).trans m6;obtain⟨acW,hFt⟩:=YB CT.o HFF.o abe.o ZU uH.o ev6;have IZ:=ai acW;have HFT:af (∀k,jc a6 k->jc a k\/w.heap.size<=k):=λk hk=>(HFF.o k (hFt k hk)).imp id (λh=>bh (bj HW3.o) h);have sW:af (aa (λk=>k=mp\/jc a k) w w6):=dw.o.trans (abe.o.mono (λk hlt hk=>(HFF.o k hk).elim .inr (λh=>absurd hlt (Nat.not_lt.2 h))));have acX:=ai (abb.o.ag m6);have acY:=ai (abd.o.ag m6 zy.o.1);have YG:=ai (acV.o.ag m6 zy.o.2.1);have Vm:=ai (CU.o.ag m6 zy.o.2.2);have LK:=ai ZU;have HE6:af (a6.mb=a.mb/\a6.vM=a.vM):=⟨em6,ev6⟩
  clear acW hFt m6 ZU em6 ev6 abb abd acV CU dw abe CT HMQ HFF zy uF;obtain⟨oL,cL,KM,_⟩:=LK.o.log.view;have O7:af ((mK (tK fs d) a6.vL).all (·.oneCell')=true):=by unfold af;rw[KM];exact IY _ _ _ _
  have Ru:af ((mK (tK fs d) a6.vL).size=7):=rfl;have HLG:af (Sl w6 22 1 a6.vL (tK fs d).log.length (Qy (tK fs d).log)):=by unfold af;rw[Vi];exact LK.o.log
  have nD:af (∀W (tm:tAV),tm.getD 8 undef=pt g8->aa (Only g8) w6 W->ak W g8 (mK (tK fs d) a6.vL) 34->Leaves prog f20 tm (λe w'=>FJ c1 wT tv bs mp (.slice oF fs.length cF) fs cg a w (tL fs gs ms nm inp fuel) e w') [{target:=.fn (.func 27) #[],args:=#[.pointer (some ⟨mp,0,none⟩)]}] .returning W):=λW tm htm m7 hB7=>by
   have abf:dR (.int .i32 1) c1 wT tv bs mp (.slice oF fs.length cF) fs cg a6 d.2.gs d.2.ms W:=IZ.o.ag m7 (λk hk=>by
    have e:k=g8:=hk;subst e;refine⟨(HFR.o k (bj YD.o)).1,λhw=>?_⟩;have ht:Ty w6 k 34:=YG.o.ty;rcases hw with rfl|hw|hw|hw|hw
    ·have:=Ro.o;have:=YD.o;omega
    ·exact IZ.o.uo ht (by decide) hw
    ·exact absurd (ht.one (IZ.o.vT.ty hw)) (by decide)
    ·obtain⟨i,hi,rfl⟩:=ab hw;exact absurd (ht.one (IZ.o.code i (by rw[<-IZ.o.lf];exact hi) hi).ty) (by decide)
    ·exact absurd (ht.one (IZ.o.maps.zx.ty hw)) (by decide))
   refine leaves_cons (f:=27) (args:=#[.pointer (some ⟨mp,0,none⟩)]) (by simp) (by simp[go_sem]) ?_;refine(Go.MuLone.unlock_deferred Vc ⟨mp,0,none⟩ .returning W (abf.blk.cell 0) (abf.blk.frozen 0)).mono ?_;rintro e u' w5 ⟨rfl,rfl,rfl⟩;have Kh:ak (W.setCell ⟨mp,0,none⟩ (.int .i32 0)) g8 (mK (tK fs d) a6.vL) 34:=hB7.setOther (a:=⟨mp,0,none⟩) (by have:=Ro.o;have:=YD.o;simp only;omega) _;refine⟨_,results_cell_row results20 _ _ g8 34 _ (0,0) _ htm Kh underlying34 rfl (by kernel_rfl),?_⟩;rw[NN.o];have mU:aa (Only mp) W (W.setCell ⟨mp,0,none⟩ (.int .i32 0)):=(aa.refl (Only mp) W).aY 0 _;refine⟨a6.vL,a6,rfl,?_,abf.turn _,HE6.o.1,HE6.o.2,HFT.o,(sW.o.step m7 (λk hk e=>by have h1:k=g8:=e;have:=YD.o;omega)).trans (mU.mono (λ_ _ h=>.inl h))⟩;refine(HLG.o.ag m7 (λk hk e=>?_)).ag mU (λk hk e=>?_)
   ·have h1:k=g8:=e;subst h1;exact absurd (YG.o.ty.one (HLG.o.ty hk)) (by decide)
   ·have h1:k=mp:=e;subst h1;exact absurd (IZ.o.blk.ty.one (HLG.o.ty hk)) (by decide)
  by_cases h0:d.1=0
  ·rw[iP9 h0]at Yz;subst Yz;have Gf:af (Calls prog 34 #[pt b] w6 λe w'=>e=.returned (.agg (mK (tK fs d) a6.vL))/\aa ae w6 w'):=by rw[<-YA fs d h0];exact DY LK.o uH.o
   have x10:=Vm.o.cell 0;clear NN HLG IZ HFT sW acX acY Vm LK HE6 uH KM;generalize mK (tK fs d) a6.vL=cs at *;go_upto_region 9 with fail;go_wp2_with fail;refine Gf.o.mono ?_;rintro e w7 ⟨rfl,m7⟩;have xG:=ai m7;have aeP:=ai (YG.o.ag m7 id);clear x10 Gf m7;go_wp2_with (refine dF rfl 34 (.tmp 8) (.tmp 40) rfl g8 cs rfl rfl 34 _ aeP.o (by rw[Ru.o];kernel_rfl) (by rw[Ru.o];rfl) O7.o ?_;intro W8 hB8 hm8);refine leaves_cons (f:=31) (args:=#[pt w.heap.size,pt g10,pt g8]) (by simp) (by simp[go_sem]) ?_;refine(QX W8 _ _ _).mono ?_;rintro e u' w9 ⟨rfl,rfl,rfl⟩;exact nD.o w9 _ rfl ((xG.o.mono (λ_ _ h=>h.elim)).trans hm8) hB8
  ·rw[iN9 h0]at Yz;subst Yz;have HTS:af (Calls prog 32 #[pt mp,pt b,.int .i64 d.1] w6 λe w'=>e=.returned (.agg (mK (tK fs d) a6.vL))/\aa ae w6 w'):=by rw[<-QZ fs d h0];exact Lr LK.o uH.o acX.o d.1
   refine leaves_cons (f:=31) (args:=#[pt w.heap.size,pt g10,pt g8]) (by simp) (by simp[go_sem]) ?_;refine(QY w6 w.heap.size g10 g8 mp b d.1 _ pg acY.o Vm.o YG.o rfl Ru.o O7.o HTS.o).mono ?_;rintro e u' w9 ⟨rfl,rfl,hB9,m9⟩;exact nD.o w9 _ rfl m9 hB9
def MT(vM:Value)(mb:List Nat)(n:Nat):Ad:=⟨[],mb,[],al n (.slice none 0 0),vM,.slice none 0 0,.slice none 0 0⟩
def ZX(m:az):Prop:=(1<=m.key/\m.key<=8)/\(1<=m.value/\m.value<=16)/\m.entries<=8
theorem oK.mch{wT:tW}{tv:Value}{bs:List Nat}{b:Nat}{vF vM:Value}{fs:List aS}{gs:List Nat}{ms:List az}{mb:List Nat}{w:tW}(h:oK wT bs b vF vM fs gs ms mb w)(ht:aH 0 wT tv bs aq)(hm:∀m∈ms,ZX m):dR (.int .i32 0) (.int .u32 0) wT tv bs b vF fs gs (MT vM mb ms.length) [] (jB ms) w:=by
 have hl:(jB ms).length=ms.length:=by unfold jB;rw[List.length_map]
 have hve:∀i,i<ms.length->(al ms.length (Value.slice none 0 0)).getD i undef=.slice none 0 0:=λi hi=>by rw[List.getD_eq_getElem?_getD,List.getElem?_replicate_of_lt hi];rfl
 have hnm:∀i (hi:i<ms.length),(jB ms).getD i xP=⟨ms[i].name,ms[i].key,ms[i].value,ms[i].entries,[]⟩:=λi hi=>by unfold jB;rw[List.getD_eq_getElem?_getD,List.getElem?_map,List.getElem?_eq_getElem hi];rfl
 have hmb:∀i (hi:i<mb.length),mb.getD i 0=mb[i]:=λi hi=>by rw[List.getD_eq_getElem?_getD,List.getElem?_eq_getElem hi];rfl
 refine⟨h.blk,h.lf,h.vT,h.code,ht,h.md.mono (λ_ _ h=>h.elim),⟨rfl,rfl,λi hi=>absurd hi (an _),λi hi=>absurd hi (an _),λi j hi=>absurd hi (an _),λi j k hi=>absurd hi (an _)⟩,⟨?_,?_,?_,?_,?_,?_,?_⟩,λg hg=>(by cases hg),?_,?_,?_,h.lo⟩
 ·rw[hl];exact h.lm
 ·rw[hl];exact List.length_replicate
 ·rw[hl];exact h.zx
 ·intro i hi;rw[hl]at hi;have hi':i<mb.length:=by rw[h.lm];exact hi
  rw[hnm i hi];show ak w (mb.getD i 0) #[_,_,_,_,(al ms.length (Value.slice none 0 0)).getD i undef] _
  rw[hve i hi,hmb i hi'];exact h.maps i hi hi'
 ·intro i hi;rw[hl]at hi;rw[hnm i hi];show Sl w _ _ ((al ms.length (Value.slice none 0 0)).getD i undef) _ _
  rw[hve i hi];exact Sl.nil _ _ _
 ·intro i j hi hj e;rw[hl]at hi hj;have hi':i<mb.length:=by rw[h.lm];exact hi
  have hj':j<mb.length:=by rw[h.lm];exact hj
  have e':mb.getD i 0=mb.getD j 0:=e;rw[hmb i hi',hmb j hj']at e';exact(List.getElem_inj h.nd).1 e'
 ·intro i j k hi hj e;rw[hl]at hi;have e':((al ms.length (Value.slice none 0 0)).getD i undef).ownBlock=some k:=e;rw[hve i hi]at e';cases e'
 ·intro m hm';unfold jB at hm';obtain⟨p,hp,rfl⟩:=List.mem_map.1 hm';obtain⟨h1,h2,h3⟩:=hm p hp;exact⟨h1,h2,h3,Nat.zero_le _,(λe he=>by cases he),(λe he=>by cases he),List.Pairwise.nil⟩
 ·have:jU (jB ms)=[]:=by unfold jU jB;rw[List.flatMap_map];exact List.flatMap_eq_nil_iff.2 (λx _=>rfl)
  rw[this];exact List.nodup_nil
 ·intro k hk;rcases hk with hk |⟨v,hv,hk⟩|hk |⟨v,hv,hk⟩
  ·cases hk
  ·cases hv
  ·exact h.ownB k hk
  ·rw[aE hv]at hk;cases hk
def uq(w:tW)(d:List az×List aS×PR)(e:Ending)(w':tW):Prop :=
 if d.2.2.bad then e=.returned (.tuple #[.pointer none,.int .i64 7])/\aa ae w w'
 else ∃sb bs b vF vM gs mb tv wT,e=.returned (.tuple #[pt sb,.int .i64 0])/\aH 0 wT tv bs aq/\aa ae w wT/\(∀f∈d.2.1,∀x∈f.code,eU x)/\oK wT bs b vF vM d.2.1 gs d.1 mb w'/\ak w' sb #[pt b] 58/\w.heap.size<=sb/\aa ae w w'
theorem Q0(w:tW)(s:tBA)(d:List az×List aS×PR)(h:Calls prog 22 #[.string s] w λe w'=>xL w d e w'):Calls prog 16 #[.string s] w λe w'=>uq w d e w':=by
 have HL:=ai h;clear h;unfold xL at HL;go_enter func16,ntmps16;go_wp2_with fail;refine HL.o.mono ?_;intro e w1 hp;by_cases hb:d.2.2.bad=true
 ·rw[iP9 hb]at hp;obtain⟨rfl,m1⟩:=hp;have HM:=ai m1;clear m1 HL;go_wp2_with fail;go_ret2;unfold uq;rw[iP9 hb];exact⟨rfl,HM.o⟩
 ·rw[iN9 hb]at hp;obtain⟨bs,b,vF,vM,gs,mb,tv,wT,rfl,hO,mT,hP,hA⟩:=hp;have HO:=ai hO;have Cv:=ai mT;have HP:=ai hP;have HA:=ai hA;have HM:af (aa ae w w1):=mT.trans hA.md;clear hO mT hP hA HL;go_wp2_with fail;go_ret2;unfold uq;rw[iN9 hb];have mA:aa ae w1 (w1.alloc (.cells #[pt b] 58)):=aj;refine⟨w1.heap.size,bs,b,vF,vM,gs,mb,tv,wT,rfl,HO.o,Cv.o,HP.o,HA.o.quiet mA,ak.new w1 _ _,HM.o.size,HM.o.trans mA⟩
theorem Ch{c1:Value}{wT:tW}{tv:Value}{bs:List Nat}{mp:Nat}{vF:Value}{fs:List aS}{cg:List Nat}{a:Ad}{gs:List (List Nat)}{ms:List yU}{w:tW}(h:dR (.int .i32 0) c1 wT tv bs mp vF fs cg a gs ms w)(sb:Nat)(hsb:ak w sb #[pt mp] 58)(hco:qK fs ms.length)(hH:∀F b,MJ F b fs)(hK:xU fs)(hn:fs.length<=1000)(nm:tLB)(inp:tBA)(hs:inp.size<=9223372036854775807)(fuel:Int)(hf:-9223372036854775808<=fuel/\fuel<=9223372036854775807):Calls prog 12 #[pt sb,.string (T nm),.string inp,.int .i64 fuel] w λe w'=>FJ c1 wT tv bs mp vF fs cg a w (tL fs gs ms nm inp fuel) e w':=by
 have dh:af (aa ae w (w.alloc (.cells pg 34))):=(aa.refl ae w).alloc _;have HB1:af (ak (w.alloc (.cells pg 34)) w.heap.size pg 34):=ak.new w _ _;have HZR:af (pg=#[.int .i64 0,.string ⟨#[]⟩,.int .i64 0,.int .u64 0,.string ⟨#[]⟩,.slice none 0 0,.int .i64 0]):=rfl;have Cr:=ai (hsb.ag dh.o id);have Wg:=ai (Vk (h.quiet dh.o) hco hH hK hn nm inp hs fuel hf);have HFR:af (∀k,w.heap.size<=k->wT.heap.size<=k/\¬Whole mp vF cg a k):=h.fresh;clear h hsb hco hH hK hs hf hn;go_enter func12,ntmps12;go_upto_region 1 with fail;rw[<-HZR.o];generalize w.alloc (.cells pg 34)=W1 at *;have x0:=Cr.o.cell 0;go_wp2_with fail;refine Wg.o.mono ?_;rintro e w2 ⟨vL,a',rfl,hL,Vn,h1,h2,h3,m2⟩;obtain⟨oL,cL,KM,_⟩:=hL.view;have O7:af ((mK (tL fs gs ms nm inp fuel).1 vL).all (·.oneCell')=true):=by unfold af;rw[KM];exact IY _ _ _ _
 have Ru:af ((mK (tL fs gs ms nm inp fuel).1 vL).size=7):=rfl;have HL:=ai hL;have HMC:=ai Vn;have HE:af (a'.mb=a.mb/\a'.vM=a.vM):=⟨h1,h2⟩
 have HF:af (∀k,jc a' k->jc a k\/w.heap.size<=k):=λk hk=>(h3 k hk).imp id (λh=>bh dh.o.size h);have HB2:=ai (HB1.o.ag m2 (λhk=>(HFR.o _ (ao _)).2 (hk.elim (λe=>.inl e) (λe=>.inr (.inl e)))));have dD:af (aa (λk=>k=mp\/jc a k) w w2):=(dh.o.mono (λ_ _ h=>h.elim)).trans m2;have Jn:af (w.heap.size≠mp):=λe=>(HFR.o _ (ao _)).2 (.inl e);clear hL Vn h1 h2 h3 m2 KM x0 Wg Cr HB1 dh;generalize hcs:mK (tL fs gs ms nm inp fuel).1 vL=cs at *;go_wp2_with (refine dF rfl 34 (.tmp 8) (.tmp 16) rfl w.heap.size cs rfl rfl 34 _ HB2.o (by rw[Ru.o];kernel_rfl) (by rw[Ru.o];rfl) O7.o ?_;intro W3 hB3 uy);refine bodyPost_ret (results_cell_row results12 _ _ w.heap.size 34 _ (0,0) _ rfl hB3 underlying34 rfl (by rw[Ru.o];kernel_rfl)) rfl ⟨vL,a',by rw[hcs],?_,HMC.o.ag uy (λk hk=>?_),HE.o.1,HE.o.2,HF.o,dD.o.step uy (λk hk e=>by have h1:k=w.heap.size:=e;omega)⟩
 ·exact HL.o.ag uy (λk hk e=>by have h1:k=w.heap.size:=e;subst h1;exact absurd (HB2.o.ty.one (HL.o.ty hk)) (by decide))
 ·have e:k=w.heap.size:=hk;subst e;refine⟨(HFR.o _ (ao _)).1,λhw=>?_⟩;have ht:Ty w2 w.heap.size 34:=HB2.o.ty;rcases hw with hw|hw|hw|hw|hw
  ·exact Jn.o hw
  ·exact HMC.o.uo ht (by decide) hw
  ·exact absurd (ht.one (HMC.o.vT.ty hw)) (by decide)
  ·obtain⟨i,hi,hw⟩:=ab hw;rw[<-hw]at ht;exact absurd (ht.one (HMC.o.code i (by rw[<-HMC.o.lf];exact hi) hi).ty) (by decide)
  ·exact absurd (ht.one (HMC.o.maps.zx.ty hw)) (by decide)
